import Derived.Test.YtminjljgedopkaaGreatDoorM37
set_option linter.all false
set_option maxRecDepth 100000
set_option maxHeartbeats 40000000
namespace Go.Proofs.YtminjljgedopkaaGreatDoor
open Go.RowKit Go.Proofs.Tryz
def okIn(p:Fl.Prog)(x:List Fl.Node)(n:Fl.Node)(k:Int):Bool:=decide (Fl.role (Fl.nd x k).kind=1) && Fl.under p n.level (Fl.nd x k).level
section
variable{w:World}{Cb Pb Lb Rl nb no:Nat}{vv nv hv lv:Value}{p:Fl.Prog}{vs:List Int}{x:List Fl.Node}{n:Fl.Node}
def blockFollows_any(h:ChkIn w Cb Pb Lb Rl vv nv hv p vs x)(hn:NdAt w nb no n lv)(hk:∀k∈n.list,POk p x k)(t0:n.list.length<=100)(hl:0<=n.level/\n.level<p.n):
  Calls prog 122 #[.pointer (some ⟨Cb,0,none⟩),.pointer (some ⟨nb,no,none⟩)] w λe w'=>e=.returned (.bool (n.list.all (okIn p x n)))/\Below w.heap.size w w':=by
 obtain⟨ao,cap,rfl,hc,-,f0⟩:=hn.li;have n5:=hn.c5;have HS:Hid (∀W,Below w.heap.size w W->Below w.heap.size w W/\W.cell? ⟨nb,no+1,none⟩=some (.int .i64 n.level)):=λW hW=>⟨hW,(hn.below hW).c1⟩
 have HE:Hid (∀i,(hi:i<n.list.length)->∃b off,ao=some ⟨b,off,none⟩/\∃y:Nat,(y:Int)=n.list[i]/\(∀W,Below w.heap.size w W->W.cell? ⟨b,off+i,none⟩=some (.int .i64 (y:Int)))/\(∀W,Below w.heap.size w W->Calls prog 160 #[.pointer (some ⟨Cb,0,none⟩),.int .i64 1,.int .i64 y] W λe w'=>e=.returned (.bool (decide (Fl.role (Fl.nd x n.list[i]).kind=1)))/\w'=W.drew)/\
   (∀W,Below w.heap.size w W->Calls prog 161 #[.pointer (some ⟨Cb,0,none⟩),.int .i64 y] W λe w'=>e=.returned (.int .i64 (Fl.nd x n.list[i]).level)/\w'=W)/\
   (∀W v,Below w.heap.size w W->Zy W.heap.size W v [n.level]->Calls prog 159 #[.pointer (some ⟨Cb,0,none⟩),.int .i64 (Fl.nd x n.list[i]).level,v] W λe w'=>e=.returned (.bool (Fl.under p n.level (Fl.nd x n.list[i]).level))/\w'=W)):=λi hi=>by
  obtain⟨b,off,e,hbz,u0⟩:=f0 (by intro h;rw[h]at hi;simp at hi);have hp:=hk n.list[i] (List.getElem_mem hi);have hy:((n.list[i].toNat:Nat):Int)=n.list[i]:=(by have:=hp.1;omega);refine⟨b,off,e,n.list[i].toNat,hy,λW hW=>?_,λW hW=>is_nd (h.below hW) 1 _ hp _ hy,λW hW=>level_nd (h.below hW) _ hp _ hy,λW v hW hv=>?_⟩
  ·rw[hy]
   refine(hW.cell (p:=⟨b,off+i,none⟩) hbz).trans ?_;rw[u0 i hi,Qa,Qb hi];rfl
  obtain⟨tn,v0⟩:∃tn:Nat,(tn:Int)=(Fl.nd x n.list[i]).level:=⟨(Fl.nd x n.list[i]).level.toNat,by have:=hp.2.2.1;omega⟩;have h1:=under_any (h.below hW) tn (by have:=hp.2.2.2.1;omega) v [n.level] hv (by simp) (by intro u hu;simp at hu;subst hu;exact hl);rw[v0]at h1;simpa using h1
 have x0:(n.list.length:Int)<=100:=by omega
 have y0:(n.list.length:Int)<=(cap:Int):=by omega
 obtain⟨L,hL⟩:=nmE (n.list);rw[<-hL]at n5 x0 y0 hc t0⊢
 have z0:Hid (∀i,(hi:i<L.length)->∃b off,ao=some ⟨b,off,none⟩/\∃(y:Nat) (isb un:Bool) (lvk:Int),(∀W,Below w.heap.size w W->W.cell? ⟨b,off+i,none⟩=some (.int .i64 (y:Int)))/\(∀W,Below w.heap.size w W->Calls prog 160 #[.pointer (some ⟨Cb,0,none⟩),.int .i64 1,.int .i64 y] W λe w'=>e=.returned (.bool isb)/\w'=W.drew)/\
   (∀W,Below w.heap.size w W->Calls prog 161 #[.pointer (some ⟨Cb,0,none⟩),.int .i64 y] W λe w'=>e=.returned (.int .i64 lvk)/\w'=W)/\
   (∀W v,Below w.heap.size w W->Zy W.heap.size W v [n.level]->Calls prog 159 #[.pointer (some ⟨Cb,0,none⟩),.int .i64 lvk,v] W λe w'=>e=.returned (.bool un)/\w'=W)/\okIn p x n L[i]=(isb && un)):=λi hi=>by
  subst hL;obtain⟨b,off,e,y,hy,h1,h2,h3,h4⟩:=HE.out i hi;exact⟨b,off,e,y,_,_,_,h1,h2,h3,h4,rfl⟩
 clear h hn f0 hk HE hL
 go_enter func122,ntmps122
 go_wp2_with fail
 go_loopw [12] (λi wr=>Below w.heap.size w wr/\∃k:Nat,k<=L.length/\i=.int .i64 k/\(L.take k).all (okIn p x n)=true) (λi _=>L.length - (intOf i).toNat)
 case atStart=>exact⟨Below.refl _ _,0,Nat.zero_le _,rfl,rfl⟩
 case round=>
  obtain⟨k0,k,hk,rfl,hall⟩:=hrel;have a0:=Zz k0;have i0:=Zz hall;clear k0 hall
  by_cases j0:k<L.length
  ·have A0:(k:Int)<(L.length:Int):=by omega
   obtain⟨b,off,rfl,y,isb,un,lvk,l0,m0,n0,o0,p0⟩:=z0.out k j0;have cy:=l0 wr a0.out;have q0:=Zz m0;have r0:=Zz n0;have HU:=Zz o0;obtain⟨yk,s0⟩:=nmE (L[k]);have e0:Hid (yk∈L/\L.take (k+1)=L.take k++[yk]/\okIn p x n yk=(isb && un)):=(by rw[s0];exact⟨List.getElem_mem j0,List.take_succ_eq_append_getElem j0,p0⟩)
   have c0:Hid ((isb && un)=false->L.all (okIn p x n)=false):=λh0=>by
    rw[List.all_eq_false];exact⟨yk,e0.out.1,by rw[e0.out.2.2,h0];simp⟩
   have g0:Hid ((isb && un)=true->(L.take (k+1)).all (okIn p x n)=true):=λh0=>by
    rw[e0.out.2.1,List.all_append,i0.out,List.all_cons,e0.out.2.2,h0];rfl
   have d0:Hid (Below w.heap.size w (wr.alloc (.cells #[.int .i64 n.level] 3)).drew.drew):=((a0.out.alloc a0.out.size _).drew).drew;clear l0 m0 n0 o0 p0 s0
   cases isb with
   |false=>
    have HF:Hid (L.all (okIn p x n)=false):=c0.out rfl
    go_wp2_with fail
    refine wp_region_mid (λW=>Below w.heap.size w W/\W.cell? ⟨nb,no+1,none⟩=some (.int .i64 n.level)) [(0,0),(0,1),(1,2),(0,3),(0,4),(0,5),(0,6),(0,7),(0,9),(0,10),(0,11),(0,12)] 8 13 [(1,14),(0,15),(0,16)] [(4,20)] (by kernel_rfl) (by kernel_rfl) rfl [(_,_),(_,_),(_,_),(_,_),(_,_),(_,_),(_,_),(_,_),(_,_),(_,_),(_,_),(_,_)] [(_,_),(_,_),(_,_)] _ _ rfl rfl rfl rfl (λc a d v w h=>by cases d<;>exact h) (HS.out _ (a0.out.drew)) (λops hG=>?_);have g1:=hG (4,20) (by simp);simp only at g1;clear hG;simp only[List.getElem_toArray,List.getElem_cons_succ,List.getElem_cons_zero]
    iterate 2 refine Ye rfl (kE (by rintro _ ⟨_,_⟩;go_simp<;>rfl) (by go_simp<;>rfl) ?_)
    refine Xl ?_
    go_wp2_with fail
    refine(q0.out _ (a0.out.drew)).mono ?_;rintro e W1 ⟨rfl,b0⟩;rw[b0];clear b0 W1
    go_wp2_with fail
    refine⟨HS.out _ (a0.out.drew.drew),?_⟩
    iterate 2 refine Ye rfl (kE (by rintro _ ⟨_,_⟩;go_simp<;>rfl) (by go_simp<;>rfl) ?_)
    iterate 7
     refine then_skip rfl (c:=true) (by simp[yielded,g1,Act.put]) (by decide) ?_
    refine Vx ⟨HS.out _ (a0.out.drew.drew),?_,?_⟩
    ·unfold wpPair
     refine wpList_skip (by simp[Region.wanted,yielded,g1,Act.put]) ⟨HS.out _ (a0.out.drew.drew),?_⟩;refine wpList_skip (by simp[Region.wanted,yielded,g1,Act.put]) ⟨HS.out _ (a0.out.drew.drew),?_⟩;refine then_do_skip rfl (c:=true) (by simp[yielded,g1,Act.put]) (by decide) (HS.out _ (a0.out.drew.drew)) ?_;refine then_skip rfl (c:=true) (by simp[yielded,g1,Act.put]) (by decide) ?_;refine Ye rfl (kE (by rintro _ ⟨_,_⟩;go_simp<;>rfl) (by go_simp<;>rfl) ?_);refine Vx ⟨HS.out _ (a0.out.drew.drew),?_⟩;clear g1;go_wp2;go_ret;exact⟨cbE HF.out,a0.out.drew.drew⟩
    unfold wpPair;refine wpList_skip (by simp[Region.wanted,yielded,g1,Act.put]) ⟨HS.out _ (a0.out.drew.drew),?_⟩;refine wpList_skip (by simp[Region.wanted,yielded,g1,Act.put]) ⟨HS.out _ (a0.out.drew.drew),?_⟩;refine then_do_skip rfl (c:=true) (by simp[yielded,g1,Act.put]) (by decide) (HS.out _ (a0.out.drew.drew)) ?_;refine then_skip rfl (c:=true) (by simp[yielded,g1,Act.put]) (by decide) ?_;refine Ye rfl (kE (by rintro _ ⟨_,_⟩;go_simp<;>rfl) (by go_simp<;>rfl) ?_);refine Vx ⟨HS.out _ (a0.out.drew.drew),?_⟩;clear g1;go_wp2;go_ret;exact⟨cbE HF.out,a0.out.drew.drew⟩
   |true=>
    go_wp2_with fail
    refine wp_region_mid (λW=>Below w.heap.size w W/\W.cell? ⟨nb,no+1,none⟩=some (.int .i64 n.level)) [(0,0),(0,1),(1,2),(0,3),(0,4),(0,5),(0,6),(0,7),(0,9),(0,10),(0,11),(0,12)] 8 13 [(1,14),(0,15),(0,16)] [(4,20)] (by kernel_rfl) (by kernel_rfl) rfl [(_,_),(_,_),(_,_),(_,_),(_,_),(_,_),(_,_),(_,_),(_,_),(_,_),(_,_),(_,_)] [(_,_),(_,_),(_,_)] _ _ rfl rfl rfl rfl (λc a d v w h=>by cases d<;>exact h) (HS.out _ (a0.out.drew)) (λops hG=>?_);have g1:=hG (4,20) (by simp);simp only at g1;clear hG;simp only[List.getElem_toArray,List.getElem_cons_succ,List.getElem_cons_zero]
    iterate 2 refine Ye rfl (kE (by rintro _ ⟨_,_⟩;go_simp<;>rfl) (by go_simp<;>rfl) ?_)
    refine Xl ?_
    go_wp2_with fail
    refine(q0.out _ (a0.out.drew)).mono ?_;rintro e W1 ⟨rfl,b0⟩;rw[b0];clear b0 W1
    go_wp2_with fail
    refine⟨HS.out _ (a0.out.drew.drew),?_⟩
    iterate 2 refine Ye rfl (kE (by rintro _ ⟨_,_⟩;go_simp<;>rfl) (by go_simp<;>rfl) ?_)
    iterate 7 refine then_go rfl (by simp[yielded,g1,Act.put]) (kE (by rintro _ ⟨_,_⟩;go_simp<;>rfl) (by go_simp<;>rfl) ?_)
    refine Vx ⟨HS.out _ (a0.out.drew.drew),?_,?_⟩
    ·unfold wpPair
     refine wpList_unguard (by simp[Region.wanted,yielded,g1,Act.put]) ?_
     go_wp2_with fail
     refine(r0.out _ (a0.out.drew.drew)).mono ?_;rintro e W1 ⟨rfl,b0⟩;rw[b0];clear b0 W1
     go_wp2_with fail
     refine⟨HS.out _ (a0.out.drew.drew),?_⟩;refine wpList_unguard (by simp[Region.wanted,yielded,g1,Act.put]) ?_
     go_wp2_with fail
     refine⟨HS.out _ (d0.out),?_⟩;refine then_do_go (by simp[Region.wanted,yielded,g1,Act.put]) ?_
     go_wp2_with fail
     refine(HU.out _ _ (d0.out) (ints_one wr _)).mono ?_;rintro e W1 ⟨rfl,b0⟩;rw[b0];clear b0 W1
     go_wp2_with fail
     refine⟨HS.out _ (d0.out),?_⟩;refine then_go rfl (by simp[yielded,g1,Act.put]) (kE (by rintro _ ⟨_,_⟩;go_simp<;>rfl) (by go_simp<;>rfl) ?_);refine Ye rfl (kE (by rintro _ ⟨_,_⟩;go_simp<;>rfl) (by go_simp<;>rfl) ?_);refine Vx ⟨HS.out _ (d0.out),?_⟩;clear g1
     cases un with
     |false=>
      have HF:Hid (L.all (okIn p x n)=false):=c0.out rfl;go_wp2;go_ret;exact⟨cbE HF.out,d0.out⟩
     |true=>
      have HN:Hid ((L.take (k+1)).all (okIn p x n)=true):=g0.out rfl;go_wp2
      go_roundw
      case rel=>exact⟨d0.out,k+1,by omega,by go_num,HN.out⟩
      case measure=>simp[intOf];omega
    unfold wpPair;refine wpList_unguard (by simp[Region.wanted,yielded,g1,Act.put]) ?_
    go_wp2_with fail
    refine⟨HS.out _ (d0.out),?_⟩;refine wpList_unguard (by simp[Region.wanted,yielded,g1,Act.put]) ?_
    go_wp2_with fail
    refine(r0.out _ (d0.out)).mono ?_;rintro e W1 ⟨rfl,b0⟩;rw[b0];clear b0 W1
    go_wp2_with fail
    refine⟨HS.out _ (d0.out),?_⟩;refine then_do_go (by simp[Region.wanted,yielded,g1,Act.put]) ?_
    go_wp2_with fail
    refine(HU.out _ _ (d0.out) (ints_one wr _)).mono ?_;rintro e W1 ⟨rfl,b0⟩;rw[b0];clear b0 W1
    go_wp2_with fail
    refine⟨HS.out _ (d0.out),?_⟩;refine then_go rfl (by simp[yielded,g1,Act.put]) (kE (by rintro _ ⟨_,_⟩;go_simp<;>rfl) (by go_simp<;>rfl) ?_);refine Ye rfl (kE (by rintro _ ⟨_,_⟩;go_simp<;>rfl) (by go_simp<;>rfl) ?_);refine Vx ⟨HS.out _ (d0.out),?_⟩;clear g1
    cases un with
    |false=>
     have HF:Hid (L.all (okIn p x n)=false):=c0.out rfl;go_wp2;go_ret;exact⟨cbE HF.out,d0.out⟩
    |true=>
     have HN:Hid ((L.take (k+1)).all (okIn p x n)=true):=g0.out rfl;go_wp2
     go_roundw
     case rel=>exact⟨d0.out,k+1,by omega,by go_num,HN.out⟩
     case measure=>simp[intOf];omega
  have A0:¬(k:Int)<(L.length:Int):=(by omega);have HT:Hid (L.all (okIn p x n)=true):=by
   show _=_;have h1:=i0.out;rw[List.take_of_length_le (by omega)]at h1;exact h1
  go_wp2;go_ret;exact⟨cbE HT.out,a0.out⟩
end
structure NdOk(p:Fl.Prog)(x:List Fl.Node)(n:Fl.Node):Prop where
 kd:0<=n.kind/\n.kind<=7
 lv:0<=n.level
 k1:n.kind=1->0<=n.a
 k2:n.kind=2->POk p x n.b/\POk p x n.c
 k3:n.kind=3\/n.kind=4->0<=n.a/\POk p x n.b
 k5:n.kind=5\/n.kind=6->POk p x n.a/\POk p x n.b
 k6:n.kind=5->POk p x n.c
 k7:n.kind=7->(∀k∈n.list,POk p x k)/\n.list.length<=100
section
variable{w:World}{Cb Pb Lb Rl nb no:Nat}{vv nv hv lv:Value}{p:Fl.Prog}{ls:List Int}{x:List Fl.Node}{n:Fl.Node}
def rule_any(h:ChkIn w Cb Pb Lb Rl vv nv hv p (Fl.vars p ls) x)(hn:NdAt w nb no n lv)(ho:NdOk p x n)(hl:n.level<p.n)(b0:∀y∈Fl.vars p ls,0<=y/\y<p.n)(c0:(Fl.vars p ls).length<=100)(d0:∀y∈p.chans,y<p.n)(e0:p.chans.length<=100)(kd:Nat)(f0:(kd:Int)=n.kind):
  Calls prog (ruleF kd) #[.pointer (some ⟨Cb,0,none⟩),.pointer (some ⟨nb,no,none⟩)] w λe w'=>e=.returned (.bool (Fl.ruleOf p ls x n))/\Below w.heap.size w w':=by
 have hk:=ho.kd;have a0:0<=n.level/\n.level<p.n:=⟨ho.lv,hl⟩;rcases(show kd=0\/kd=1\/kd=2\/kd=3\/kd=4\/kd=5\/kd=6\/kd=7 by omega) with rfl|rfl|rfl|rfl|rfl|rfl|rfl|rfl
 ·have e:Fl.ruleOf p ls x n=true:=by unfold Fl.ruleOf;rw[if_pos (by omega)]
  rw[e];exact numFollows_any _ _
 ·have e:Fl.ruleOf p ls x n=(decide (n.a<(Fl.vars p ls).length) && Fl.under p ((Fl.vars p ls).getD n.a.toNat 0) n.level):=by unfold Fl.ruleOf;rw[if_neg (by omega),if_pos (by omega)]
  rw[e];exact varFollows_any h hn (ho.k1 (by omega)) a0 b0 c0
 ·have e:Fl.ruleOf p ls x n=(decide (n.a<5) && (decide (Fl.role (Fl.nd x n.b).kind=0) && (decide (Fl.role (Fl.nd x n.c).kind=0) && (Fl.under p (Fl.nd x n.b).level n.level && Fl.under p (Fl.nd x n.c).level n.level)))):=by unfold Fl.ruleOf;rw[if_neg (by omega),if_neg (by omega),if_pos (by omega)]
  rw[e];exact opFollows_any h hn (ho.k2 (by omega)).1 (ho.k2 (by omega)).2 a0
 ·have e:Fl.ruleOf p ls x n=Fl.mayGo p x n (Fl.vars p ls):=by unfold Fl.ruleOf;rw[if_neg (by omega),if_neg (by omega),if_neg (by omega),if_pos (by omega)]
  rw[e];exact setFollows_any h hn (ho.k3 (by omega)).1 (ho.k3 (by omega)).2 a0 b0 c0
 ·have e:Fl.ruleOf p ls x n=Fl.mayGo p x n (p.chans.map λ(y:Nat)=>(y:Int)):=by unfold Fl.ruleOf;rw[if_neg (by omega),if_neg (by omega),if_neg (by omega),if_neg (by omega),if_pos (by omega)]
  rw[e];exact outFollows_any h hn (ho.k3 (by omega)).1 (ho.k3 (by omega)).2 a0 d0 e0
 ·have e:Fl.ruleOf p ls x n=(Fl.guards p x n n.b && Fl.guards p x n n.c):=by unfold Fl.ruleOf;rw[if_neg (by omega),if_neg (by omega),if_neg (by omega),if_neg (by omega),if_neg (by omega),if_pos (by omega)]
  rw[e];exact ifFollows_any h hn (ho.k5 (by omega)).1 (ho.k5 (by omega)).2 (ho.k6 (by omega)) a0
 ·have e:Fl.ruleOf p ls x n=Fl.guards p x n n.b:=by unfold Fl.ruleOf;rw[if_neg (by omega),if_neg (by omega),if_neg (by omega),if_neg (by omega),if_neg (by omega),if_neg (by omega),if_pos (by omega)]
  rw[e];exact whileFollows_any h hn (ho.k5 (by omega)).1 (ho.k5 (by omega)).2 a0
 have e:Fl.ruleOf p ls x n=n.list.all (okIn p x n):=by unfold Fl.ruleOf;rw[if_neg (by omega),if_neg (by omega),if_neg (by omega),if_neg (by omega),if_neg (by omega),if_neg (by omega),if_neg (by omega)];rfl
 rw[e];exact blockFollows_any h hn (ho.k7 (by omega)).1 (ho.k7 (by omega)).2 a0
def follows_any(h:ChkIn w Cb Pb Lb Rl vv nv hv p (Fl.vars p ls) x)(hn:NdAt w nb no n lv)(ho:NdOk p x n)(f0:∀y∈Fl.vars p ls,0<=y/\y<p.n)(g0:(Fl.vars p ls).length<=100)(h0:∀y∈p.chans,y<p.n)(i0:p.chans.length<=100):
  Calls prog 123 #[.pointer (some ⟨Cb,0,none⟩),.pointer (some ⟨nb,no,none⟩)] w λe w'=>e=.returned (.bool (Fl.follows p ls x n))/\Below w.heap.size w w':=by
 obtain⟨kd,e0⟩:∃kd:Nat,(kd:Int)=n.kind:=⟨n.kind.toNat,by have:=ho.kd;omega⟩
 have k0:kd<8:=by have:=ho.kd;omega
 have l0:(kd:Int)<8:=by omega
 obtain⟨f,hf⟩:=nmE (ruleF kd)
 have HS:Hid (∀W,Below w.heap.size w W->W.cell? ⟨Cb,0,none⟩=some (.pointer (some ⟨Pb,0,none⟩))/\W.cell? ⟨Pb,0,none⟩=some (.pointer (some ⟨Lb,0,none⟩))/\W.cell? ⟨Cb,3,none⟩=some (.slice (some ⟨Rl,0,none⟩) 8 8)/\W.cell? ⟨nb,no,none⟩=some (.int .i64 (kd:Nat))/\W.cell? ⟨nb,no+1,none⟩=some (.int .i64 n.level)/\W.cell? ⟨Rl,kd*2+1,none⟩=some (.func (.func f) #[] #[])):=λW hW=>by
  have h1:=h.below hW;have h2:=hn.below hW;exact⟨h1.c0,h1.p0,h1.c3,by rw[e0];exact h2.c0,h2.c1,by rw[hf];exact(h1.ru kd k0).2⟩
 have a0:Hid (∀W,Below w.heap.size w W->Calls prog 114 #[.pointer (some ⟨Lb,0,none⟩),.int .i64 n.level] W λe w'=>e=.returned (.bool (decide (0<=n.level/\n.level<p.n)))/\w'=W):=λW hW=>has_any (h.below hW).la n.level
 by_cases hl:n.level<p.n
 ·have HR:Hid (∀W,Below w.heap.size w W->Calls prog f #[.pointer (some ⟨Cb,0,none⟩),.pointer (some ⟨nb,no,none⟩)] W λe w'=>e=.returned (.bool (Fl.ruleOf p ls x n))/\Below W.heap.size W w'):=λW hW=>by rw[hf];exact rule_any (h.below hW) (hn.below hW) ho hl f0 g0 h0 i0 kd e0
  have d0:Hid (Fl.follows p ls x n=Fl.ruleOf p ls x n):=(by show _=_;unfold Fl.follows;rw[decide_eq_true hl,Bool.true_and]);rw[decide_eq_true (show 0<=n.level/\n.level<p.n from⟨ho.lv,hl⟩)]at a0;generalize Fl.ruleOf p ls x n=ru at*;clear h hn ho f0 g0 h0 i0 e0;rcases(show kd=0\/kd=1\/kd=2\/kd=3\/kd=4\/kd=5\/kd=6\/kd=7 by omega) with hk|hk|hk|hk|hk|hk|hk|hk
  all_goals
   rw[hk]at hf;simp[ruleF]at hf;have HF:=Zz hf;clear hf hk
   go_enter func123,ntmps123
   go_wp2_with fail
   refine Yy HS ((Below.refl _ _).drew) [11,26] [] [(12,17)] (by kernel_rfl) (λc a d v w h=>by cases d<;>exact h) (λops ⟨g1,_⟩=>?_)
   iterate 11 refine Ze rfl (by rintro _ ⟨_,_,_,_,_,_⟩;go_simp<;>rfl) (by go_simp<;>rfl) ?_
   refine Zs ?_
   go_wp2_with fail
   refine(a0.out _ (Below.refl _ _).drew).mono ?_;rintro e W1 ⟨rfl,b0⟩;rw[b0];clear b0 W1
   go_wp2_with fail
   refine⟨HS.out _ (Below.refl _ _).drew,?_⟩
   iterate 14 refine Ze (by first|rfl|simp[Region.wanted,yielded,g1,Act.put]) (by rintro _ ⟨_,_,_,_,_,_⟩;go_simp<;>rfl) (by go_simp<;>rfl) ?_
   refine late_do_go (by simp[Region.wanted,yielded,g1,Act.put]) ?_;have m0:=HF.out;subst m0
   go_wp2_with fail
   refine(HR.out _ (Below.refl _ _).drew).mono ?_;rintro e W1 ⟨rfl,b0⟩;have j0:Hid (Below w.heap.size w W1):=(Below.refl _ _).drew.trans b0;clear b0
   go_wp2_with fail
   refine⟨HS.out _ j0.out,?_⟩
   iterate 2 refine Ze rfl (by rintro _ ⟨_,_,_,_,_,_⟩;go_simp<;>rfl) (by go_simp<;>rfl) ?_
   refine Yt ?_;go_wp2;go_ret;exact⟨cbE d0.out,j0.out⟩
 have d0:Hid (Fl.follows p ls x n=false):=by show _=_;unfold Fl.follows;rw[decide_eq_false hl,Bool.false_and]
 rw[decide_eq_false (show ¬(0<=n.level/\n.level<p.n) from λh=>hl h.2)]at a0;clear h hn ho f0 g0 h0 i0 e0 hf
 go_enter func123,ntmps123
 go_wp2_with fail
 refine Yy HS ((Below.refl _ _).drew) [11,26] [] [(12,17)] (by kernel_rfl) (λc a d v w h=>by cases d<;>exact h) (λops ⟨g1,_⟩=>?_)
 iterate 11 refine Ze rfl (by rintro _ ⟨_,_,_,_,_,_⟩;go_simp<;>rfl) (by go_simp<;>rfl) ?_
 refine Zs ?_
 go_wp2_with fail
 refine(a0.out _ (Below.refl _ _).drew).mono ?_;rintro e W1 ⟨rfl,b0⟩;rw[b0];clear b0 W1
 go_wp2_with fail
 refine⟨HS.out _ (Below.refl _ _).drew,?_⟩;refine Ze rfl (by rintro _ ⟨_,_,_,_,_,_⟩;go_simp<;>rfl) (by go_simp<;>rfl) ?_
 iterate 13
  refine late_skip rfl (c:=false) (by simp[yielded,g1,Act.put]) (by decide) ?_
 refine late_do_skip rfl (c:=false) (by simp[yielded,g1,Act.put]) (by decide) (HS.out _ (Below.refl _ _).drew) ?_
 iterate 2 refine Ze rfl (by rintro _ ⟨_,_,_,_,_,_⟩;go_simp<;>rfl) (by go_simp<;>rfl) ?_
 refine Yt ?_;go_wp2;go_ret;exact⟨cbE d0.out,(Below.refl _ _).drew⟩
end
def firstBadNode(p:Fl.Prog)(ls:List Int)(x:List Fl.Node):Int:=match (List.range x.length).find? (λk=> !Fl.follows p ls x (Fl.nth x k)) with
 |some k=>(k:Int)
 |none=> -1
section
variable{w:World}{Cb Pb Lb Rl:Nat}{vv nv hv:Value}{p:Fl.Prog}{ls:List Int}{x:List Fl.Node}
def ChkIn.nodeAt{vs:List Int}(h:ChkIn w Cb Pb Lb Rl vv nv hv p vs x)(k:Nat)(hk:k<x.length):∃b off cap lv,nv=.slice (some ⟨b,off,none⟩) x.length cap/\NdAt w b (off+k*6) (Fl.nth x k) lv:=by
 obtain⟨ao,cap,e,-,-,h4⟩:=h.no;obtain⟨b,off,e2,hb,hc⟩:=h4 (by rintro rfl;simp at hk);obtain⟨lv,h0,h1,h2,h3,h5,h6,h7⟩:=hc k hk;exact⟨b,off,cap,lv,by rw[e,e2],⟨hb,h1,h2,h3,h5,h6,h7,h0⟩⟩
def cfirstWrong_any(h:ChkIn w Cb Pb Lb Rl vv nv hv p (Fl.vars p ls) x)(hx:∀k,k<x.length->(∀j,j<k->Fl.follows p ls x (Fl.nth x j)=true)->NdOk p x (Fl.nth x k))(B0:x.length<=100000)(k0:∀y∈Fl.vars p ls,0<=y/\y<p.n)(l0:(Fl.vars p ls).length<=100)(m0:∀y∈p.chans,y<p.n)(n0:p.chans.length<=100):
  Calls prog 69 #[.pointer (some ⟨Cb,0,none⟩)] w λe w'=>e=.returned (.int .i64 (firstBadNode p ls x))/\Below w.heap.size w w':=by
 have HC:Hid (∀W,Below w.heap.size w W->W.cell? ⟨Cb,2,none⟩=some nv):=λW hW=>(h.below hW).c2
 have HF:Hid (∀k,k<x.length->(∀j,j<k->Fl.follows p ls x (Fl.nth x j)=true)->∃b off cap,nv=.slice (some ⟨b,off,none⟩) x.length cap/\∀W,Below w.heap.size w W->Calls prog 123 #[.pointer (some ⟨Cb,0,none⟩),.pointer (some ⟨b,off+k*6,none⟩)] W λe w'=>e=.returned (.bool (Fl.follows p ls x (Fl.nth x k)))/\Below W.heap.size W w'):=λk hk hall=>by
  obtain⟨b,off,cap,lv,e,v0⟩:=h.nodeAt k hk;exact⟨b,off,cap,e,λW hW=>follows_any (h.below hW) (v0.below hW) (hx k hk hall) k0 l0 m0 n0⟩
 have x0:Hid (∃a c,nv=.slice a x.length c):=by obtain⟨a,c,e,-⟩:=h.no;exact⟨a,c,e⟩
 have b0:Hid (∀k,k<x.length->(∀j,j<k->Fl.follows p ls x (Fl.nth x j)=true)->Fl.follows p ls x (Fl.nth x k)=false->firstBadNode p ls x=k):=λk hk hall h0=>by
  unfold firstBadNode;rw[Fl.find_first _ _ k (λj hj=>by rw[hall j hj];rfl) hk (by rw[h0];rfl)]
 have e0:Hid ((∀j,j<x.length->Fl.follows p ls x (Fl.nth x j)=true)->firstBadNode p ls x= -1):=λhall=>by
  unfold firstBadNode;rw[Fl.find_none _ _ (λj hj=>by rw[hall j hj];rfl)]
 have y0:(x.length:Int)<=100000:=by omega
 obtain⟨a0,c0,j0⟩:=x0.out;have c2:=h.c2;rw[j0]at c2;obtain⟨fw,o0⟩:=nmE (firstBadNode p ls x);rw[<-o0]at b0 e0⊢;have C0:=Zz j0;clear h hx k0 l0 m0 n0 j0 o0
 go_enter func69,ntmps69
 go_wp2_with fail
 go_loopw [9] (λi wr=>Below w.heap.size w wr/\∃k:Nat,k<=x.length/\i=.int .i64 k/\∀j,j<k->Fl.follows p ls x (Fl.nth x j)=true) (λi _=>x.length - (intOf i).toNat)
 case atStart=>exact⟨Below.refl _ _,0,Nat.zero_le _,rfl,λj hj=>by omega⟩
 case round=>
  obtain⟨p0,k,hk,rfl,hall⟩:=hrel;have i0:=Zz p0;have d0:=Zz hall;clear p0 hall
  by_cases q0:k<x.length
  ·have z0:(k:Int)<(x.length:Int):=by omega
   obtain⟨b,off,cap,e,f0⟩:=HF.out k q0 d0.out;have cw:=HC.out wr i0.out;rw[e]at cw;have g0:Hid (Calls prog 123 #[.pointer (some ⟨Cb,0,none⟩),.pointer (some ⟨b,off+k*6,none⟩)] wr λe w'=>e=.returned (.bool (Fl.follows p ls x (Fl.nth x k)))/\Below wr.heap.size wr w'):=f0 wr i0.out;have r0:Hid (Fl.follows p ls x (Fl.nth x k)=false->fw=(k:Int)):=λh0=>b0.out k q0 d0.out h0
   have s0:Hid (Fl.follows p ls x (Fl.nth x k)=true->∀j,j<k+1->Fl.follows p ls x (Fl.nth x j)=true):=λh0 j hj=>by
    by_cases A0:j=k
    ·rw[A0];exact h0
    exact d0.out j (by omega)
   generalize Fl.follows p ls x (Fl.nth x k)=fk at g0 r0 s0;clear e f0
   go_wp2_with fail
   refine g0.out.mono ?_;rintro e w1 ⟨rfl,t0⟩;have u0:Hid (Below w.heap.size w w1):=i0.out.trans (t0.mono i0.out.size);clear t0
   cases fk with
   |false=>
    have HE:Hid (fw=(k:Int)):=r0.out rfl;go_wp2;go_ret;exact⟨congrArg (λb=>Ending.returned (.int .i64 b)) HE.out.symm,u0.out⟩
   |true=>
    have HN:Hid (∀j,j<k+1->Fl.follows p ls x (Fl.nth x j)=true):=s0.out rfl;go_wp2
    go_roundw
    case rel=>exact⟨u0.out,k+1,by omega,by go_num,HN.out⟩
    case measure=>simp[intOf];omega
  have z0:¬(k:Int)<(x.length:Int):=(by omega);have HE:Hid (fw= -1):=e0.out (λj hj=>d0.out j (by omega));go_wp2;go_ret;exact⟨congrArg (λb=>Ending.returned (.int .i64 b)) HE.out.symm,i0.out⟩
end
section
variable{w:World}{Pb Lb:Nat}{p:Fl.Prog}
def localsFit_any(i0:Un w Lb p.n p.leq)(p0:w.cell? ⟨Pb,0,none⟩=some (.pointer (some ⟨Lb,0,none⟩)))(p3:w.cell? ⟨Pb,3,none⟩=some (.int .i64 p.locals))(v:Value)(ls:List Int)(hl:Zy w.heap.size w v ls)(n0:ls.length<=100000):
  Calls prog 67 #[.pointer (some ⟨Pb,0,none⟩),v] w λe w'=>e=.returned (.bool (decide (ls.length=p.locals/\∀y∈ls,0<=y/\y<p.n)))/\w'=w:=by
 obtain⟨ao,cap,rfl,hc,-,a0⟩:=hl;have g0:Hid (∀y:Int,Calls prog 114 #[.pointer (some ⟨Lb,0,none⟩),.int .i64 y] w λe w'=>e=.returned (.bool (decide (0<=y/\y<p.n)))/\w'=w):=λy=>has_any i0 y
 have l0:Hid (∀i,(hi:i<ls.length)->∃b off,ao=some ⟨b,off,none⟩/\w.cell? ⟨b,off+i,none⟩=some (.int .i64 ls[i])):=λi hi=>by
  obtain⟨b,off,e,-,h1⟩:=a0 (by rintro rfl;simp at hi);exact⟨b,off,e,by rw[h1 i hi,Qa,Qb hi];rfl⟩
 have o0:(ls.length:Int)<=100000:=by omega
 have q0:(ls.length:Int)<=(cap:Int):=by omega
 obtain⟨m,hm⟩:=nmE (p.locals);rw[<-hm]at p3⊢;obtain⟨res,b0⟩:=nmE (decide (ls.length=m/\∀y∈ls,0<=y/\y<(p.n:Int)));rw[<-b0];have d0:=Zz b0;clear i0 a0 hm b0
 go_enter func67,ntmps67
 go_wp2_with fail
 go_loopw [9] (λi wr=>wr=w/\∃k:Nat,k<=ls.length/\i=.int .i64 k/\∀y∈ls.take k,0<=y/\y<(p.n:Int)) (λi _=>ls.length - (intOf i).toNat)
 case atStart=>exact⟨rfl,0,Nat.zero_le _,rfl,λy hy=>by simp at hy⟩
 case round=>
  obtain⟨j0,k,hk,rfl,hall⟩:=hrel;have e0:=Zz hall;rw[j0];clear j0 hall wr
  by_cases h0:k<ls.length
  ·have m0:(k:Int)<(ls.length:Int):=by omega
   obtain⟨b,off,rfl,cy⟩:=l0.out k h0;obtain⟨y,hy⟩:=nmE (ls[k]);rw[<-hy]at cy;have f0:Hid (y∈ls/\ls.take (k+1)=ls.take k++[y]):=(by rw[hy];exact⟨List.getElem_mem h0,List.take_succ_eq_append_getElem h0⟩);clear hy
   go_wp2_with fail
   refine(g0.out y).mono ?_;rintro e w1 ⟨rfl,k0⟩;rw[k0];clear k0 w1
   by_cases c0:0<=y/\y<(p.n:Int)
   ·have HN:Hid (∀z∈ls.take (k+1),0<=z/\z<(p.n:Int)):=λz hz=>by
     rw[f0.out.2]at hz;rcases List.mem_append.1 hz with h1|h1
     ·exact e0.out z h1
     simp at h1;subst h1;exact c0
    rw[decide_eq_true c0];clear c0;go_wp2
    go_roundw
    case rel=>exact⟨by first|rfl|trivial,k+1,by omega,by go_num,HN.out⟩
    case measure=>simp[intOf];omega
   have HE:Hid (res=false):=(by show _=_;rw[d0.out];exact decide_eq_false (λh=>c0 (h.2 y f0.out.1)));rw[decide_eq_false c0];clear c0;go_wp2;go_ret;exact⟨cbE HE.out,rfl⟩
  have m0:¬(k:Int)<(ls.length:Int):=(by omega);have HE:Hid (res=((ls.length:Int)==(m:Int))):=by
   have h1:=e0.out;rw[List.take_of_length_le (by omega)]at h1;show _=_;rw[d0.out,<-dec_beq]
   congr 1
   exact propext ⟨λh=>h.1,λh=>⟨h,h1⟩⟩
  go_wp2;go_ret;exact⟨cbE HE.out,rfl⟩
end
section
variable{P:Program}{ops:Array Oper}{Q:Exit->Act->World->Prop}{S:World->Prop}
def late_noneC{o:Oper}{l:List (Nat×Oper)}{a:Act}{w:World}{j:Nat}{b:Bool}(hg:o.guard=some (j,b))(hy:yielded ops a.tmps j=none)
  (h:Xi P ops S Q l (a.put o.dst undef) w):Xi P ops S Q ((0,o)::l) a w:=⟨undef,.inr ⟨by simp[Region.wanted,hg,hy],rfl⟩,h⟩
end
section
variable{w:World}{Cb Pb Lb Rl vb:Nat}{vv nv hv vx vy:Value}{p:Fl.Prog}{vs:List Int}{x:List Fl.Node}
def isOfValue_step(h:ChkIn w Cb Pb Lb Rl vv nv hv p vs x)(k:Nat)(hk:k<x.length)(vk va:Int)(h0:vb<w.heap.size)(v0:w.cell? ⟨vb,0,none⟩=some (.int .i64 vk))(v1:w.cell? ⟨vb,1,none⟩=some (.int .i64 va))(v2:w.cell? ⟨vb,2,none⟩=some vx)(v3:w.cell? ⟨vb,3,none⟩=some vy)(rb rc:Bool)
  (hb:vk=2->(Fl.nth x k).kind=2->∀W,Below w.heap.size w W->Calls prog 164 #[.pointer (some ⟨Cb,0,none⟩),.int .i64 (Fl.nth x k).b,vx] W λe w'=>e=.returned (.bool rb)/\Below W.heap.size W w')
  (hc:vk=2->(Fl.nth x k).kind=2->∀W,Below w.heap.size w W->Calls prog 164 #[.pointer (some ⟨Cb,0,none⟩),.int .i64 (Fl.nth x k).c,vy] W λe w'=>e=.returned (.bool rc)/\Below W.heap.size W w')
  (k0:∃a,vx=.pointer a) (l0:∃a,vy=.pointer a):
  Calls prog 164 #[.pointer (some ⟨Cb,0,none⟩),.int .i64 k,.pointer (some ⟨vb,0,none⟩)] w λe w'=>e=.returned (.bool (decide ((Fl.nth x k).kind=vk) && (decide ((Fl.nth x k).a=va) && (decide (vk≠2)||(rb && rc)))))/\Below w.heap.size w w':=by
 obtain⟨ax,rfl⟩:=k0;obtain⟨ay,rfl⟩:=l0;obtain⟨nb,no0,cap,lv,rfl,e0⟩:=h.nodeAt k hk;obtain⟨no,hno⟩:=nmE (no0+k*6);obtain⟨n,hn⟩:=nmE (Fl.nth x k);rw[<-hn]at hb hc e0⊢;have c2:=h.c2
 have m0:(k:Int)<(x.length:Int):=by omega
 have HS:Hid (∀W,Below w.heap.size w W->W.cell? ⟨nb,no,none⟩=some (.int .i64 n.kind)/\W.cell? ⟨nb,no+2,none⟩=some (.int .i64 n.a)/\W.cell? ⟨nb,no+3,none⟩=some (.int .i64 n.b)/\W.cell? ⟨nb,no+4,none⟩=some (.int .i64 n.c)/\W.cell? ⟨vb,0,none⟩=some (.int .i64 vk)/\W.cell? ⟨vb,1,none⟩=some (.int .i64 va)/\W.cell? ⟨vb,2,none⟩=some (.pointer ax)/\W.cell? ⟨vb,3,none⟩=some (.pointer ay)):=λW hW=>by
  have h2:=e0.below hW;rw[<-hno]at h2;exact⟨h2.c0,h2.c2,h2.c3,h2.c4,(hW.cell (p:=⟨vb,0,none⟩) h0).trans v0,(hW.cell (p:=⟨vb,1,none⟩) h0).trans v1,(hW.cell (p:=⟨vb,2,none⟩) h0).trans v2,(hW.cell (p:=⟨vb,3,none⟩) h0).trans v3⟩
 obtain⟨res,b0⟩:=nmE ((decide (n.kind=vk) && (decide (n.a=va) && (decide (vk≠2)||(rb && rc)))));rw[<-b0];have a0:=Zz b0;have f0:=Zz hno
 by_cases h1:n.kind=vk
 ·have e1:(n.kind !=vk)=false:=by simp[h1]
  by_cases h2:n.a=va
  ·have e2:(n.a !=va)=false:=by simp[h2]
   by_cases h3:vk=2
   ·have HE:Hid (res=(rb && rc)):=by show _=_;rw[a0.out,decide_eq_true h1,decide_eq_true h2,decide_eq_false (by intro h;exact h h3)];simp
    have HB:Hid (∀W,Below w.heap.size w W->Calls prog 164 #[.pointer (some ⟨Cb,0,none⟩),.int .i64 n.b,.pointer ax] W λe w'=>e=.returned (.bool rb)/\Below W.heap.size W w'):=hb h3 (h1.trans h3);have HC:Hid (∀W,Below w.heap.size w W->Calls prog 164 #[.pointer (some ⟨Cb,0,none⟩),.int .i64 n.c,.pointer ay] W λe w'=>e=.returned (.bool rc)/\Below W.heap.size W w'):=hc h3 (h1.trans h3);have e3:(n.kind !=2)=false:=(by simp[h1,h3]);clear h e0 v0 v1 v2 v3 hb hc b0 h1 h2 h3 hn hno a0
    cases rb with
    |true=>
     go_enter func164,ntmps164
     go_wp2_with fail
     rw[<-f0.out];refine Yy HS (((Below.refl _ _).drew)) [] [] [(9,23)] (by kernel_rfl) (λc a d v w h=>by cases d<;>exact h) (λops ⟨g1,_⟩=>?_)
     iterate 20 refine Ze (by first|rfl|simp[Region.wanted,yielded,g1,Act.put]) (by rintro _ ⟨_,_,_,_,_,_,_,_⟩;go_simp<;>rfl) (by go_simp<;>rfl) ?_
     refine Yt ?_
     go_wp2_with fail
     refine Yy HS (((Below.refl _ _).drew.drew)) [15,26] [] [(5,39),(16,50)] (by kernel_rfl) (λc a d v w h=>by cases d<;>exact h) (λops ⟨g1,g2,_⟩=>?_)
     iterate 15 refine Ze (by first|rfl|simp[Region.wanted,yielded,g1,Act.put]) (by rintro _ ⟨_,_,_,_,_,_,_,_⟩;go_simp<;>rfl) (by go_simp<;>rfl) ?_
     refine late_do_go (by simp[Region.wanted,yielded,g1,Act.put]) ?_
     go_wp2_with fail
     refine(HB.out _ ((Below.refl _ _).drew.drew)).mono ?_;rintro e W1 ⟨rfl,g0⟩;have d0:Hid (Below w.heap.size w W1):=((Below.refl _ _).drew.drew).trans g0;clear g0
     go_wp2_with fail
     refine⟨HS.out _ d0.out,?_⟩
     iterate 10 refine Ze (by simp[Region.wanted,yielded,g1,g2,Act.put]) (by rintro _ ⟨_,_,_,_,_,_,_,_⟩;go_simp<;>rfl) (by go_simp<;>rfl) ?_
     refine late_do_go (by simp[Region.wanted,yielded,g2,Act.put]) ?_
     go_wp2_with fail
     refine(HC.out _ d0.out).mono ?_;rintro e W2 ⟨rfl,i0⟩;have j0:Hid (Below w.heap.size w W2):=d0.out.trans (i0.mono d0.out.size);clear i0
     go_wp2_with fail
     refine⟨HS.out _ j0.out,?_⟩
     iterate 3 refine Ze (by first|rfl|simp[Region.wanted,yielded,g1,Act.put]) (by rintro _ ⟨_,_,_,_,_,_,_,_⟩;go_simp<;>rfl) (by go_simp<;>rfl) ?_
     refine Yt ?_;go_wp2;go_ret;exact⟨cbE HE.out,j0.out⟩
    |false=>
     go_enter func164,ntmps164
     go_wp2_with fail
     rw[<-f0.out];refine Yy HS (((Below.refl _ _).drew)) [] [] [(9,23)] (by kernel_rfl) (λc a d v w h=>by cases d<;>exact h) (λops ⟨g1,_⟩=>?_)
     iterate 20 refine Ze (by first|rfl|simp[Region.wanted,yielded,g1,Act.put]) (by rintro _ ⟨_,_,_,_,_,_,_,_⟩;go_simp<;>rfl) (by go_simp<;>rfl) ?_
     refine Yt ?_
     go_wp2_with fail
     refine Yy HS (((Below.refl _ _).drew.drew)) [15,26] [] [(5,39),(16,50)] (by kernel_rfl) (λc a d v w h=>by cases d<;>exact h) (λops ⟨g1,g2,_⟩=>?_)
     iterate 15 refine Ze (by first|rfl|simp[Region.wanted,yielded,g1,Act.put]) (by rintro _ ⟨_,_,_,_,_,_,_,_⟩;go_simp<;>rfl) (by go_simp<;>rfl) ?_
     refine late_do_go (by simp[Region.wanted,yielded,g1,Act.put]) ?_
     go_wp2_with fail
     refine(HB.out _ ((Below.refl _ _).drew.drew)).mono ?_;rintro e W1 ⟨rfl,g0⟩;have d0:Hid (Below w.heap.size w W1):=((Below.refl _ _).drew.drew).trans g0;clear g0
     go_wp2_with fail
     refine⟨HS.out _ d0.out,?_⟩;refine Ze (by simp[Region.wanted,yielded,g1,Act.put]) (by rintro _ ⟨_,_,_,_,_,_,_,_⟩;go_simp<;>rfl) (by go_simp<;>rfl) ?_
     iterate 9
      refine late_skip rfl (c:=false) (by simp[yielded,g2,Act.put]) (by decide) ?_
     refine late_do_skip rfl (c:=false) (by simp[yielded,g2,Act.put]) (by decide) (HS.out _ d0.out) ?_
     iterate 3 refine Ze (by first|rfl|simp[Region.wanted,yielded,g1,Act.put]) (by rintro _ ⟨_,_,_,_,_,_,_,_⟩;go_simp<;>rfl) (by go_simp<;>rfl) ?_
     refine Yt ?_;go_wp2;go_ret;exact⟨cbE HE.out,d0.out⟩
   have HE:Hid (res=true):=(by show _=_;rw[a0.out,decide_eq_true h1,decide_eq_true h2,decide_eq_true (show vk≠2 from h3)];simp);have e3:(n.kind !=2)=true:=(by rw[bne_iff_ne,h1];exact h3);clear h e0 v0 v1 v2 v3 hb hc b0 h1 h2 h3 hn hno a0
   go_enter func164,ntmps164
   go_wp2_with fail
   rw[<-f0.out];refine Yy HS (((Below.refl _ _).drew)) [] [] [(9,23)] (by kernel_rfl) (λc a d v w h=>by cases d<;>exact h) (λops ⟨g1,_⟩=>?_)
   iterate 20 refine Ze (by first|rfl|simp[Region.wanted,yielded,g1,Act.put]) (by rintro _ ⟨_,_,_,_,_,_,_,_⟩;go_simp<;>rfl) (by go_simp<;>rfl) ?_
   refine Yt ?_
   go_wp2_with fail
   refine Yy HS (((Below.refl _ _).drew.drew)) [15,26] [] [(5,39),(16,50)] (by kernel_rfl) (λc a d v w h=>by cases d<;>exact h) (λops ⟨g1,g2,_⟩=>?_)
   iterate 6 refine Ze rfl (by rintro _ ⟨_,_,_,_,_,_,_,_⟩;go_simp<;>rfl) (by go_simp<;>rfl) ?_
   iterate 9
    refine late_skip rfl (c:=true) (by simp[yielded,g1,Act.put]) (by decide) ?_
   refine late_do_skip rfl (c:=true) (by simp[yielded,g1,Act.put]) (by decide) (HS.out _ ((Below.refl _ _).drew.drew)) ?_;refine late_skip rfl (c:=true) (by simp[yielded,g1,Act.put]) (by decide) ?_
   iterate 9
    refine late_noneC rfl (by simp[yielded,g2,Act.put,undef]) ?_
   refine late_do_none rfl (by simp[yielded,g2,Act.put,undef]) (HS.out _ ((Below.refl _ _).drew.drew)) ?_;refine late_skip rfl (c:=true) (by simp[yielded,g1,Act.put]) (by decide) ?_
   iterate 2 refine Ze rfl (by rintro _ ⟨_,_,_,_,_,_,_,_⟩;go_simp<;>rfl) (by go_simp<;>rfl) ?_
   refine Yt ?_;go_wp2;go_ret;exact⟨cbE HE.out,(Below.refl _ _).drew.drew⟩
  have HE:Hid (res=false):=(by show _=_;rw[a0.out,decide_eq_false h2];simp);have e2:(n.a !=va)=true:=(by rw[bne_iff_ne];exact h2);clear h e0 v0 v1 v2 v3 hb hc b0 h1 h2 hn hno a0
  go_enter func164,ntmps164
  go_wp2_with fail
  rw[<-f0.out];refine Yy HS (((Below.refl _ _).drew)) [] [] [(9,23)] (by kernel_rfl) (λc a d v w h=>by cases d<;>exact h) (λops ⟨g1,_⟩=>?_)
  iterate 20 refine Ze (by first|rfl|simp[Region.wanted,yielded,g1,Act.put]) (by rintro _ ⟨_,_,_,_,_,_,_,_⟩;go_simp<;>rfl) (by go_simp<;>rfl) ?_
  refine Yt ?_;go_wp2;go_ret;exact⟨cbE HE.out,(Below.refl _ _).drew⟩
 have HE:Hid (res=false):=by show _=_;rw[a0.out,decide_eq_false h1];simp
 have e1:(n.kind !=vk)=true:=by rw[bne_iff_ne];exact h1
 clear h e0 v0 v1 v2 v3 hb hc b0 h1 hn hno a0
 go_enter func164,ntmps164
 go_wp2_with fail
 rw[<-f0.out];refine Yy HS (((Below.refl _ _).drew)) [] [] [(9,23)] (by kernel_rfl) (λc a d v w h=>by cases d<;>exact h) (λops ⟨g1,_⟩=>?_)
 iterate 10 refine Ze rfl (by rintro _ ⟨_,_,_,_,_,_,_,_⟩;go_simp<;>rfl) (by go_simp<;>rfl) ?_
 iterate 9
  refine late_skip rfl (c:=true) (by simp[yielded,g1,Act.put]) (by decide) ?_
 refine Ze rfl (by rintro _ ⟨_,_,_,_,_,_,_,_⟩;go_simp<;>rfl) (by go_simp<;>rfl) ?_;refine Yt ?_;go_wp2;go_ret;exact⟨cbE HE.out,(Below.refl _ _).drew⟩
end
section
variable{w:World}{Cb Pb Lb Rl:Nat}{vv nv hv:Value}{p:Fl.Prog}{vs:List Int}{x:List Fl.Node}{S:Nat->Prop}
def isOfAtom_any(h:ChkIn w Cb Pb Lb Rl vv nv hv p vs x)(hS:∀b,S b->b<w.heap.size)(k:Int)(hk:0<=k/\k.toNat<x.length)(q:Value)(a:Fl.Atom)(ha:Yj S w q a):
  Calls prog 164 #[.pointer (some ⟨Cb,0,none⟩),.int .i64 k,q] w λe w'=>e=.returned (.bool (Fl.ofAtom x k a))/\Below w.heap.size w w':=by
 obtain⟨vb,rfl,hs,hc⟩:=ha;obtain⟨kn,b0⟩:∃kn:Nat,(kn:Int)=k:=⟨k.toNat,by omega⟩
 have e0:k.toNat=kn:=by omega
 have a0:(if a.var then(1:Int) else 0)≠2:=by cases a.var<;>decide
 have h1:=isOfValue_step (vx:=.pointer none) (vy:=.pointer none) h kn (by omega) (if a.var then 1 else 0) a.v (hS _ hs) (hc.c 0 (by omega)) (hc.c 1 (by omega)) (hc.c 2 (by omega)) (hc.c 3 (by omega)) true true (λh2=>absurd h2 a0) (λh2=>absurd h2 a0) ⟨_,rfl⟩ ⟨_,rfl⟩;rw[b0]at h1;refine h1.mono ?_;rintro e w' ⟨rfl,hw⟩;refine⟨?_,hw⟩;unfold Fl.ofAtom Fl.nd;rw[e0,decide_eq_true a0];simp
def isOfValue_any(h:ChkIn w Cb Pb Lb Rl vv nv hv p vs x)(hS:∀b,S b->b<w.heap.size)(k:Int)(hk:0<=k/\k.toNat<x.length)(b0:(Fl.nd x k).kind=2->(0<=(Fl.nd x k).b/\(Fl.nd x k).b.toNat<x.length)/\(0<=(Fl.nd x k).c/\(Fl.nd x k).c.toNat<x.length))(q:Value)(e:Fl.Expr)(g0:zz3 S w q e):
  Calls prog 164 #[.pointer (some ⟨Cb,0,none⟩),.int .i64 k,q] w λr w'=>r=.returned (.bool (Fl.ofExpr x k e))/\Below w.heap.size w w':=by
 rcases g0 with⟨h1,h2⟩|⟨h1,vb,qx,qy,rfl,h3,h4,h5,h6⟩
 ·have e1:Fl.ofExpr x k e=Fl.ofAtom x k e.a:=by unfold Fl.ofExpr;rw[if_pos (by omega)]
  rw[e1];exact isOfAtom_any h hS k hk q e.a h2
 have e1:Fl.ofExpr x k e=(decide ((Fl.nd x k).kind=2) && (decide ((Fl.nd x k).a=e.op) && (Fl.ofAtom x (Fl.nd x k).b e.a && Fl.ofAtom x (Fl.nd x k).c e.b))):=by unfold Fl.ofExpr;rw[if_neg (by omega)]
 obtain⟨kn,h0⟩:∃kn:Nat,(kn:Int)=k:=⟨k.toNat,by omega⟩
 have e0:k.toNat=kn:=by omega
 have en:Fl.nd x k=Fl.nth x kn:=by unfold Fl.nd;rw[e0]
 rw[en]at b0 e1;have a0:∀W,Below w.heap.size w W->ChkIn W Cb Pb Lb Rl vv nv hv p vs x:=λW hW=>h.below hW;have d0:∀W,Below w.heap.size w W->∀q a,Yj S w q a->Yj S W q a:=λW hW q a ha=>ha.kept (λb hb=>hb) (λb hb=>hW.block b (hS b hb));have f0:∀W,Below w.heap.size w W->∀b,S b->b<W.heap.size:=λW hW b hb=>Nat.lt_of_lt_of_le (hS b hb) hW.size
 have i0:∃a,qx=.pointer a:=by obtain⟨b,e,-⟩:=h5;exact⟨_,e⟩
 have j0:∃a,qy=.pointer a:=by obtain⟨b,e,-⟩:=h6;exact⟨_,e⟩
 have h7:=isOfValue_step (vx:=qx) (vy:=qy) h kn (by omega) 2 e.op (hS _ h3) (h4.c 0 (by omega)) (h4.c 1 (by omega)) (h4.c 2 (by omega)) (h4.c 3 (by omega)) (Fl.ofAtom x (Fl.nth x kn).b e.a) (Fl.ofAtom x (Fl.nth x kn).c e.b)
  (λ_ c0 W hW=>isOfAtom_any (a0 W hW) (f0 W hW) _ (b0 c0).1 qx e.a (d0 W hW _ _ h5)) (λ_ c0 W hW=>isOfAtom_any (a0 W hW) (f0 W hW) _ (b0 c0).2 qy e.b (d0 W hW _ _ h6)) i0 j0
 rw[h0]at h7;refine h7.mono ?_;rintro r w' ⟨rfl,hw⟩;refine⟨?_,hw⟩;rw[e1];simp
end
section
variable{w:World}{Cb Pb Lb Rl sb:Nat}{vv nv hv:Value}{p:Fl.Prog}{vs:List Int}{x:List Fl.Node}
def isOfOne_step(h:ChkIn w Cb Pb Lb Rl vv nv hv p vs x)(k:Nat)(hk:k<x.length)(sk sx:Int)(o0:sk=3\/sk=4\/sk=5\/sk=6)(av:Option Addr)(fa ea:Option Addr)(fn fc en ec:Nat)(hsz:sb<w.heap.size)
  (n0:w.cell? ⟨sb,0,none⟩=some (.int .i64 sk)/\w.cell? ⟨sb,2,none⟩=some (.int .i64 sx)/\w.cell? ⟨sb,3,none⟩=some (.pointer av)/\w.cell? ⟨sb,4,none⟩=some (.slice fa fn fc)/\w.cell? ⟨sb,5,none⟩=some (.slice ea en ec)) (va vb rb rc:Bool)
  (h0:sk=5\/sk=6->(Fl.nth x k).kind=sk->∀W,Below w.heap.size w W->Calls prog 164 #[.pointer (some ⟨Cb,0,none⟩),.int .i64 (Fl.nth x k).a,.pointer av] W λe w'=>e=.returned (.bool va)/\Below W.heap.size W w')
  (k0:sk=3\/sk=4->(Fl.nth x k).kind=sk->∀W,Below w.heap.size w W->Calls prog 164 #[.pointer (some ⟨Cb,0,none⟩),.int .i64 (Fl.nth x k).b,.pointer av] W λe w'=>e=.returned (.bool vb)/\Below W.heap.size W w')
  (i0:sk=5\/sk=6->(Fl.nth x k).kind=sk->∀W,Below w.heap.size w W->Calls prog 70 #[.pointer (some ⟨Cb,0,none⟩),.int .i64 (Fl.nth x k).b,.slice fa fn fc] W λe w'=>e=.returned (.bool rb)/\Below W.heap.size W w')
  (l0:sk=5->(Fl.nth x k).kind=sk->∀W,Below w.heap.size w W->Calls prog 70 #[.pointer (some ⟨Cb,0,none⟩),.int .i64 (Fl.nth x k).c,.slice ea en ec] W λe w'=>e=.returned (.bool rc)/\Below W.heap.size W w'):
  Calls prog 124 #[.pointer (some ⟨Cb,0,none⟩),.int .i64 k,.pointer (some ⟨sb,0,none⟩)] w λe w'=>e=.returned (.bool (decide ((Fl.nth x k).kind=sk) && (if sk=5 then va && (rb && rc) else if sk=6 then va && rb else decide ((Fl.nth x k).a=sx) && vb)))/\Below w.heap.size w w':=by
 obtain⟨nb,no0,cap,lv,rfl,m0⟩:=h.nodeAt k hk;obtain⟨no,hno⟩:=nmE (no0+k*6);obtain⟨n,hn⟩:=nmE (Fl.nth x k);rw[<-hn]at h0 k0 i0 l0 m0⊢;have c2:=h.c2
 have t0:(k:Int)<(x.length:Int):=by omega
 have HS:Hid (∀W,Below w.heap.size w W->W.cell? ⟨nb,no,none⟩=some (.int .i64 n.kind)/\W.cell? ⟨nb,no+2,none⟩=some (.int .i64 n.a)/\W.cell? ⟨nb,no+3,none⟩=some (.int .i64 n.b)/\W.cell? ⟨nb,no+4,none⟩=some (.int .i64 n.c)/\W.cell? ⟨sb,0,none⟩=some (.int .i64 sk)/\W.cell? ⟨sb,2,none⟩=some (.int .i64 sx)/\W.cell? ⟨sb,3,none⟩=some (.pointer av)/\W.cell? ⟨sb,4,none⟩=some (.slice fa fn fc)/\W.cell? ⟨sb,5,none⟩=some (.slice ea en ec)):=λW hW=>by
  have h2:=m0.below hW;rw[<-hno]at h2;obtain⟨s0,s2,s3,s4,s5⟩:=n0;exact⟨h2.c0,h2.c2,h2.c3,h2.c4,(hW.cell (p:=⟨sb,0,none⟩) hsz).trans s0,(hW.cell (p:=⟨sb,2,none⟩) hsz).trans s2,(hW.cell (p:=⟨sb,3,none⟩) hsz).trans s3,(hW.cell (p:=⟨sb,4,none⟩) hsz).trans s4,(hW.cell (p:=⟨sb,5,none⟩) hsz).trans s5⟩
 obtain⟨res,f0⟩:=nmE ((decide (n.kind=sk) && (if sk=5 then va && (rb && rc) else if sk=6 then va && rb else decide (n.a=sx) && vb)));rw[<-f0];have e0:=Zz f0;have j0:=Zz hno;have q0:∀W,Below w.heap.size w W->W.cell? ⟨nb,no,none⟩=some (.int .i64 n.kind):=λW hW=>(HS.out W hW).1
 by_cases h1:n.kind=sk
 ·have e1:(n.kind !=sk)=false:=by simp[h1]
  have d0:w.drew.cell? ⟨nb,no,none⟩=some (.int .i64 n.kind):=q0 _ (Below.refl _ _).drew
  by_cases h5:sk=5
  ·have HV:Hid (∀W,Below w.heap.size w W->Calls prog 164 #[.pointer (some ⟨Cb,0,none⟩),.int .i64 n.a,.pointer av] W λe w'=>e=.returned (.bool va)/\Below W.heap.size W w'):=h0 (.inl h5) h1
   have HB:Hid (∀W,Below w.heap.size w W->Calls prog 70 #[.pointer (some ⟨Cb,0,none⟩),.int .i64 n.b,.slice fa fn fc] W λe w'=>e=.returned (.bool rb)/\Below W.heap.size W w'):=i0 (.inl h5) h1;have HC:Hid (∀W,Below w.heap.size w W->Calls prog 70 #[.pointer (some ⟨Cb,0,none⟩),.int .i64 n.c,.slice ea en ec] W λe w'=>e=.returned (.bool rc)/\Below W.heap.size W w'):=l0 h5 h1;have HE:Hid (res=(va && (rb && rc))):=(by show _=_;rw[e0.out,decide_eq_true h1,if_pos h5,Bool.true_and]);have e5:(n.kind==5)=true:=(by simp[h1,h5]);clear h m0 n0 f0 h1 h5 hn hno e0 h0 k0 i0 l0 q0 o0
   cases va with
   |false=>
    go_enter func124,ntmps124
    go_wp2_with fail
    rw[<-j0.out];refine Yy HS (((Below.refl _ _).drew)) [] [] [] (by kernel_rfl) (λc a d v w h=>by cases d<;>exact h) (λops hG=>?_);clear hG
    iterate 9 refine Ze rfl (by rintro _ ⟨_,_,_,_,_,_,_,_,_⟩;go_simp<;>rfl) (by go_simp<;>rfl) ?_
    refine Yt ?_
    go_wp2_with fail
    refine Yy HS (((Below.refl _ _).drew.drew)) [9,20,32] [] [(10,39),(22,51)] (by kernel_rfl) (λc a d v w h=>by cases d<;>exact h) (λops ⟨g1,g2,_⟩=>?_)
    iterate 9 refine Ze rfl (by rintro _ ⟨_,_,_,_,_,_,_,_,_⟩;go_simp<;>rfl) (by go_simp<;>rfl) ?_
    refine Zs ?_
    go_wp2_with fail
    refine(HV.out _ ((Below.refl _ _).drew.drew)).mono ?_;rintro e W1 ⟨rfl,a0⟩;have b0:Hid (Below w.heap.size w W1):=(((Below.refl _ _).drew.drew)).trans a0;clear a0
    go_wp2_with fail
    refine⟨HS.out _ b0.out,?_⟩;refine Ze rfl (by rintro _ ⟨_,_,_,_,_,_,_,_,_⟩;go_simp<;>rfl) (by go_simp<;>rfl) ?_
    iterate 9
     refine late_skip rfl (c:=false) (by simp[yielded,g1,Act.put]) (by decide) ?_
    refine late_do_skip rfl (c:=false) (by simp[yielded,g1,Act.put]) (by decide) (HS.out _ b0.out) ?_
    iterate 2 refine Ze rfl (by rintro _ ⟨_,_,_,_,_,_,_,_,_⟩;go_simp<;>rfl) (by go_simp<;>rfl) ?_
    iterate 9
     refine late_skip rfl (c:=false) (by simp[yielded,g2,Act.put]) (by decide) ?_
    refine late_do_skip rfl (c:=false) (by simp[yielded,g2,Act.put]) (by decide) (HS.out _ b0.out) ?_
    iterate 2 refine Ze rfl (by rintro _ ⟨_,_,_,_,_,_,_,_,_⟩;go_simp<;>rfl) (by go_simp<;>rfl) ?_
    refine Yt ?_;go_wp2;go_ret;exact⟨cbE HE.out,b0.out⟩
   |true=>
    cases rb with
    |false=>
     go_enter func124,ntmps124
     go_wp2_with fail
     rw[<-j0.out];refine Yy HS (((Below.refl _ _).drew)) [] [] [] (by kernel_rfl) (λc a d v w h=>by cases d<;>exact h) (λops hG=>?_);clear hG
     iterate 9 refine Ze rfl (by rintro _ ⟨_,_,_,_,_,_,_,_,_⟩;go_simp<;>rfl) (by go_simp<;>rfl) ?_
     refine Yt ?_
     go_wp2_with fail
     refine Yy HS (((Below.refl _ _).drew.drew)) [9,20,32] [] [(10,39),(22,51)] (by kernel_rfl) (λc a d v w h=>by cases d<;>exact h) (λops ⟨g1,g2,_⟩=>?_)
     iterate 9 refine Ze rfl (by rintro _ ⟨_,_,_,_,_,_,_,_,_⟩;go_simp<;>rfl) (by go_simp<;>rfl) ?_
     refine Zs ?_
     go_wp2_with fail
     refine(HV.out _ ((Below.refl _ _).drew.drew)).mono ?_;rintro e W1 ⟨rfl,a0⟩;have b0:Hid (Below w.heap.size w W1):=(((Below.refl _ _).drew.drew)).trans a0;clear a0
     go_wp2_with fail
     refine⟨HS.out _ b0.out,?_⟩
     iterate 10 refine Ze (by first|rfl|simp[Region.wanted,yielded,g1,Act.put]) (by rintro _ ⟨_,_,_,_,_,_,_,_,_⟩;go_simp<;>rfl) (by go_simp<;>rfl) ?_
     refine late_do_go (by simp[Region.wanted,yielded,g1,Act.put]) ?_
     go_wp2_with fail
     refine(HB.out _ b0.out).mono ?_;rintro e W2 ⟨rfl,a0⟩;have g0:Hid (Below w.heap.size w W2):=(b0.out).trans (a0.mono (b0.out).size);clear a0
     go_wp2_with fail
     refine⟨HS.out _ g0.out,?_⟩
     iterate 2 refine Ze rfl (by rintro _ ⟨_,_,_,_,_,_,_,_,_⟩;go_simp<;>rfl) (by go_simp<;>rfl) ?_
     iterate 9
      refine late_skip rfl (c:=false) (by simp[yielded,g2,Act.put]) (by decide) ?_
     refine late_do_skip rfl (c:=false) (by simp[yielded,g2,Act.put]) (by decide) (HS.out _ g0.out) ?_
     iterate 2 refine Ze rfl (by rintro _ ⟨_,_,_,_,_,_,_,_,_⟩;go_simp<;>rfl) (by go_simp<;>rfl) ?_
     refine Yt ?_;go_wp2;go_ret;exact⟨cbE HE.out,g0.out⟩
    |true=>
     go_enter func124,ntmps124
     go_wp2_with fail
     rw[<-j0.out];refine Yy HS (((Below.refl _ _).drew)) [] [] [] (by kernel_rfl) (λc a d v w h=>by cases d<;>exact h) (λops hG=>?_);clear hG
     iterate 9 refine Ze rfl (by rintro _ ⟨_,_,_,_,_,_,_,_,_⟩;go_simp<;>rfl) (by go_simp<;>rfl) ?_
     refine Yt ?_
     go_wp2_with fail
     refine Yy HS (((Below.refl _ _).drew.drew)) [9,20,32] [] [(10,39),(22,51)] (by kernel_rfl) (λc a d v w h=>by cases d<;>exact h) (λops ⟨g1,g2,_⟩=>?_)
     iterate 9 refine Ze rfl (by rintro _ ⟨_,_,_,_,_,_,_,_,_⟩;go_simp<;>rfl) (by go_simp<;>rfl) ?_
     refine Zs ?_
     go_wp2_with fail
     refine(HV.out _ ((Below.refl _ _).drew.drew)).mono ?_;rintro e W1 ⟨rfl,a0⟩;have b0:Hid (Below w.heap.size w W1):=(((Below.refl _ _).drew.drew)).trans a0;clear a0
     go_wp2_with fail
     refine⟨HS.out _ b0.out,?_⟩
     iterate 10 refine Ze (by first|rfl|simp[Region.wanted,yielded,g1,Act.put]) (by rintro _ ⟨_,_,_,_,_,_,_,_,_⟩;go_simp<;>rfl) (by go_simp<;>rfl) ?_
     refine late_do_go (by simp[Region.wanted,yielded,g1,Act.put]) ?_
     go_wp2_with fail
     refine(HB.out _ b0.out).mono ?_;rintro e W2 ⟨rfl,a0⟩;have g0:Hid (Below w.heap.size w W2):=(b0.out).trans (a0.mono (b0.out).size);clear a0
     go_wp2_with fail
     refine⟨HS.out _ g0.out,?_⟩
     iterate 11 refine Ze (by first|rfl|simp[Region.wanted,yielded,g2,Act.put]) (by rintro _ ⟨_,_,_,_,_,_,_,_,_⟩;go_simp<;>rfl) (by go_simp<;>rfl) ?_
     refine late_do_go (by simp[Region.wanted,yielded,g2,Act.put]) ?_
     go_wp2_with fail
     refine(HC.out _ g0.out).mono ?_;rintro e W3 ⟨rfl,a0⟩;have r0:Hid (Below w.heap.size w W3):=(g0.out).trans (a0.mono (g0.out).size);clear a0
     go_wp2_with fail
     refine⟨HS.out _ r0.out,?_⟩
     iterate 2 refine Ze rfl (by rintro _ ⟨_,_,_,_,_,_,_,_,_⟩;go_simp<;>rfl) (by go_simp<;>rfl) ?_
     refine Yt ?_;go_wp2;go_ret;exact⟨cbE HE.out,r0.out⟩
  by_cases h6:sk=6
  ·have HV:Hid (∀W,Below w.heap.size w W->Calls prog 164 #[.pointer (some ⟨Cb,0,none⟩),.int .i64 n.a,.pointer av] W λe w'=>e=.returned (.bool va)/\Below W.heap.size W w'):=h0 (.inr h6) h1
   have HB:Hid (∀W,Below w.heap.size w W->Calls prog 70 #[.pointer (some ⟨Cb,0,none⟩),.int .i64 n.b,.slice fa fn fc] W λe w'=>e=.returned (.bool rb)/\Below W.heap.size W w'):=i0 (.inr h6) h1;have HE:Hid (res=(va && rb)):=(by show _=_;rw[e0.out,decide_eq_true h1,if_neg h5,if_pos h6,Bool.true_and]);have e5:(n.kind==5)=false:=(by simp[h1,h6]);have e6:(n.kind==6)=true:=(by simp[h1,h6]);clear h m0 n0 f0 h1 h5 h6 hn hno e0 h0 k0 i0 l0 q0 o0
   cases va with
   |false=>
    go_enter func124,ntmps124
    go_wp2_with fail
    rw[<-j0.out];refine Yy HS (((Below.refl _ _).drew)) [] [] [] (by kernel_rfl) (λc a d v w h=>by cases d<;>exact h) (λops hG=>?_);clear hG
    iterate 9 refine Ze rfl (by rintro _ ⟨_,_,_,_,_,_,_,_,_⟩;go_simp<;>rfl) (by go_simp<;>rfl) ?_
    refine Yt ?_
    go_wp2_with fail
    refine Yy HS (((Below.refl _ _).drew.drew)) [9,20] [] [(10,75)] (by kernel_rfl) (λc a d v w h=>by cases d<;>exact h) (λops ⟨g1,_⟩=>?_)
    iterate 9 refine Ze rfl (by rintro _ ⟨_,_,_,_,_,_,_,_,_⟩;go_simp<;>rfl) (by go_simp<;>rfl) ?_
    refine Zs ?_
    go_wp2_with fail
    refine(HV.out _ ((Below.refl _ _).drew.drew)).mono ?_;rintro e W1 ⟨rfl,a0⟩;have b0:Hid (Below w.heap.size w W1):=(((Below.refl _ _).drew.drew)).trans a0;clear a0
    go_wp2_with fail
    refine⟨HS.out _ b0.out,?_⟩;refine Ze rfl (by rintro _ ⟨_,_,_,_,_,_,_,_,_⟩;go_simp<;>rfl) (by go_simp<;>rfl) ?_
    iterate 9
     refine late_skip rfl (c:=false) (by simp[yielded,g1,Act.put]) (by decide) ?_
    refine late_do_skip rfl (c:=false) (by simp[yielded,g1,Act.put]) (by decide) (HS.out _ b0.out) ?_
    iterate 2 refine Ze rfl (by rintro _ ⟨_,_,_,_,_,_,_,_,_⟩;go_simp<;>rfl) (by go_simp<;>rfl) ?_
    refine Yt ?_;go_wp2;go_ret;exact⟨cbE HE.out,b0.out⟩
   |true=>
    go_enter func124,ntmps124
    go_wp2_with fail
    rw[<-j0.out];refine Yy HS (((Below.refl _ _).drew)) [] [] [] (by kernel_rfl) (λc a d v w h=>by cases d<;>exact h) (λops hG=>?_);clear hG
    iterate 9 refine Ze rfl (by rintro _ ⟨_,_,_,_,_,_,_,_,_⟩;go_simp<;>rfl) (by go_simp<;>rfl) ?_
    refine Yt ?_
    go_wp2_with fail
    refine Yy HS (((Below.refl _ _).drew.drew)) [9,20] [] [(10,75)] (by kernel_rfl) (λc a d v w h=>by cases d<;>exact h) (λops ⟨g1,_⟩=>?_)
    iterate 9 refine Ze rfl (by rintro _ ⟨_,_,_,_,_,_,_,_,_⟩;go_simp<;>rfl) (by go_simp<;>rfl) ?_
    refine Zs ?_
    go_wp2_with fail
    refine(HV.out _ ((Below.refl _ _).drew.drew)).mono ?_;rintro e W1 ⟨rfl,a0⟩;have b0:Hid (Below w.heap.size w W1):=(((Below.refl _ _).drew.drew)).trans a0;clear a0
    go_wp2_with fail
    refine⟨HS.out _ b0.out,?_⟩
    iterate 10 refine Ze (by first|rfl|simp[Region.wanted,yielded,g1,Act.put]) (by rintro _ ⟨_,_,_,_,_,_,_,_,_⟩;go_simp<;>rfl) (by go_simp<;>rfl) ?_
    refine late_do_go (by simp[Region.wanted,yielded,g1,Act.put]) ?_
    go_wp2_with fail
    refine(HB.out _ b0.out).mono ?_;rintro e W2 ⟨rfl,a0⟩;have g0:Hid (Below w.heap.size w W2):=(b0.out).trans (a0.mono (b0.out).size);clear a0
    go_wp2_with fail
    refine⟨HS.out _ g0.out,?_⟩
    iterate 2 refine Ze rfl (by rintro _ ⟨_,_,_,_,_,_,_,_,_⟩;go_simp<;>rfl) (by go_simp<;>rfl) ?_
    refine Yt ?_;go_wp2;go_ret;exact⟨cbE HE.out,g0.out⟩
  have p0:sk=3\/sk=4:=(by omega);have HV:Hid (∀W,Below w.heap.size w W->Calls prog 164 #[.pointer (some ⟨Cb,0,none⟩),.int .i64 n.b,.pointer av] W λe w'=>e=.returned (.bool vb)/\Below W.heap.size W w'):=k0 p0 h1;have e5:(n.kind==5)=false:=(by rw[h1,Qh];exact h5);have e6:(n.kind==6)=false:=(by rw[h1,Qh];exact h6)
  by_cases ha:n.a=sx
  ·have HE:Hid (res=vb):=by show _=_;rw[e0.out,decide_eq_true h1,if_neg h5,if_neg h6,Bool.true_and,decide_eq_true ha,Bool.true_and]
   have ea2:(n.a==sx)=true:=(by simp[ha]);clear h m0 n0 f0 h1 h5 h6 p0 ha hn hno e0 h0 k0 i0 l0 q0 o0
   go_enter func124,ntmps124
   go_wp2_with fail
   rw[<-j0.out];refine Yy HS (((Below.refl _ _).drew)) [] [] [] (by kernel_rfl) (λc a d v w h=>by cases d<;>exact h) (λops hG=>?_);clear hG
   iterate 9 refine Ze rfl (by rintro _ ⟨_,_,_,_,_,_,_,_,_⟩;go_simp<;>rfl) (by go_simp<;>rfl) ?_
   refine Yt ?_
   go_wp2_with fail
   refine Yy HS (((Below.refl _ _).drew.drew)) [19] [] [(9,96)] (by kernel_rfl) (λc a d v w h=>by cases d<;>exact h) (λops ⟨g1,_⟩=>?_)
   iterate 19 refine Ze (by first|rfl|simp[Region.wanted,yielded,g1,Act.put]) (by rintro _ ⟨_,_,_,_,_,_,_,_,_⟩;go_simp<;>rfl) (by go_simp<;>rfl) ?_
   refine late_do_go (by simp[Region.wanted,yielded,g1,Act.put]) ?_
   go_wp2_with fail
   refine(HV.out _ ((Below.refl _ _).drew.drew)).mono ?_;rintro e W1 ⟨rfl,a0⟩;have b0:Hid (Below w.heap.size w W1):=(((Below.refl _ _).drew.drew)).trans a0;clear a0
   go_wp2_with fail
   refine⟨HS.out _ b0.out,?_⟩
   iterate 2 refine Ze rfl (by rintro _ ⟨_,_,_,_,_,_,_,_,_⟩;go_simp<;>rfl) (by go_simp<;>rfl) ?_
   refine Yt ?_;go_wp2;go_ret;exact⟨cbE HE.out,b0.out⟩
  have HE:Hid (res=false):=(by show _=_;rw[e0.out,decide_eq_true h1,if_neg h5,if_neg h6,Bool.true_and,decide_eq_false ha,Bool.false_and]);have ea2:(n.a==sx)=false:=(by rw[Qh];exact ha);clear h m0 n0 f0 h1 h5 h6 p0 ha hn hno e0 h0 k0 i0 l0 q0 o0
  go_enter func124,ntmps124
  go_wp2_with fail
  rw[<-j0.out];refine Yy HS (((Below.refl _ _).drew)) [] [] [] (by kernel_rfl) (λc a d v w h=>by cases d<;>exact h) (λops hG=>?_);clear hG
  iterate 9 refine Ze rfl (by rintro _ ⟨_,_,_,_,_,_,_,_,_⟩;go_simp<;>rfl) (by go_simp<;>rfl) ?_
  refine Yt ?_
  go_wp2_with fail
  refine Yy HS (((Below.refl _ _).drew.drew)) [19] [] [(9,96)] (by kernel_rfl) (λc a d v w h=>by cases d<;>exact h) (λops ⟨g1,_⟩=>?_)
  iterate 10 refine Ze rfl (by rintro _ ⟨_,_,_,_,_,_,_,_,_⟩;go_simp<;>rfl) (by go_simp<;>rfl) ?_
  iterate 9
   refine late_skip rfl (c:=false) (by simp[yielded,g1,Act.put]) (by decide) ?_
  refine late_do_skip rfl (c:=false) (by simp[yielded,g1,Act.put]) (by decide) (HS.out _ ((Below.refl _ _).drew.drew)) ?_
  iterate 2 refine Ze rfl (by rintro _ ⟨_,_,_,_,_,_,_,_,_⟩;go_simp<;>rfl) (by go_simp<;>rfl) ?_
  refine Yt ?_;go_wp2;go_ret;exact⟨cbE HE.out,(Below.refl _ _).drew.drew⟩
 have HE:Hid (res=false):=by show _=_;rw[e0.out,decide_eq_false h1,Bool.false_and]
 have e1:(n.kind !=sk)=true:=by rw[bne_iff_ne];exact h1
 clear h m0 n0 f0 h1 hn hno e0 h0 k0 i0 l0 q0 o0
 go_enter func124,ntmps124
 go_wp2_with fail
 rw[<-j0.out];refine Yy HS (((Below.refl _ _).drew)) [] [] [] (by kernel_rfl) (λc a d v w h=>by cases d<;>exact h) (λops hG=>?_);clear hG
 iterate 9 refine Ze rfl (by rintro _ ⟨_,_,_,_,_,_,_,_,_⟩;go_simp<;>rfl) (by go_simp<;>rfl) ?_
 refine Yt ?_;go_wp2;go_ret;exact⟨cbE HE.out,(Below.refl _ _).drew⟩
end
end Go.Proofs.YtminjljgedopkaaGreatDoor
