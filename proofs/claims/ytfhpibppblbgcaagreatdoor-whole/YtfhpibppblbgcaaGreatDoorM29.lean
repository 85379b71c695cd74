import Derived.Test.YtfhpibppblbgcaaGreatDoorM28
set_option linter.all false
set_option maxRecDepth 100000
set_option maxHeartbeats 40000000
namespace Go.Proofs.YtfhpibppblbgcaaGreatDoor
open Go.RowKit Go.Proofs.Tryz
variable{lo base Rb Pb t:Nat}{w0 w w' wr:World}{r:Fl.RS}{v:Value}
def ys6{nv nc:Nat}:∀{d:Nat} {fs:List Fl.aB},Fl.im nv nc d fs->∀f∈fs,(f.kind=5\/(f.kind=6/\f.cI=false))/\(f.cI=false->f.fm=[])
 |_,[],_,f,hf=>(by cases hf)
 |d,g::gs,h,f,hf=>by
  rcases List.mem_cons.1 hf with rfl|h1
  ·exact⟨h.1.kd,h.1.no⟩
  exact ys6 h.2 f h1
section
variable{m:Yl}{fl:List FlS}
def fL{n:List UInt8}{x:Nat}{r':Fl.RS}(h:r.bm n=some (x,r')):r'.bC=r.bC/\r'.fr=r.fr/\r'.ap=r.ap:=by
 unfold Fl.RS.bm at h
 split at h
 ·injection h with h;injection h with h1 h2;subst h2;exact⟨rfl,rfl,rfl⟩
 split at h
 ·injection h with h;injection h with h1 h2;subst h2;exact⟨rfl,rfl,rfl⟩
 split at h
 ·cases h
 injection h with h;injection h with h1 h2;subst h2;exact⟨rfl,rfl,rfl⟩
def ys8(kd:Nat)(k a:List UInt8)(hk:(if k==Fl.iP then 5 else 6)=kd)(at_:Nat):((zzw r kd a).1≠0->(r.bQ at_ [k,a]).1=(zzw r kd a).1)/\
  ((zzw r kd a).1=0->(zzw r kd a).2.2=r/\((zzw r kd a).2.1.kind=kd/\(zzw r kd a).2.1.x=0)/\(16<=r.ap\/3<=r.fr.length->(r.bQ at_ [k,a]).1=5)/\(r.ap<16->r.fr.length<3->r.bQ at_ [k,a]=(0,r.opens kd at_ (zzw r kd a).2.1.e))):=by
 have e1:r.bQ at_ [k,a]=match r.value [a] with|none=>(4,r)|some e=>if 16<=r.ap\/3<=r.fr.length then(5,r) else(0,r.opens (if k==Fl.iP then 5 else 6) at_ e):=rfl;have e2:zzw r kd a=match r.value [a] with|none=>(4,noS,r)|some e=>(0,⟨kd,0,0,e,[],[]⟩,r):=rfl;rw[e1,e2];generalize r.value [a]=o
 cases o with
 |none=>exact⟨λ_=>rfl,λh=>(by cases h)⟩
 |some e=>
  refine⟨λh=>absurd rfl h,λ_=>⟨rfl,⟨rfl,rfl⟩,λh=>?_,λh1 h2=>?_⟩⟩
  ·show (if 16<=r.ap\/3<=r.fr.length then(5,r) else _).1=5
   rw[if_pos h]
  show (if 16<=r.ap\/3<=r.fr.length then(5,r) else _)=_;rw[if_neg (show ¬(16<=r.ap\/3<=r.fr.length) by omega),hk]
def yhv(n a:List UInt8)(at_:Nat):((zx8 r n a).1≠0->(r.bQ at_ [Fl.eD,n,a]).1=(zx8 r n a).1)/\
  ((zx8 r n a).1=0->(zx8 r n a).2.2=r/\((zx8 r n a).2.1.kind=3\/(zx8 r n a).2.1.kind=4)/\(16<=r.ap->(r.bQ at_ [Fl.eD,n,a]).1=5)/\(r.ap<16->r.bQ at_ [Fl.eD,n,a]=(0,r.put (lnS (zx8 r n a).2.1 at_)))):=by
 have e1:r.bQ at_ [Fl.eD,n,a]=match r.value [a] with|none=>(4,r)|some e=>if Fl.ai r.aj n<0 then(4,r) else if 16<=r.ap then(5,r) else(0,r.put ⟨4,(Fl.ai r.aj n).toNat,at_,e,[],[]⟩):=rfl;have e2:zx8 r n a=match r.value [a] with|none=>(4,noS,r)|some e=>if Fl.ai r.aj n<0 then(4,noS,r) else(0,⟨4,(Fl.ai r.aj n).toNat,0,e,[],[]⟩,r):=rfl;rw[e1,e2];generalize r.value [a]=o
 cases o with
 |none=>exact⟨λ_=>rfl,λh=>(by cases h)⟩
 |some e=>
  by_cases hc:Fl.ai r.aj n<0
  ·simp only[if_pos hc]
   exact⟨λ_=>trivial,λh=>(by cases h)⟩
  simp only[if_neg hc];refine⟨λh=>absurd rfl h,λ_=>⟨trivial,.inr trivial,λh=>?_,λh=>?_⟩⟩
  ·rw[if_pos h]
  rw[if_neg (show ¬16<=r.ap by omega)];rfl
def ywv(n x:List UInt8)(v:List (List UInt8))(at_:Nat):((Uw r n (x::v)).1≠0->(r.bQ at_ (Fl.eM::n::x::v)).1=(Uw r n (x::v)).1)/\
  ((Uw r n (x::v)).1=0->((Uw r n (x::v)).2.2.bC=r.bC/\(Uw r n (x::v)).2.2.fr=r.fr/\(Uw r n (x::v)).2.2.ap=r.ap)/\((Uw r n (x::v)).2.1.kind=3\/(Uw r n (x::v)).2.1.kind=4)/\(16<=r.ap->(r.bQ at_ (Fl.eM::n::x::v)).1=5)/\(r.ap<16->r.bQ at_ (Fl.eM::n::x::v)=(0,(Uw r n (x::v)).2.2.put (lnS (Uw r n (x::v)).2.1 at_)))):=by
 have e1:r.bQ at_ (Fl.eM::n::x::v)=match r.value (x::v) with|none=>(4,r)|some e=>if 0<=Fl.ai r.aj n then(4,r) else match r.bm n with|none=>(5,r)|some (y,r')=>if 16<=r.ap then(5,r) else(0,r'.put ⟨3,y,at_,e,[],[]⟩):=rfl;have e2:Uw r n (x::v)=match r.value (x::v) with|none=>(4,noS,r)|some e=>if 0<=Fl.ai r.aj n then(4,noS,r) else match r.bm n with|none=>(5,noS,r)|some (y,r')=>(0,⟨3,y,0,e,[],[]⟩,r'):=rfl;rw[e1,e2];generalize r.value (x::v)=o
 cases o with
 |none=>exact⟨λ_=>rfl,λh=>(by cases h)⟩
 |some e=>
  by_cases hc:0<=Fl.ai r.aj n
  ·simp only[if_pos hc]
   exact⟨λ_=>trivial,λh=>(by cases h)⟩
  simp only[if_neg hc];have a0:∀p,r.bm n=some p->p.2.bC=r.bC/\p.2.fr=r.fr/\p.2.ap=r.ap:=λp hp=>fL (x:=p.1) (r':=p.2) hp;generalize r.bm n=o at*
  cases o with
  |none=>exact⟨λ_=>rfl,λh=>(by cases h)⟩
  |some p=>
   obtain⟨y,r'⟩:=p;refine⟨λh=>absurd rfl h,λ_=>⟨a0 _ rfl,.inl rfl,λh=>?_,λh=>?_⟩⟩
   ·show (if 16<=r.ap then(5,r) else _).1=5
    rw[if_pos h]
   show (if 16<=r.ap then(5,r) else _)=_;rw[if_neg (show ¬16<=r.ap by omega)];rfl
def yg0(h:Zs lo base Rb Pb w0 w m)(hr:Zg r fl t m)(d0:Vw fl r)(e0:cE fl=r.ap)(j0:r.eO)(ht:t<=100000)(v:Value)(ws:List (List UInt8))(hw:Zf w.heap.size w v ws)(n0:∀b off k c,v=.slice (some (Aq b off)) k c->b≠Rb/\∀j,Zr j->(m.v j).ownBlock≠some b)(hl:Fl.aq ws=true)(at_:Nat):
  Cq 9 #[Pq Rb,v,Iq (at_:Int)] w (Xr lo base Rb Pb w0 t (r.row ws at_)):=by
 have m0:∀(W:World) (m:Yl) (r:Fl.RS),Zs lo base Rb Pb w0 W m->zaw r t m->Cq 27 #[Pq Rb] W (zs0 lo base Rb Pb w0 m r.au.length r.tab (Fl.bt r.au.length r.tab)):=λW m r h hr=>yww h hr (by omega);have hW:=hw;obtain⟨ao,cap,hv,k0,l0,t0,hx,f0⟩:=hw
 have o0:ws≠[]:=by intro h0;subst h0;simp[Fl.aq]at hl
 obtain⟨b,off,s0,hb,a0⟩:=f0 o0;subst s0;have g0:=n0 b off ws.length cap hv
 have bj:1<=ws.length:=by cases ws with|nil=>exact absurd rfl o0|cons _ _=>simp
 have c0:Cl w b off (.string ⟨(ws.getD 0 []).toArray⟩):=a0 0 (by omega);have p0:(⟨(ws.getD 0 []).toArray⟩:ByteArray).toList=ws.getD 0 []:=Yr _;have i0:1<=ws.length/\ws.length<=maxLen:=⟨bj,by omega⟩
 by_cases hh:Fl.cB (ws.getD 0 [])=r.ae
 ·have e:r.row ws at_=(3,r):=by unfold Fl.RS.row;rw[if_pos hh]
  rw[e,hv];exact row_bad h hr b off _ cap _ _ i0 c0 (by rw[p0];exact hh)
 by_cases hd:Fl.cB (ws.getD 0 [])=true
 ·have e:r.row ws at_=r.head ws:=by unfold Fl.RS.row;rw[if_neg hh,if_pos hd]
  have b0:r.ae=false:=by cases hg:r.ae with|false=>rfl|true=>rw[hd,hg]at hh;exact absurd rfl hh
  have q0:=yh8 m0 h hr b0 (by omega) v ws hW n0 hl hd;rw[e];rw[hv]at q0⊢;exact yh9 h hr d0 e0 b off _ cap _ _ ws i0 c0 (by rw[p0];exact hd) b0 q0
 have e:r.row ws at_=r.bQ at_ ws:=by unfold Fl.RS.row;rw[if_neg hh,if_neg hd]
 have b0:r.ae=true:=by
  cases hg:r.ae with
  |true=>rfl
  |false=>
   have:Fl.cB (ws.getD 0 [])=false:=by cases h9:Fl.cB (ws.getD 0 []) with|false=>rfl|true=>exact absurd h9 hd
   rw[this,hg]at hh;exact absurd rfl hh
 rw[e];clear e hh hW;subst hv;have r0:=ys6 j0.nL
 match ws,hl,hd with
 |[a],hl,hd=>
  have e:a=Fl.dL\/a=Fl.gy:=by
   simp[Fl.aq,Fl.cB]at hl hd;rcases hl with(h1|h1)|h1
   ·exact absurd h1 (by intro h2;subst h2;simp[Fl.cT,Fl.bM,Fl.cN,Fl.bu,Fl.cC]at hd)
   ·exact .inl h1
   exact .inr h1
  rcases e with e|e
  ·subst e
   exact yhy h hr d0 e0 r0 ht b off cap _ (a0 0 (by simp)) b0 at_
  subst e;exact row_end h hr d0 e0 r0 ht b off cap _ (a0 0 (by simp)) b0 at_
 |[k,a],hl,hd=>
  have e:k=Fl.iP\/k=Fl.eZ:=by
   simp[Fl.aq,Fl.cB]at hl hd;rcases hl with h1|⟨h1|h1,_⟩
   ·exact absurd h1.1 (by intro h2;subst h2;simp[Fl.cT]at hd)
   ·exact .inl h1
   exact .inr h1
  rcases e with e|e
  ·subst e
   obtain⟨s1,s2⟩:=ys8 (r:=r) 5 Fl.iP a rfl at_;exact row_if h hr ht b off 2 cap ⟨by omega,i0.2⟩ hb g0 at_ (a0 0 (by simp)) b0 (zzw r 5 a) _ (st_if h hr b off cap a (hx a (by simp)) hb ⟨k0,l0⟩ (a0 0 (by simp)) (a0 1 (by simp))) s1 (λh0=>by rw[(s2 h0).1];exact⟨(s2 h0).2.2.1,(s2 h0).2.2.2⟩) (λh0=>by rw[(s2 h0).1];exact⟨d0,e0,(s2 h0).2.1⟩)
  subst e;obtain⟨s1,s2⟩:=ys8 (r:=r) 6 Fl.eZ a rfl at_;exact ykz h hr ht b off 2 cap ⟨by omega,i0.2⟩ hb g0 at_ (a0 0 (by simp)) b0 (zzw r 6 a) _ (yhz h hr b off cap a (hx a (by simp)) hb ⟨k0,l0⟩ (a0 0 (by simp)) (a0 1 (by simp))) s1 (λh0=>by rw[(s2 h0).1];exact⟨(s2 h0).2.2.1,(s2 h0).2.2.2⟩) (λh0=>by rw[(s2 h0).1];exact⟨d0,e0,(s2 h0).2.1⟩)
 |[k,n,a],hl,hd=>
  have e:k=Fl.eD\/k=Fl.eM:=by
   simp[Fl.aq,Fl.cB]at hl hd;rcases hl with⟨⟨h1,_⟩,_⟩|⟨⟨h1|h1,_⟩,_⟩
   ·rcases h1 with(h1|h1)|h1
    ·exact absurd h1 (by intro h2;subst h2;simp[Fl.cT,Fl.bM]at hd)
    ·exact absurd h1 (by intro h2;subst h2;simp[Fl.cT,Fl.bM,Fl.cN]at hd)
    exact absurd h1 (by intro h2;subst h2;simp[Fl.cT,Fl.bM,Fl.cN,Fl.bu]at hd)
   ·exact .inl h1
   exact .inr h1
  rcases e with e|e
  ·subst e
   obtain⟨s1,s2⟩:=yhv (r:=r) n a at_;refine zl2 h hr ht b off 3 cap ⟨by omega,i0.2⟩ hb g0 at_ ⟨Fl.eD.toArray⟩ ?_ ?_ ?_ ?_ ?_ ?_ ?_ ?_ ?_ (a0 0 (by simp)) b0 (zx8 r n a) _ (st_out h hr b off cap n a (hx a (by simp)) hb ⟨k0,l0⟩ (a0 0 (by simp)) (a0 1 (by simp)) (a0 2 (by simp))) s1 (λh0=>by rw[(s2 h0).1];exact⟨(s2 h0).2.2.1,(s2 h0).2.2.2⟩) (λh0=>by rw[(s2 h0).1];exact⟨d0,e0,(s2 h0).2.1⟩)
   all_goals (rw[Yr];rfl)
  subst e;obtain⟨s1,s2⟩:=ywv (r:=r) n a [] at_;refine zl2 h hr ht b off 3 cap ⟨by omega,i0.2⟩ hb g0 at_ ⟨Fl.eM.toArray⟩ ?_ ?_ ?_ ?_ ?_ ?_ ?_ ?_ ?_ (a0 0 (by simp)) b0 (Uw r n [a]) _ (st_set3 h hr b off cap n a (hx a (by simp)) (hx n (by simp)) hb g0 ⟨k0,l0⟩ (a0 0 (by simp)) (a0 1 (by simp)) (a0 2 (by simp))) s1 (λh0=>by rw[(s2 h0).1.2.2];exact⟨(s2 h0).2.2.1,(s2 h0).2.2.2⟩) (λh0=>by rw[(s2 h0).1.2.2];exact⟨d0.same (s2 h0).1.1 (s2 h0).1.2.1,e0,(s2 h0).2.1⟩)
  all_goals (rw[Yr];rfl)
 |[_,_,_,_],hl,hd=>simp[Fl.aq]at hl
 |[k,n,a,o,b2],hl,hd=>
  have e:k=Fl.eM:=by
   simp[Fl.aq,Fl.cB]at hl hd;exact hl.1.1.1.1
  subst e;obtain⟨s1,s2⟩:=ywv (r:=r) n a [o,b2] at_;refine zl2 h hr ht b off 5 cap ⟨by omega,i0.2⟩ hb g0 at_ ⟨Fl.eM.toArray⟩ ?_ ?_ ?_ ?_ ?_ ?_ ?_ ?_ ?_ (a0 0 (by simp)) b0 (Uw r n [a,o,b2]) _ (st_set5 h hr b off cap n a o b2 (hx a (by simp)) (hx b2 (by simp)) (hx n (by simp)) hb g0 ⟨k0,l0⟩ (a0 0 (by simp)) (a0 1 (by simp)) (a0 2 (by simp)) (a0 3 (by simp)) (a0 4 (by simp))) s1 (λh0=>by rw[(s2 h0).1.2.2];exact⟨(s2 h0).2.2.1,(s2 h0).2.2.2⟩) (λh0=>by rw[(s2 h0).1.2.2];exact⟨d0.same (s2 h0).1.1 (s2 h0).1.2.1,e0,(s2 h0).2.1⟩)
  all_goals (rw[Yr];rfl)
 |_::_::_::_::_::_::_,hl,hd=>simp[Fl.aq]at hl
end
def ys9(c:UInt8)(s:List UInt8)(W:World)(hs:s.length<=50000):Cq 7 #[.string ⟨s.toArray⟩,.int .u8 c.toNat] W λe w'=>∃g cap,e=.returned (.slice (some (Aq g 0)) (Fl.aE c s).length cap)/\W.heap.size<=g/\Zf w'.heap.size w' (.slice (some (Aq g 0)) (Fl.aE c s).length cap) (Fl.aE c s)/\Bq W w':=by
 refine(yjz ⟨s.toArray⟩ c W (by show s.toArray.size<=100000;simp;omega)).mono ?_;rintro e w' ⟨v,rfl,ho,hb⟩
 have e1:Fl.cut c (⟨s.toArray⟩:ByteArray).data.toList=Fl.aE c s:=by rw[<-Fl.lP]
 rw[e1]at ho;obtain⟨h1,h2⟩:=zo6 c s;have a0:=List.length_pos_iff.2 (Fl.dR c s);obtain⟨g,cap,rfl,hg,hz,-⟩:=zb2 ho a0;exact⟨g,cap,rfl,hg,Zf.dE ho (by omega) (λx hx=>by have:=h2 x hx;omega),hb⟩
def zi0(v:Value)(ws:List (List UInt8))(W:World)(hw:Zf W.heap.size W v ws)(a0:ws≠[]):Cq 8 #[v] W λe w'=>e=.returned (.bool (Fl.aq ws))/\Bq W w':=by
 have h:=yh5 v (ws.map λl=>(⟨l.toArray⟩:ByteArray)) W hw.nD (by intro h;exact a0 (List.map_eq_nil_iff.1 h));rw[bl_mk]at h;exact h
def zxw(f:FlS):(Zk f).length=10:=by unfold Zk;split<;>rfl
def zb3:∀(fl:List FlS) (k j:Nat),k<fl.length->j<10->(Jt fl)[k*10+j]?=some ((Zk (fl.getD k Xd)).getD j undef)
 |[],k,j,hk,hj=>by simp at hk
 |f::fl,0,j,hk,hj=>by
  have e:Jt (f::fl)=Zk f++Jt fl:=rfl;rw[e,List.getElem?_append_left (by rw[zxw];omega)];have h1:0*10+j<(Zk f).length:=(by rw[zxw];omega);have h2:j<(Zk f).length:=(by rw[zxw];omega);simp[Qa,h2]
 |f::fl,k+1,j,hk,hj=>by
  have e:Jt (f::fl)=Zk f++Jt fl:=rfl;rw[e,List.getElem?_append_right (by rw[zxw];omega),zxw,show (k+1)*10+j - 10=k*10+j by omega,zb3 fl k j (by simp at hk;omega) hj];simp[Qa]
def zq6.dE{fl:List FlS}(h:w.ownsRow base 61 10 v fl.length (Jt fl))(hl:fl.length<=100000):zq6 w v fl:=by
 rcases h.2 with⟨h1,h2⟩|⟨g,cap,cur,h1,hb,hg,hc,hm,hs,ht⟩
 ·exact⟨none,0,by rw[h1,h2],by omega,by decide,hl,λa0=>absurd (Qi h2) a0⟩
 refine⟨_,cap,h1,hc,hm,hl,λa0=>⟨g,rfl,(h.lt g (by rw[h1];rfl)).2,λk hk j hj=>?_⟩⟩;have h5:=h.cells (g:=g) (by rw[h1];rfl) (k*10+j) _ (zb3 fl k j hk hj)
 have h6:((Aq g 0):Addr).add (k*10+j)=(Aq g (k*10+j)):=by unfold Addr.add;split<;>simp_all
 rw[h6]at h5;exact h5
def zly:Array Value:=#[Iq 0,Zq,Zq,Zq,Iq 0,Zq]
def rdZ(Pb:Nat):Array Value:=#[Pq Pb,Zq,Zq,Zq,Zq,Zq,Zq,.bool false,Zq,Iq 0,Zq]
def m00(W:World):Yl:=⟨λ_=>0,λ_=>[],λ_=> Zq,false,0,0,Zq,0,Zq,λ_=>False,W⟩
def zo9(W:World):World:=(W.alloc (.cells zly 39)).alloc (.cells (rdZ W.heap.size) 41)
def ykw(W:World):(zo9 W).heap.size=W.heap.size+2:=by simp[zo9]
def yoz(W:World):Bq W (zo9 W):=(bA).alloc (by simp) _
def Zs.start(W:World):Zs W.heap.size (W.heap.size+2) (W.heap.size+1) W.heap.size W (zo9 W) (m00 W):=by
 have e1:(W.alloc (.cells zly 39)).heap.size=W.heap.size+1:=by simp
 refine{bel:=yoz W,bL:=⟨by omega,by omega,by omega,by omega,by omega,by rw[ykw];omega,by omega⟩,cR:= ?_,cP:= ?_,own:=λj _=>⟨(Nat.zero_mul (rSz j)).symm,.inl ⟨rfl,rfl⟩⟩,iR:=λi j b _ _ _ h=>(by cases h),kp:=λ_ h=>h.elim}
 ·have h:=Zb.new (W.alloc (.cells zly 39)) (rdZ W.heap.size).toList 41
  rw[e1]at h;refine h.congr (λj hj=>?_);have hj':j<11:=hj;rcases(show j=0\/j=1\/j=2\/j=3\/j=4\/j=5\/j=6\/j=7\/j=8\/j=9\/j=10 by omega) with rfl|rfl|rfl|rfl|rfl|rfl|rfl|rfl|rfl|rfl|rfl<;>rfl
 have h:=(Zb.new W zly.toList 39).block (w':=zo9 W) (b:=W.heap.size) (Below.heap_alloc _ _ _ (by simp));refine h.congr (λj hj=>?_);have hj':j<6:=hj;rcases(show j=0\/j=1\/j=2\/j=3\/j=4\/j=5 by omega) with rfl|rfl|rfl|rfl|rfl|rfl<;>rfl
def Zg.start(W:World):Zg Fl.RS.zero [] 0 (m00 W):=
 {r1:=⟨rfl,rfl⟩,r2:=⟨rfl,rfl⟩,r3:=⟨rfl,rfl⟩,r4:=⟨rfl,rfl⟩,r5:=⟨rfl,rfl⟩,r6:=⟨rfl,rfl⟩,r8:=⟨rfl,rfl⟩,fO:=⟨rfl,rfl⟩,iQ:=⟨rfl,rfl⟩,iI:=⟨rfl,rfl⟩,bg:=rfl,st:=rfl,nm:=λx hx=>(by cases hx),lv:=by decide,ce:=by decide,ch:=by decide,lo:=by decide,sm:=by decide,fr:=by decide,lw:=by decide,ft:=by decide,pr:=rfl,bw:=⟨λx hx=>(by cases hx),λx hx=>(by cases hx)⟩,cl:=rfl,hl:=rfl,lt:=λh=>(by cases h)}
def RTab(w:World)(a b cv hv:Value)(p:Fl.aS):Prop:=
 a=Iq p.n/\∃Lq rb,b=.slice (some (Aq Lq 0)) p.n p.n/\Ye 0 w Lq rb p.n p.leq/\Zv w.heap.size w cv (p.cells.map λ(y:Nat)=>(y:Int))/\Zv w.heap.size w hv (p.aj.map λ(y:Nat)=>(y:Int))
def yv0{e:TypeId}{xs:List Nat}(h:w.ownsRow base e 1 v xs.length (Yi xs))(hk:∀b,base<=b->b<w.heap.size->w'.heap[b]?=w.heap[b]?):Zv w'.heap.size w' v (xs.map λ(y:Nat)=>(y:Int)):=by
 refine Zv.dE (e:=e) (base:=base) (n:=xs.length) ?_;rw[List.map_map];exact Yw h (λb hb=>hk b (h.lt b hb).1 (h.lt b hb).2)
def Zs.table{m:Yl}{fl:List FlS}(h:Zs lo base Rb Pb w0 wr m)(hr:Zg r fl t m)(hb:r.ae=true)(hk:∀b,base<=b->b<wr.heap.size->w'.heap[b]?=wr.heap[b]?)(hz:wr.heap.size<=w'.heap.size):RTab w' (Iq (m.N:Nat)) m.leq (m.v 12) (m.v 13) r.prog:=by
 obtain⟨hN,Lq,rb,h1,h2,h3,h4⟩:=hr.lt hb;have hq:∀b,m.fQ b->w'.heap[b]?=m.wk.heap[b]?:=λb hb=>have k:=h.kp b hb;(hk b k.1 k.2.1).trans k.2.2.1;have o12:=h.own 12 (by unfold Zr;omega);have o13:=h.own 13 (by unfold Zr;omega);rw[hr.iQ.1,hr.iQ.2]at o12;rw[hr.iI.1,hr.iI.2]at o13;exact⟨by rw[hN];rfl,Lq,rb,h1,h2.nC (λh0=>hq _ (h3 h0)) (λi hi=>hq _ (h4 i hi)),yv0 o12 hk,yv0 o13 hk⟩
def Vl(aV:Nat×Nat×Fl.aS)(w:World)(e:Ending)(w':World):Prop:=
 Bq w w'/\(aV.1≠0->e=.returned (.tuple #[.pointer none,Iq (aV.1:Nat),Iq (aV.2.1:Nat)]))/\
 (aV.1=0->∃(Pb:Nat) (a b bF bv:Value) (ca:Option Addr) (cc:Nat),e=.returned (.tuple #[Pq Pb,Iq 0,Iq 0])/\w.heap.size<=Pb/\Pb<w'.heap.size/\Zb w' Pb 6 (rw_ [a,b,.slice ca aV.2.2.cells.length cc,bF,Iq (aV.2.2.am:Nat),bv])/\Yt 4 (λb=>w.heap.size<=b/\b<w'.heap.size) w' bv aV.2.2.aX/\RTab w' a b (.slice ca aV.2.2.cells.length cc) bF aV.2.2)
structure zz3(W1:World)(L:List (List UInt8))(k:Nat)(wr:World)(m:Yl)(fl:List FlS)(r:Fl.RS):Prop where
 at_:Zs W1.heap.size (W1.heap.size+2) (W1.heap.size+1) W1.heap.size W1 wr m
 lh:Zg r fl k m
 oL:Vw fl r
 oK:cE fl=r.ap
 oJ:r.eO
 oH:k<L.length
 nO:Fl.rows Fl.RS.zero 0 L=Fl.rows r k (L.drop k)
def zz3.start(W1:World)(L:List (List UInt8))(h:0<L.length):zz3 W1 L 0 (zo9 W1) (m00 W1) [] Fl.RS.zero:=⟨Zs.start W1,Zg.start W1,flatR0,rfl,Fl.lL,h,rfl⟩
section
variable{W1:World}{L:List (List UInt8)}{k:Nat}{m:Yl}{fl:List FlS}
def zi1(hk:k+1<L.length):L.drop k=L[k]::L[k+1]::L.drop (k+2):=by
 rw[List.drop_eq_getElem_cons (by omega),List.drop_eq_getElem_cons hk]
def zz3.nz(h:zz3 W1 L k wr m fl r)(hk:k+1<L.length)(hl:Fl.aq (Fl.aE 32 L[k])=false):Fl.rows Fl.RS.zero 0 L=(2,k+1,r):=by
 rw[h.nO,zi1 hk,Fl.rows,if_pos hl]
def zz3.nP(h:zz3 W1 L k wr m fl r)(hk:k+1<L.length)(hl:Fl.aq (Fl.aE 32 L[k])=true)(he:(r.row (Fl.aE 32 L[k]) (k+1)).1≠0):Fl.rows Fl.RS.zero 0 L=((r.row (Fl.aE 32 L[k]) (k+1)).1,k+1,r):=by
 rw[h.nO,zi1 hk,Fl.rows,if_neg (by rw[hl];decide),if_pos he]
def zz3.next(h:zz3 W1 L k wr m fl r)(hk:k+1<L.length)(hl:Fl.aq (Fl.aE 32 L[k])=true)(he:(r.row (Fl.aE 32 L[k]) (k+1)).1=0){m':Yl}{fl':List FlS}(h1:Zs W1.heap.size (W1.heap.size+2) (W1.heap.size+1) W1.heap.size W1 w' m')(h2:Zg (r.row (Fl.aE 32 L[k]) (k+1)).2 fl' (k+1) m')(h3:Vw fl' (r.row (Fl.aE 32 L[k]) (k+1)).2)(h4:cE fl'=(r.row (Fl.aE 32 L[k]) (k+1)).2.ap):zz3 W1 L (k+1) w' m' fl' (r.row (Fl.aE 32 L[k]) (k+1)).2:=by
 refine⟨h1,h2,h3,h4,h.oJ.lK _ _ he,hk,?_⟩;rw[h.nO,zi1 hk,Fl.rows,if_neg (by rw[hl];decide),if_neg (by rw[he];decide),List.drop_eq_getElem_cons hk]
def zi2(hk:k+1=L.length):L.drop k=[L[k]]:=by
 rw[List.drop_eq_getElem_cons (by omega),List.drop_of_length_le (by omega)]
def zz3.last(h:zz3 W1 L k wr m fl r)(hk:k+1=L.length)(hx:¬(L[k]=[]/\0<k)):Fl.rows Fl.RS.zero 0 L=(2,k+1,r):=by
 rw[h.nO,zi2 hk,Fl.rows,if_neg hx]
def zz3.open_(h:zz3 W1 L k wr m fl r)(hk:k+1=L.length)(hx:L[k]=[]/\0<k)(ho:¬(r.ae=true/\r.fr=[])):Fl.rows Fl.RS.zero 0 L=(3,k+1,r):=by
 rw[h.nO,zi2 hk,Fl.rows,if_pos hx,if_neg ho]
def zz3.done(h:zz3 W1 L k wr m fl r)(hk:k+1=L.length)(hx:L[k]=[]/\0<k)(ho:r.ae=true/\r.fr=[]):Fl.rows Fl.RS.zero 0 L=(0,0,r):=by
 rw[h.nO,zi2 hk,Fl.rows,if_pos hx,if_pos ho]
end
def ykv(s:List UInt8)(w:World)(hs:s.length<=40000):Cq 4 #[.string ⟨s.toArray⟩] w (Vl (Fl.ak s) w):=by
 have I1:(s.length:Int)<=40000:=by omega
 by_cases i0:1200<s.length
 ·have p1:(1200:Int)<(s.length:Int):=by omega
  have HE:Hid (Vl (Fl.ak s) w (.returned (.tuple #[.pointer none,Iq 1,Iq 0])) w):=by
   have e:Fl.ak s=(1,0,Fl.RS.zero.prog):=(by unfold Fl.ak;rw[if_pos i0]);show Vl _ _ _ _;rw[e];exact⟨Below.refl _ _,λ_=>rfl,λh=>(by cases h)⟩
  go_enter func4,ntmps4
  go_wp2;refine bodyPost_ret (v:=.tuple #[.pointer none,Iq 1,Iq 0]) (by simp[results,results4,go_sem]) rfl ?_;exact HE
 have p1:¬(1200:Int)<(s.length:Int):=by omega
 have q1:(s.length:Int)<=1200:=by omega
 obtain⟨L,hL⟩:=nmE (Fl.aE 10 s);have F0:Hid (Cq 7 #[.string ⟨s.toArray⟩,.int .u8 10] w λe w'=>∃g cap,e=.returned (.slice (some (Aq g 0)) L.length cap)/\w.heap.size<=g/\Zf w'.heap.size w' (.slice (some (Aq g 0)) L.length cap) L/\Bq w w'):=by
  have h:=ys9 10 s w (by omega);rw[<-hL]at h;exact h
 have G0:Hid (∀(x:List UInt8) (W:World),x.length<=1200->Cq 7 #[.string ⟨x.toArray⟩,.int .u8 32] W λe w'=>∃g cap,e=.returned (.slice (some (Aq g 0)) (Fl.aE 32 x).length cap)/\W.heap.size<=g/\Zf w'.heap.size w' (.slice (some (Aq g 0)) (Fl.aE 32 x).length cap) (Fl.aE 32 x)/\Bq W w'):=λx W hx=>ys9 32 x W (by omega)
 have d0:Hid (Fl.ak s=((Fl.rows Fl.RS.zero 0 L).1,(Fl.rows Fl.RS.zero 0 L).2.1,(Fl.rows Fl.RS.zero 0 L).2.2.prog)):=by show _=_;rw[hL];unfold Fl.ak;rw[if_neg i0]
 have l0:Hid (L.length<=1201/\∀x∈L,x.length<=1200):=by rw[hL];have:=zo6 10 s;exact⟨by omega,λx hx=>by have:=this.2 x hx;omega⟩
 have r1:0<L.length:=by rw[hL];exact List.length_pos_iff.2 (Fl.dR 10 s)
 have J1:(L.length:Int)<=1201:=by have:=l0.1;omega
 obtain⟨aV,H0⟩:=nmE (Fl.ak s);rw[<-H0]at d0⊢;clear H0 hL i0
 go_enter func4,ntmps4
 go_wp2_with fail
 refine F0.mono ?_;rintro e W1 ⟨g,cap,rfl,s1,g0,Z0⟩;have m0:=Zz Z0;have K1:=Zz g0
 have a1:Hid (∀W,Bq W1 W->∀i,(hi:i<L.length)->W.cell? (Aq g i)=some (.string ⟨(L[i]).toArray⟩)):=λW hW i hi=>by
  obtain⟨ao,c,h1,h2,h3,h4,h5,h6⟩:=g0;simp only[Value.slice.injEq]at h1;obtain⟨b,off,e,hb,hc⟩:=h6 (by intro h;rw[h]at hi;simp at hi);rw[<-h1.1]at e;simp only[Option.some.injEq,Addr.mk.injEq]at e;obtain⟨rfl,rfl,-⟩:=e;have h7:=hc i hi;rw[Nat.zero_add]at h7;rw[hW.cell (p:=(Aq g i)) hb,h7,Qa,Qb hi];rfl
 clear s1 g0 Z0 F0
 go_wp2_with (first|(refine Uu rfl 39 _ rfl zly (by kernel_rfl) ?_)|(refine Uu rfl 41 _ rfl (rdZ W1.heap.size) (by kernel_rfl) ?_))
 have R0:Hid (zz3 W1 L 0 (zo9 W1) (m00 W1) [] Fl.RS.zero):=zz3.start W1 L r1;have b1:(W1.alloc (.cells zly 39)).alloc (.cells (rdZ W1.heap.size) 41)=zo9 W1:=rfl;rw[b1];clear b1;obtain⟨W2,c1⟩:=nmE (zo9 W1);rw[<-c1]at R0⊢;clear c1
 go_loopw [8,9] (λn i wr=>∃(k:Nat) (m:Yl) (fl:List FlS) (r:Fl.RS),n=Iq k/\i=Iq k/\zz3 W1 L k wr m fl r) (λ_ i _=>L.length - (intOf i).toNat)
 case atStart=>exact⟨0,_,_,_,rfl,rfl,R0⟩
 case round=>
  obtain⟨k,m,fl,r,rfl,rfl,hI⟩:=hrel;clear R0;have HI:=Zz hI;have hk:=hI.oH;have L1:(k:Int)<(L.length:Int):=(by omega);have d1:=Zz hI.at_.bel;have M1:W1.heap.size+2<=wr.heap.size:=hI.at_.bL.2.2.2.2.2.1;have cx:wr.cell? (Aq g k)=some (.string ⟨(L[k]).toArray⟩):=a1 wr hI.at_.bel k hk;obtain⟨x,hx⟩:=nmE (L[k]);rw[<-hx]at cx;have t1:Hid (x.length<=1200):=(by show _<=_;rw[hx];exact l0.2 _ (List.getElem_mem hk));have HX:=Zz hx;have I0:Hid (∀W,Bq wr W->Bq w W):=λW hW=>m0.trans ((d1.trans (hW.mono (by omega))).mono m0.size);obtain⟨xb,J0⟩:=nmE (α:=ByteArray) (⟨x.toArray⟩)
  have K0:Hid (∀W,Cq 7 #[.string xb,.int .u8 32] W λe w'=>∃g cap,e=.returned (.slice (some (Aq g 0)) (Fl.aE 32 x).length cap)/\W.heap.size<=g/\Zf w'.heap.size w' (.slice (some (Aq g 0)) (Fl.aE 32 x).length cap) (Fl.aE 32 x)/\Bq W w'):=λW=>by rw[J0];exact G0 x W t1.out
  have f1:xb.toList=x:=(by rw[J0];exact Yr x);rw[<-J0]at cx;have g1:=Zz f1;have n0:=Zz J0;clear hI hx J0 f1 G0 a1
  by_cases j0:k+1=L.length
  ·have bl:((k:Int)==(L.length:Int) - 1)=true:=by simp;omega
   by_cases C0:x=[]/\0<k
   ·have cx2:wr.cell? (Aq g k)=some (.string ⟨#[]⟩):=by rw[cx,n0.out,C0.1]
    have i1:(0:Int)<(k:Int):=(by omega);have S0:Hid (L[k]=[]/\0<k):=(by rw[<-HX.out];exact C0);have y7:wr.cell? (Aq (W1.heap.size+1) 7)=some (.bool r.ae):=(by rw[<-HI.lh.bg];exact HI.at_.cR.c 7 (by omega));obtain⟨d8,k8,T0⟩:=HI.at_.shape 8 (by unfold Zr;omega);rw[HI.lh.r8.1]at T0;have y8:wr.cell? (Aq (W1.heap.size+1) 8)=some (.slice d8 r.fr.length k8):=(by rw[<-T0];exact HI.at_.cR.c 8 (by omega));have u1:(r.fr.length:Int)<=3:=(by have:=HI.lh.fr;omega);clear cx C0 T0 K0 g1 n0 HX
    by_cases a0:r.ae=true/\r.fr=[]
    ·rw[a0.1]at y7
     rw[a0.2]at y8;have HD:=Zz a0;have c0:Hid (Fl.rows Fl.RS.zero 0 L=(0,0,r)):=HI.done j0 S0 a0;obtain⟨d4,k4,U0⟩:=HI.at_.shape 4 (by unfold Zr;omega);rw[HI.lh.r4.1]at U0;obtain⟨d10,k10,o0⟩:=HI.at_.shape 10 (by unfold Zr;omega);rw[HI.lh.fO.1]at o0;obtain⟨dc,kc,V0⟩:=HI.at_.shape 12 (by unfold Zr;omega);rw[HI.lh.iQ.1]at V0;have v1:(r.am.length:Int)<=4:=(by have:=HI.lh.lo;omega);have e0:wr.drew.cell? (Aq (W1.heap.size+1) 0)=some (Pq W1.heap.size):=HI.at_.cR.c 0 (by omega);have e4:wr.drew.cell? (Aq (W1.heap.size+1) 4)=some (.slice d4 r.am.length k4):=(by rw[<-U0];exact HI.at_.cR.c 4 (by omega));have e10:wr.drew.cell? (Aq (W1.heap.size+1) 10)=some (.slice d10 fl.length k10):=(by rw[<-o0];exact HI.at_.cR.c 10 (by omega));obtain⟨vp4,q4⟩:∃v,wr.drew.cell? (Aq W1.heap.size 4)=some v:=⟨_,HI.at_.cP.c 4 (by omega)⟩;have f4:wr.drew.frozen? (Aq W1.heap.size 4)=false:=HI.at_.cP.z 4;obtain⟨W4,p0⟩:=nmE ((wr.setCell (Aq W1.heap.size 4) (Iq (r.am.length:Int))).drew);have j1:W4.heap.size=wr.heap.size:=(by rw[p0];exact Zy _ _ _);have L0:Hid (Zb W4 W1.heap.size 6 (λi=>if i=4 then Iq (r.am.length:Int) else rpC m i)):=by
      show Zb _ _ _ _;rw[p0];exact Zb.set (w:=wr.drew) (HI.at_.drew.cP) (by omega) _
     have y1:Hid (W4.cell? (Aq (W1.heap.size+1) 0)=some (Pq W1.heap.size)):=by
      show _=_;rw[p0];exact(Qc (a:=(Aq (W1.heap.size+1) 0)) (Zx wr.drew _ _ _ _ (by show W1.heap.size+1≠W1.heap.size;omega))).trans e0
     have g10:W4.cell? (Aq (W1.heap.size+1) 10)=some (.slice d10 fl.length k10):=by
      rw[p0];exact(Qc (a:=(Aq (W1.heap.size+1) 10)) (Zx wr.drew _ _ _ _ (by show W1.heap.size+1≠W1.heap.size;omega))).trans e10
     have k1:Hid (zq6 W4 (.slice d10 fl.length k10) fl):=by
      have ho:=HI.at_.drew.own 10 (by unfold Zr;omega);rw[o0,HI.lh.fO.1,HI.lh.fO.2]at ho;refine zq6.dE (base:=W1.heap.size+2) ?_ (by have:=HI.lh.ft;have:=l0.1;omega);rw[p0];exact Yw ho (λb hb=>Zx wr.drew _ _ _ _ (by have:=(ho.lt b hb).1;omega))
     have s0:Hid (Cq 10 #[.slice d10 fl.length k10,Iq 0] W4 (zv4 4 W4 (0+fl.length) r.bC)):=by
      obtain⟨a,b,h1,h2,h3⟩:=HI.oL;rw[a0.2]at h3;have h4:b=[]:=h3;rw[h4,List.append_nil]at h1;rw[<-h1]at h2;exact yh6 4 fl (.slice d10 fl.length k10) (by rw[HI.oK];exact HI.lh.sm) W4 0 fl r.bC [] k1 (by omega) (by simp) h2 (.inl rfl)
     have P0:=Zz p0.symm
     have z1:Hid (∀b,W1.heap.size+2<=b->W4.heap[b]?=wr.heap[b]?):=λb hb=>by rw[p0];exact Zx wr _ _ _ _ (by omega)
     have l1:=Zz j1;have y0:Hid (Bq w W4):=by
      show Below _ _ _;rw[p0];exact((I0 _ (Below.refl _ _)).setCell m0.size _).drew
     have W0:=Zz V0;have A1:W1.heap.size+2<=W4.heap.size:=(by omega);clear U0 o0 V0 a0 p0 k1 j1;simp only[List.length_nil]at y8
     go_wp2_with fail
     refine Zi (λW=>W.cell? (Aq (W1.heap.size+1) 0)=some (Pq W1.heap.size)/\W.cell? (Aq (W1.heap.size+1) 4)=some (.slice d4 r.am.length k4)) [9] [11] [] ⟨e0,e4⟩ (by kernel_rfl) (λc a d v w h=>by cases d<;>exact h) (λops hG=>?_);clear hG
     iterate 9 refine Zw rfl (by rintro _ ⟨_,_⟩;go_simp<;>rfl) (by go_simp<;>rfl) ?_
     refine Zt ?_
     go_wp2_with fail
     refine⟨⟨e0,e4⟩,?_⟩;refine Zw rfl (by rintro _ -;go_simp<;>rfl) (by go_simp<;>rfl) ?_;refine Xp ?_
     go_wp2_with fail
     refine Zu ?_;rw[P0.out];clear P0 e0 e4 e10 q4 f4 y7 y8 cx2
     go_wp2_with fail
     refine s0.mono ?_;rintro e W5 ⟨D0,oa,on,oc,rfl,M0⟩;have N1:W4.heap.size<=W5.heap.size:=D0.size;have u0:W5.cell? (Aq (W1.heap.size+1) 0)=some (Pq W1.heap.size):=(D0.cell (p:=(Aq (W1.heap.size+1) 0)) (by show W1.heap.size+1<_;omega)).trans y1.out;have q0:Zb W5 W1.heap.size 6 (λi=>if i=4 then Iq (r.am.length:Int) else rpC m i):=L0.block (D0.block _ (by omega));obtain⟨v5,u5⟩:∃v,W5.cell? (Aq W1.heap.size 5)=some v:=⟨_,q0.c 5 (by omega)⟩;have uz:W5.frozen? (Aq W1.heap.size 5)=false:=q0.z 5;have HE:Hid (Vl aV w (.returned (.tuple #[Pq W1.heap.size,Iq 0,Iq 0])) (W5.setCell (Aq W1.heap.size 5) (.slice oa on oc))):=by
      have e9:=d0.out;rw[c0.out]at e9;show Vl _ _ _ _;rw[e9];refine⟨(y0.trans (D0.mono y0.size)).setCell m0.size _,λh=>absurd rfl h,λ_=>⟨W1.heap.size,Iq m.N,m.leq,m.v 13,.slice oa on oc,dc,kc,rfl,m0.size,by rw[Zy];omega,?_,?_,?_⟩⟩
      ·refine(q0.set (j:=5) (by omega) (.slice oa on oc)).congr (λj hj=>?_)
       rcases(show j=0\/j=1\/j=2\/j=3\/j=4\/j=5 by omega) with rfl|rfl|rfl|rfl|rfl|rfl
       ·rfl
       ·rfl
       ·exact W0
       ·rfl
       ·rfl
       rfl
      ·exact Yt.kept (λb hb=>⟨by have:=m0.size;omega,by rw[Zy];exact hb.2⟩) (λb hb=>Zx _ _ _ _ _ (by omega)) 4 _ _ M0
      have h9:=HI.at_.table HI.lh HD.1 (w':=W5.setCell (Aq W1.heap.size 5) (.slice oa on oc)) (λb h1 h2=>(Zx _ _ _ _ _ (by omega)).trans ((D0.block b (by have:=l1.out;omega)).trans (z1 b h1))) (by rw[Zy];have:=l1.out;omega);rw[W0.out]at h9;exact h9
     clear D0 M0 q0 s0 c0 d0 HI L0 y0 W0;go_wp2;refine bodyPost_ret (v:=.tuple #[Pq W1.heap.size,Iq 0,Iq 0]) (by simp[results,results4,go_sem]) rfl ?_;exact HE
    have c0:Hid (Fl.rows Fl.RS.zero 0 L=(3,k+1,r)):=HI.open_ j0 S0 a0;have HE:Hid (Vl aV w (.returned (.tuple #[.pointer none,Iq 3,Iq ((k:Int)+1)])) wr):=by
     have e9:=d0.out;rw[c0.out]at e9;show Vl _ _ _ _;rw[e9];exact⟨I0 _ (Below.refl _ _),λ_=>rfl,λh=>(by cases h)⟩
    clear c0 d0 HI I0 S0 d1 m0
    cases N0:r.ae with
    |false=>
     rw[N0]at y7;clear a0 N0;go_wp2;refine bodyPost_ret (v:=.tuple #[.pointer none,Iq 3,Iq ((k:Int)+1)]) (by simp[results,results4,go_sem]) rfl ?_;exact HE
    |true=>
     rw[N0]at y7;have O1:0<r.fr.length:=List.length_pos_iff.2 (λh=>a0 ⟨N0,h⟩);have B1:(0:Int)<(r.fr.length:Int):=(by omega);clear a0 N0;go_wp2;refine bodyPost_ret (v:=.tuple #[.pointer none,Iq 3,Iq ((k:Int)+1)]) (by simp[results,results4,go_sem]) rfl ?_;exact HE
   have c0:Hid (Fl.rows Fl.RS.zero 0 L=(2,k+1,r)):=HI.last j0 (by rw[<-HX.out];exact C0)
   have m1:Hid (∀W,Bq wr W->Vl aV w (.returned (.tuple #[.pointer none,Iq 2,Iq ((k:Int)+1)])) W):=λW hW=>by
    have e9:=d0.out;rw[c0.out]at e9;rw[e9];exact⟨I0 W hW,λ_=>rfl,λh=>(by cases h)⟩
   have C1:Hid (x=[]->k=0):=λh=>by
    by_cases h0:0<k
    ·exact absurd ⟨h,h0⟩ C0
    omega
   clear C0
   cases E0:x with
   |nil=>
    have i1:=C1 E0;have cx2:wr.cell? (Aq g k)=some (.string ⟨#[]⟩):=(by rw[cx,n0.out,E0])
    have X0:Hid (∀W,Cq 7 #[.string ⟨#[]⟩,.int .u8 32] W λe w'=>∃g cap,e=.returned (.slice (some (Aq g 0)) (Fl.aE 32 x).length cap)/\W.heap.size<=g/\Zf w'.heap.size w' (.slice (some (Aq g 0)) (Fl.aE 32 x).length cap) (Fl.aE 32 x)/\Bq W w'):=λW=>by have h:=K0 W;rw[n0.out]at h;rw[E0]at h⊢;exact h
    have D1:(k:Int)<=0:=(by omega);have E1:¬(0:Int)<(k:Int):=(by omega);clear cx E0 i1
    go_wp2_with fail
    refine(X0 _).mono ?_;rintro e W3 ⟨g3,c3,rfl,z0,t0,v0⟩;have A0:=Zz t0;have x0:=Zz v0;clear z0 t0 v0
    go_wp2_with fail
    refine(zi0 _ _ W3 A0 (Fl.dR _ _)).mono ?_;rintro e W4 ⟨rfl,k0⟩;have HE:Hid _:=m1 W4 (x0.trans (k0.mono x0.size));clear k0
    cases Fl.aq (Fl.aE 32 x)
    all_goals
     go_wp2;refine bodyPost_ret (v:=.tuple #[.pointer none,Iq 2,Iq ((k:Int)+1)]) (by simp[results,results4,go_sem]) rfl ?_;exact HE
   |cons x1 xs1=>
    have kx:(xb.toList==[])=false:=(by rw[g1.out,E0];rfl);clear E0
    go_wp2_with fail
    refine(K0 _).mono ?_;rintro e W3 ⟨g3,c3,rfl,z0,t0,v0⟩;have A0:=Zz t0;have x0:=Zz v0;clear z0 t0 v0
    go_wp2_with fail
    refine(zi0 _ _ W3 A0 (Fl.dR _ _)).mono ?_;rintro e W4 ⟨rfl,k0⟩;have HE:Hid _:=m1 W4 (x0.trans (k0.mono x0.size));clear k0
    cases Fl.aq (Fl.aE 32 x)
    all_goals
     go_wp2;refine bodyPost_ret (v:=.tuple #[.pointer none,Iq 2,Iq ((k:Int)+1)]) (by simp[results,results4,go_sem]) rfl ?_;exact HE
  have bl:((k:Int)==(L.length:Int) - 1)=false:=(by simp;omega);have Y0:k+1<L.length:=(by omega)
  go_wp2_with fail
  refine(K0 _).mono ?_;rintro e W3 ⟨g3,c3,rfl,z0,t0,v0⟩;have A0:=Zz t0;have x0:=Zz v0;have F1:=Zz z0;clear z0 t0 v0;obtain⟨ws,Q0⟩:=nmE (Fl.aE 32 x);rw[<-Q0]at A0⊢;have O0:Hid (ws=Fl.aE 32 L[k]):=(by show _=_;rw[Q0,HX.out]);have G1:Hid (ws≠[]):=(by rw[Q0];exact Fl.dR _ _);clear Q0 K0
  go_wp2_with fail
  refine(zi0 _ _ W3 A0 G1).mono ?_;rintro e W4 ⟨rfl,k0⟩;have n1:Hid (Bq wr W4):=x0.trans (k0.mono x0.size);have P0:Hid (Zf W4.heap.size W4 (.slice (some (Aq g3 0)) ws.length c3) ws):=(A0.below k0).mono k0.size;clear k0
  cases f0:Fl.aq ws with
  |false=>
   have c0:Hid (Fl.rows Fl.RS.zero 0 L=(2,k+1,r)):=HI.nz Y0 (by rw[<-O0.out];exact f0);have HE:Hid (Vl aV w (.returned (.tuple #[.pointer none,Iq 2,Iq ((k:Int)+1)])) W4):=by
    have e9:=d0.out;rw[c0.out]at e9;show Vl _ _ _ _;rw[e9];exact⟨I0 _ n1,λ_=>rfl,λh=>(by cases h)⟩
   clear f0;go_wp2;refine bodyPost_ret (v:=.tuple #[.pointer none,Iq 2,Iq ((k:Int)+1)]) (by simp[results,results4,go_sem]) rfl ?_;exact HE
  |true=>
   have r0:Hid (Cq 9 #[.pointer (some (Aq (W1.heap.size+1) 0)),.slice (some (Aq g3 0)) ws.length c3,Iq ((k:Int)+1)] W4 (Xr W1.heap.size (W1.heap.size+2) (W1.heap.size+1) W1.heap.size W1 k (r.row ws (k+1)))):=by
    refine yg0 (HI.at_.below n1) HI.lh HI.oL HI.oK HI.oJ (by have:=l0.1;omega) _ ws P0 (λb off n c hv=>?_) f0 (k+1);simp only[Value.slice.injEq,Option.some.injEq,Addr.mk.injEq]at hv;have z0:=F1.out;refine⟨by omega,λj hj hh=>?_⟩;have:=((HI.at_.own j hj).lt b hh).2;omega
   obtain⟨q,hq⟩:=nmE (r.row ws (k+1));rw[<-hq]at r0;have HQ:=Zz hq;have o1:=Zz f0;clear hq f0
   go_wp2_with fail
   refine r0.mono ?_;rintro e W5 ⟨rfl,aQ,B0⟩
   by_cases h0:q.1=0
   ·obtain⟨m',fl',h1,h2,h3,h4⟩:=aQ h0
    have H1:Hid (zz3 W1 L (k+1) W5 m' fl' q.2):=by
     have e1:r.row (Fl.aE 32 L[k]) (k+1)=q:=(by rw[<-O0.out,<-HQ.out]);have h5:=HI.next Y0 (by rw[<-O0.out];exact o1) (by rw[e1];exact h0) h1 (by rw[e1];exact h2) (by rw[e1];exact h3) (by rw[e1];exact h4);rw[e1]at h5;exact h5
    rw[h0];clear aQ B0 h0 h1 h2 h3 h4 r0;go_wp2
    go_roundw
    case rel=>exact⟨k+1,m',fl',q.2,by go_num,by go_num,H1⟩
    case measure=>simp[intOf];omega
   have b0:(((q.1:Nat):Int) !=0)=true:=(by rw[bne_iff_ne];omega);have HE:Hid (Vl aV w (.returned (.tuple #[.pointer none,Iq (q.1:Nat),Iq ((k:Int)+1)])) W5):=by
    have e1:r.row (Fl.aE 32 L[k]) (k+1)=q:=(by rw[<-O0.out,<-HQ.out]);have h5:=HI.nP Y0 (by rw[<-O0.out];exact o1) (by rw[e1];exact h0);rw[e1]at h5;have e9:=d0.out;rw[h5]at e9;show Vl _ _ _ _;rw[e9];exact⟨m0.trans ((B0 h0).mono m0.size),λ_=>rfl,λh=>absurd h h0⟩
   clear aQ B0 h0 r0;go_wp2;refine bodyPost_ret (v:=.tuple #[.pointer none,Iq (q.1:Nat),Iq ((k:Int)+1)]) (by simp[results,results4,go_sem]) rfl ?_;exact HE
end Go.Proofs.YtfhpibppblbgcaaGreatDoor
