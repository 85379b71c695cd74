import Derived.Test.YtgmbnnpnefniiaaGreatDoorM21
import Derived.Laws.OwnMore
set_option linter.all false
set_option maxRecDepth 100000
set_option maxHeartbeats 40000000
namespace Go.Proofs.YtgmbnnpnefniiaaGreatDoor
open Go.RowKit Go.Proofs.Tryz List World Value Fl
variable{W w0 w V W2 W3 wr:World}{Xb Pb Lq b k B Rb j g i n:Nat}{wv wv' lv aB hv bv wv1 v' u:Value}{c m:Int}{ls:Is}{acc:List ar}{lvs lvs1:Vs}{e:Ending}{rb:Nat->Nat}{p:aY}{o:Obj}{cs:Array Value}{t:TypeId}
def At.lG{W W':World}{Xb:Nat}{wv wv':Value}(h:Yg W W' Xb Xb wv wv'):∀{l:List (Addr×Value)},(∀q∈l,q.1.block≠Xb/\some q.1.block≠wv.ownBlock)->At W l->At W' l
 |[],_,_=>trivial
 |q::l,hl,⟨⟨h1,h2⟩,h3⟩=>⟨⟨Qj h1 h.sz,(Qc (a:=q.1) (h.bl _ h1 (hl q (by simp)).1 (hl q (by simp)).1 (hl q (by simp)).2)).trans h2⟩,At.lG h (λq hq=>hl q (by simp[hq])) h3⟩
def Yg.off{W':World}(h:Yg W W' Xb Xb wv wv'){c:Nat}(hc:c<W.heap.size)(hn:some c≠wv.ownBlock):some c≠wv'.ownBlock:=by
 rcases h.ow with e|⟨g,e,hg⟩
 ·rw[e];exact hn
 rw[e];intro hh;injection hh with hh;omega
def Vn.up{X:Value×Is->Prop}{w':World}{r:Int×List ar}(hb:D w W)(h:Vn X w0 W Xb lv wv ls acc lvs r e w')(hX:∀p,X p->p.2=[]):Vn (λ_=>False) w0 w Xb lv wv ls acc lvs r e w':=by
 obtain⟨h1,wv',lvs',h2,h3,h4⟩:=h;refine⟨h1,wv',lvs',h2,(Yg.aD hb).trans h3,λp hp=>?_⟩;rcases h4 p hp with h5|h5|h5|h5
 ·exact .inl h5
 ·exact .inr (.inr (.inl (hX p h5)))
 ·exact .inr (.inr (.inl h5))
 exact .inr (.inr (.inr λb hb'=>Nat.le_trans hb.size (h5 b hb')))
section
def yx7(hp:zyv w0 Pb Lq rb aB hv bv p)(h:Yc w0 w Xb lv wv ls acc lvs)(h4:ls.length<=4){a:dK}(ho:zsy (vars p ls) a)(hn:acc.length<=1000):
  E 62 #[F Pb,F Xb,.agg #[.bool a.var,I a.v]] w (Vn (λ_=>False) w0 w Xb lv wv ls acc lvs (dW p (vars p ls) acc a)):=by
 obtain⟨la,ln,lc,i0⟩:∃a b c,lv=A a b c:=by obtain⟨a,c,e,-⟩:=h.ints;exact⟨a,_,c,e⟩
 obtain⟨wa,wn,wc,j0⟩:∃a b c,wv=A a b c:=by obtain⟨a,c,e,-⟩:=h.nodes;exact⟨a,_,c,e⟩
 subst i0 j0;have HH:=Z h;have hz:=h.hz;obtain⟨W0,b0⟩:=J (w.alloc (.cells #[.bool a.var,I a.v] 87))
 have g0:Y (D w W0):=by show Below _ _ _;rw[b0];exact bA
 have e0:w.heap.size<W0.heap.size:=by rw[b0];simp
 have HX:Y (∀V,D W0 V->Yc w0 V Xb (A la ln lc) (A wa wn wc) ls acc lvs):=λV hV=>h.below (g0.trans (hV.mono (Nat.le_of_lt e0)))
 have HS:Y (∀V,D W0 V->M V Xb 0 (A la ln lc)/\M V Xb 1 (A wa wn wc)/\M V w.heap.size 0 (.bool a.var)/\M V w.heap.size 1 (I a.v)):=λV hV=>by
  have q:∀j,V.cell? (O w.heap.size j)=W0.cell? (O w.heap.size j):=λj=>hV.cell (p:=(O w.heap.size j)) e0;exact⟨(HX V hV).c0,(HX V hV).c1,(q 0).trans (by rw[b0];simp),(q 1).trans (by rw[b0];simp)⟩
 have HL:Y (∀V,D W0 V->E 61 #[F Pb,.agg #[A la ln lc,A wa wn wc],.agg #[.bool a.var,I a.v]] V (Rw (I (bQ p (vars p ls) a)) V)):=λV hV=>zo6 (hp.below (HX V hV).be) (HX V hV).ints wa wn wc h4 ho
 have HP:Y (∀V,D W0 V->∀k,k=(if a.var then 1 else 0)->E 44 #[F Xb,.agg #[I k,I (bQ p (vars p ls) a),I a.v,I 0,I 0,K]] V (Vn (λ_=>False) w0 w Xb (A la ln lc) (A wa wn wc) ls acc lvs (dW p (vars p ls) acc a))):=λV hV k hk=>by
  rw[hk];exact(zq0 (nd:=⟨if a.var then 1 else 0,bQ p (vars p ls) a,a.v,0,0,[]⟩) (lvn:=K) (HX V hV) (Zw.nil _ _) ⟨λ_=>rfl,by simp⟩ (λhn=>absurd rfl hn) (by omega)).mono λe w' he=>he.up (g0.trans (hV.mono (Nat.le_of_lt e0))) (λq hq=>by rw[hq])
 generalize bQ p (vars p ls) a=al at*;clear h hp ho
 go_enter func62,ntmps62
 go_wp2_with fail
 rw[<-b0];clear b0;refine Zk HS dA [5] [] [] (by kernel_rfl) (λ_ _ _ _ h=>h) (λops _=>?_)
 iterate 5 refine Zv rfl (by intros;go_simp<;>rfl) (by go_simp<;>rfl) ?_
 refine Zm ?_
 go_wp2_with fail
 refine(HL _ dA).mono ?_;rintro e1 W1 ⟨rfl,h0⟩;have a0:Y (D W0 W1):=dA.trans h0;clear h0 HL
 go_wp2_with fail
 refine⟨HS _ a0,?_⟩;refine Zv rfl (by intros;go_simp<;>rfl) (by go_simp<;>rfl) ?_;refine Zs ?_;obtain⟨-,-,c0,c1⟩:=HS _ a0.out;have k0:w.heap.size<W1.heap.size:=Qj e0 a0.size
 cases f0:a.var
 ·rw[f0]at c0
  have d0:=Z λV hV=>HP V hV 0 (by rw[f0];rfl);clear HP
  go_wp2_with fail
  refine(d0 _ (a0.alloc a0.size _)).mono ?_;rintro e2 W2 he;obtain⟨x,rfl⟩:∃x,e2=.returned x:=⟨_,he.1⟩;have HE:=Z he;clear he d0;go_wp2;go_ret;exact HE
 rw[f0]at c0;have d0:=Z λV hV=>HP V hV 1 (by rw[f0];rfl);clear HP
 go_wp2_with fail
 refine(d0 _ (a0.alloc a0.size _)).mono ?_;rintro e2 W2 he;obtain⟨x,rfl⟩:∃x,e2=.returned x:=⟨_,he.1⟩;have HE:=Z he;clear he d0;go_wp2;go_ret;exact HE
def Vn.nT{w1 w2:World}{r r1:Int×List ar}(hs:Yg w w1 Xb Xb wv wv1)(hl:Ut (λ_=>False) w acc lvs r1.2 lvs1)(h:Vn (λ_=>False) w0 w1 Xb lv wv1 ls r1.2 lvs1 r e w2):Vn (λ_=>False) w0 w Xb lv wv ls acc lvs r e w2:=by
 obtain⟨h1,wv',lvs',h2,h3,h4⟩:=h;exact⟨h1,wv',lvs',h2,hs.trans h3,hl.trans hs.sz h4⟩
def Yc.own(h:Yc w0 w Xb lv wv ls acc lvs){c:Nat}(hc:w.heap.size<=c):c≠Xb/\some c≠wv.ownBlock:=⟨by have:=h.hz;omega,λhh=>by have:=(h.ow.lt c hh.symm).2;omega⟩
def Yc.sl(h:Yc w0 w Xb lv wv ls acc lvs):(∃a b c,lv=A a b c)/\∃a b c,wv=A a b c:=by
 obtain⟨a,c,e,-⟩:=h.ints;obtain⟨a',c',e',-⟩:=h.nodes;exact⟨⟨a,_,c,e⟩,a',_,c',e'⟩
def yx8(hp:zyv w0 Pb Lq rb aB hv bv p)(h:Yc w0 w Xb lv wv ls acc lvs)(h4:ls.length<=4)(ok:bC p (vars p ls)){e:dZ}(ho:cg (vars p ls).length e)(hn:acc.length<=900):
  E 42 #[F Pb,F Xb,.agg #[I e.op,.bool e.a.var,I e.a.v,.bool e.b.var,I e.b.v]] w (Vn (λ_=>False) w0 w Xb lv wv ls acc lvs (fe p (vars p ls) acc e)):=by
 obtain⟨⟨la,ln,lc,L0⟩,-⟩:=h.sl;subst L0;have hi:=zp7 ho;have hz:=h.hz;obtain⟨W0,b0⟩:=J (w.alloc (.cells #[I e.op,.bool e.a.var,I e.a.v,.bool e.b.var,I e.b.v] 89))
 have g0:Y (D w W0):=by show Below _ _ _;rw[b0];exact bA
 have t0:w.heap.size<W0.heap.size:=by rw[b0];simp
 have u0:Y (At W0 [((O w.heap.size 0),I e.op),((O w.heap.size 1),.bool e.a.var),((O w.heap.size 2),I e.a.v),((O w.heap.size 3),.bool e.b.var),((O w.heap.size 4),I e.b.v)]):=by rw[b0];exact⟨⟨by simp,by simp⟩,⟨by simp,by simp⟩,⟨by simp,by simp⟩,⟨by simp,by simp⟩,⟨by simp,by simp⟩,trivial⟩
 have i0:=Z (h.own (Nat.le_refl w.heap.size));have j0:Y (∀V wv' acc' lvs' a,Yc w0 V Xb (A la ln lc) wv' ls acc' lvs'->zsy (vars p ls) a->acc'.length<=1000->E 62 #[F Pb,F Xb,.agg #[.bool a.var,I a.v]] V (Vn (λ_=>False) w0 V Xb (A la ln lc) wv' ls acc' lvs' (dW p (vars p ls) acc' a))):=λV wv' acc' lvs' a hV ha hl=>yx7 hp hV h4 ha hl;have m0:Y (∀V na nn nc,Zw V.heap.size V (A la ln lc) ls->D w0 V->E 40 #[F Pb,.agg #[A la ln lc,A na nn nc],.agg #[I e.op,.bool e.a.var,I e.a.v,.bool e.b.var,I e.b.v]] V λr w'=>r=.returned (I (aA p (vars p ls) e))/\D V w'):=λV na nn nc hV hb=>zt4 (hp.below hb) hV na nn nc h4 ok ho;have HR:Y (fe p (vars p ls) acc e=if e.op<0 then dW p (vars p ls) acc e.a else ep (dW p (vars p ls) (dW p (vars p ls) acc e.a).2 e.b).2 ⟨2,aA p (vars p ls) e,e.op,(dW p (vars p ls) acc e.a).1,(dW p (vars p ls) (dW p (vars p ls) acc e.a).2 e.b).1,[]⟩):=rfl;have k0:Y (∀(ac:List ar) a,(dW p (vars p ls) ac a).2.length<=ac.length+1):=λac a=>dV _ _;have HI:=Z hi;generalize fe p (vars p ls) acc e=aX at*;generalize vars p ls=vs at*;have v0:=Z (j0 W0 _ _ _ e.a (h.below g0) HI.1 (by omega));clear h hp ho hi ok
 go_enter func42,ntmps42
 go_wp2_with fail
 rw[<-b0];clear b0;refine v0.mono ?_;rintro e1 W1 x0;have n0:=Z x0;obtain⟨rfl,wv1,lvs1,y0,d0,z0⟩:=x0;have A0:=Z y0;have B0:=Z d0;have C0:Y (Ut (λ_=>False) w acc lvs (dW p vs acc e.a).2 lvs1):=(Ut.refl _ _ _ _).trans g0.size z0
 have o0:Y _:=At.lG d0 (λq hq=>by
  simp only[mem_cons,not_mem_nil,or_false]at hq
  rcases hq with rfl|rfl|rfl|rfl|rfl<;>exact i0.out) u0.out
 have e0:Y (w.heap.size≠Xb/\some w.heap.size≠wv1.ownBlock):=⟨i0.1,d0.off t0 i0.2⟩;have M0:w.heap.size<W1.heap.size:=Qj t0 d0.sz;obtain⟨⟨-,c0⟩,-,-,⟨-,c3⟩,⟨-,c4⟩,-⟩:=o0.out;clear y0 d0 z0 v0 u0
 by_cases D0:e.op<0
 ·have HE:Y (Vn (λ_=>False) w0 w Xb (A la ln lc) wv ls acc lvs aX (.returned (I (dW p vs acc e.a).1)) W1):=by
   rw[HR.out,G D0];exact n0.up g0 (λ_ h=>h.elim)
  clear n0 j0 m0 HR k0;go_wp2;go_ret;exact HE
 have h0:0<=e.op:=by omega
 have N0:=k0 acc e.a;have E0:=Z (HR.trans (U D0));have a0:Y (Yg w W1 Xb Xb wv wv1):=(Yg.aD g0).trans B0.out;generalize dW p vs acc e.a=r1 at*;have O0:=k0 r1.2 e.b;have F0:=Z (j0 W1 _ _ _ e.b A0 (HI.2 h0) (by omega));generalize dW p vs r1.2 e.b=r2 at*;clear n0 j0 HR k0 B0
 go_wp2_with fail
 refine F0.mono ?_;rintro e2 W2 ⟨rfl,wv2,lvs2,p0,l0,G0⟩;obtain⟨-,wa,wn,wc,rfl⟩:=p0.sl;have f0:=Z p0;have r0:Y (Yg w W2 Xb Xb wv (A wa wn wc)):=a0.trans l0;have P0:Y (Ut (λ_=>False) w acc lvs r2.2 lvs2):=C0.trans a0.sz G0
 have H0:=Z (At.lG l0 (λq hq=>by
  simp only[mem_cons,not_mem_nil,or_false]at hq
  rcases hq with rfl|rfl|rfl|rfl|rfl<;>exact e0.out) o0.out)
 have Q0:w.heap.size<W2.heap.size:=Qj M0 l0.sz;clear p0 l0 G0 F0 C0 a0 A0 o0 c0 c3 c4 i0 e0 HI
 have HS:Y (∀V,D W2 V->M V Xb 0 (A la ln lc)/\M V Xb 1 (A wa wn wc)/\M V w.heap.size 0 (I e.op)/\M V w.heap.size 1 (.bool e.a.var)/\M V w.heap.size 2 (I e.a.v)/\M V w.heap.size 3 (.bool e.b.var)/\M V w.heap.size 4 (I e.b.v)):=λV hV=>by
  obtain⟨⟨-,q0⟩,⟨-,q1⟩,⟨-,q2⟩,⟨-,q3⟩,⟨-,q4⟩,-⟩:=H0.below hV;exact⟨(f0.below hV).c0,(f0.below hV).c1,q0,q1,q2,q3,q4⟩
 have I0:=Z λV (hV:D W2 V)=>m0 V wa wn wc (f0.below hV).ints (f0.below hV).be
 have J0:Y (∀V,D W2 V->E 44 #[F Xb,.agg #[I 2,I (aA p vs e),I e.op,I r1.1,I r2.1,K]] V (Vn (λ_=>False) w0 w Xb (A la ln lc) wv ls acc lvs aX)):=λV hV=>by
  rw[E0.out];refine(zq0 (nd:=⟨2,aA p vs e,e.op,r1.1,r2.1,[]⟩) (lvn:=K) (f0.below hV) (Zw.nil _ _) ⟨λ_=>rfl,by simp⟩ (λhn=>absurd rfl hn) (by omega)).mono λe' w' he=>?_;exact Vn.nT (r1:=r2) r0 P0 (he.up hV (λq hq=>by rw[hq]))
 generalize aA p vs e=ev at*;clear m0 E0 H0
 go_wp2_with fail
 refine Zk HS dA [5] [] [] (by kernel_rfl) (λ_ _ _ _ h=>h) (λops _=>?_)
 iterate 5 refine Zv rfl (by intros;go_simp<;>rfl) (by go_simp<;>rfl) ?_
 refine Zm ?_
 go_wp2_with fail
 refine(I0 _ dA).mono ?_;rintro e3 W3 ⟨rfl,K0⟩;have s0:Y (D W2 W3):=dA.trans K0;clear K0 I0
 go_wp2_with fail
 refine⟨HS _ s0,?_⟩;refine Zv rfl (by intros;go_simp<;>rfl) (by go_simp<;>rfl) ?_;refine Zs ?_;obtain⟨-,-,c0,-⟩:=HS _ s0.out
 go_wp2_with fail
 refine(J0 _ s0).mono ?_;rintro e4 W4 he;obtain⟨x,rfl⟩:∃x,e4=.returned x:=⟨_,he.1⟩;have HE:=Z he;clear he J0;go_wp2;go_ret;exact HE
end
structure Pv(Xb:Nat)(V:World)(wv:Value)(c:Nat)(o:Obj):Prop where
 x:Xb<c
 n:some c≠wv.ownBlock
 h:V.heap[c]?=some o
section
variable{V' W1:World}{nb c:Nat}{l5:Value}{ns:Is}{u:Int}{ac ac1:List ar}{lvs':Vs}
def Pv.lt(h:Pv Xb V wv c o):c<V.heap.size:=by
 rcases Nat.lt_or_ge c V.heap.size with h'|h'
 ·exact h'
 have h5:=h.h;rw[Array.getElem?_eq_none h']at h5;cases h5
def Pv.below(h:Pv Xb V wv c o)(hb:D V V'):Pv Xb V' wv c o:=⟨h.x,h.n,(hb.block c h.lt).trans h.h⟩
def Pv.step(h:Pv Xb V wv c o)(hs:Yg V V' Xb Xb wv wv'):Pv Xb V' wv' c o:=⟨h.x,hs.off h.lt h.n,(hs.bl c h.lt (by have:=h.x;omega) (by have:=h.x;omega) h.n).trans h.h⟩
def Pv.aU(h:Pv Xb V wv c o)(hb:c≠b)(j:Nat)(v:Value):Pv Xb (V.setCell (O b j) v) wv c o:=⟨h.x,h.n,(Zx _ _ _ _ _ hb).trans h.h⟩
def Pv.set{cs':Array Value}(h:Pv Xb V wv c (.cells cs t (0,0)))(j:Nat)(v:Value)(he:cs.setIfInBounds j v=cs'):Pv Xb (V.setCell (O c j) v) wv c (.cells cs' t (0,0)):=⟨h.x,h.n,by rw[<-he];exact zzv h.h j v⟩
def Pv.cell{cs:Array Value}{t:TypeId}{fr:Nat×Nat}(h:Pv Xb V wv c (.cells cs t fr)){j:Nat}{v:Value}(hj:cs[j]?=some v):V.cell? (O c j)=some v:=by
 simp only[cell?,h.h];exact hj
def Pv.free(h:Pv Xb V wv c (.cells cs t (0,0)))(j:Nat):V.frozen? (O c j)=false:=by simp[frozen?,h.h]
def Yc.lp(h:Yc w0 w Xb lv wv ls acc lvs)(hp:Pv Xb w wv c (.cells cs 73 (0,0)))(j:Nat)(v:Value):Yc w0 (w.setCell (O c j) v) Xb lv wv ls acc lvs:=by
 have x0:=h.x0;have hx:=hp.x;have gs:w.grownBy (w.setCell (O c j) v) (some c):=⟨rfl,rfl,rfl,by rw[Zy];exact Nat.le_refl _,λk hk hn=>Zx _ _ _ _ _ (λe=>hn (by rw[e]))⟩
 have b0:some Xb≠some c:=by simp;omega
 have d0:∀p,p∈(lv,ls)::Yu acc lvs->p.2≠[]->∀b,p.1.ownBlock=some b->b≠c:=λp hp' a0 b hb e=>by
  obtain⟨cs',h5⟩:=((h.li p hp').2 a0 b hb).2;rw[e,hp.h]at h5;injection h5 with h5;injection h5 with _ h6;exact absurd h6 (by decide)
 exact⟨h.x0,by rw[Zy];exact h.hz,gs.cell h.c0 b0,gs.cell h.c1 b0,λi=>by rw[frozen?_setCell];exact h.fz i,h.hl,h.ow.kept gs (.inr (λhh=>hp.n hh.symm)),λp hp'=>⟨(h.li p hp').1.set (λa0 hh=>d0 p hp' a0 c hh rfl),λa0 b hb=>⟨((h.li p hp').2 a0 b hb).1,((h.li p hp').2 a0 b hb).2.of (Zx _ _ _ _ _ (d0 p hp' a0 b hb))⟩⟩,h.be.setCell (by show w0.heap.size<=c;omega) _,h.le⟩
def Yc.aU(h:Yc w0 w Xb lv wv ls acc lvs){row:Option Nat}(hg:w.grownBy V row)(hr:∀c,row=some c->Xb<c/\wv.ownBlock≠some c/\∀p,p∈(lv,ls)::Yu acc lvs->p.2≠[]->p.1.ownBlock≠some c):Yc w0 V Xb lv wv ls acc lvs:=by
 have x0:=h.x0
 have ne:some Xb≠row:=λhh=>by have:=(hr Xb hh.symm).1;omega
 have a0:wv.ownBlock=none\/wv.ownBlock≠row:=by
  cases hw:wv.ownBlock with
  |none=>exact .inl rfl
  |some g=>exact .inr (λhh=>(hr g hh.symm).2.1 hw)
 refine⟨h.x0,Qj h.hz hg.size,hg.cell h.c0 ne,hg.cell h.c1 ne,λj=>(Qd (w:=w) (hg.block Xb h.hz ne)).trans (h.fz j),h.hl,h.ow.kept hg a0,λp hp=>?_,h.be.grown hg (by have:=h.hz;omega) (λk hk=>by have:=(hr k hk).1;omega),h.le⟩;obtain⟨k1,k2⟩:=h.li p hp;have hn:p.2≠[]->∀b,p.1.ownBlock=some b->some b≠row:=λh1 b hb hh=>(hr b hh.symm).2.2 p hp h1 hb;exact⟨⟨zh3 k1.1 hg hn,k1.2⟩,λh1 b hb=>⟨(k2 h1 b hb).1,(k2 h1 b hb).2.of (hg.block b (k2 h1 b hb).2.lt (hn h1 b hb))⟩⟩
structure zy4(w0 w V:World)(Xb nb:Nat)(lv wv wv':Value)(ls:Is)(u:Int)(acc:List ar)(lvs:Vs)(ns:Is)(ac:List ar)(lvs':Vs)(l5:Value):Prop where
 wi:Yc w0 V Xb lv wv' ls ac lvs'
 st:Yg w V Xb Xb wv wv'
 lo:Ut (λ_=>False) w acc lvs ac lvs'
 ll:∀p,p∈Yu ac lvs'->p.2≠[]->∀b,p.1.ownBlock=some b->l5.ownBlock≠some b
 lk:ls≠[]->∀b,lv.ownBlock=some b->b<nb
 nw:w.heap.size<=nb
 ow:V.ownsRow (nb+1) 3 1 l5 ns.length (ns.map (int .i64))
 nd:Pv Xb V wv' nb (.cells #[I 7,I u,I 0,I 0,I 0,l5] 73 (0,0))
 le:ns=[]->l5=K
def zy4.below(h:zy4 w0 w V Xb nb lv wv wv' ls u acc lvs ns ac lvs' l5)(hb:D V V'):zy4 w0 w V' Xb nb lv wv wv' ls u acc lvs ns ac lvs' l5:=
 ⟨h.wi.below hb,h.st.trans (Yg.aD hb),h.lo,h.ll,h.lk,h.nw,zx4 h.ow hb,h.nd.below hb,h.le⟩
def zy4.call(h:zy4 w0 w V Xb nb lv wv wv' ls u acc lvs ns ac lvs' l5)(h1:Yc w0 V' Xb lv wv1 ls ac1 lvs1)(hs:Yg V V' Xb Xb wv' wv1)(hl:Ut (λ_=>False) V ac lvs' ac1 lvs1):zy4 w0 w V' Xb nb lv wv wv1 ls u acc lvs ns ac1 lvs1 l5:=by
 have hx:=h.nd.x;refine⟨h1,h.st.trans hs,h.lo.trans h.st.sz hl,λp hp hn b hb hh=>?_,h.lk,h.nw,yv6 h.ow (λg hg=>hs.bl g (h.ow.lt g hg).2 (by have:=(h.ow.lt g hg).1;omega) (by have:=(h.ow.lt g hg).1;omega) (λhh=>zv4 h.wi.ow g hh.symm (Jg h.ow g hg).2)),h.nd.step hs,h.le⟩;rcases hl p hp with h5|h5|h5|h5
 ·exact h.ll p h5 hn b hb hh
 ·exact h5
 ·exact hn h5
 have:=h5 b hb;have:=(h.ow.lt b hh).2;omega
def zy4.set{cs:Array Value}(h:zy4 w0 w V Xb nb lv wv wv' ls u acc lvs ns ac lvs' l5)(hp:Pv Xb V wv' c (.cells cs 73 (0,0)))(hc:nb<c)(j:Nat)(v:Value):zy4 w0 w (V.setCell (O c j) v) Xb nb lv wv wv' ls u acc lvs ns ac lvs' l5:=
 ⟨h.wi.lp hp j v,h.st.set (by have:=h.nw;omega) j v,h.lo,h.ll,h.lk,h.nw,yv6 h.ow (λg hg=>Zx _ _ _ _ _ (λe=>by
  obtain⟨cs',h5⟩:=(Jg h.ow g hg).2;rw[e,hp.h]at h5;injection h5 with h5;injection h5 with _ h6
  exact absurd h6 (by decide))),h.nd.aU (by omega) j v,h.le⟩
def zy4.next(h:zy4 w0 w V Xb nb lv wv wv' ls u acc lvs ns ac lvs' l5)(hb:D V W2)(ho:W3.ownsRow (nb+1) 3 1 v' (ns.length+1) (ns.map (int .i64)++[I m]))(hg:W2.grownBy W3 l5.ownBlock)(hw:v'.ownBlock=l5.ownBlock\/v'.ownBlock=some W2.heap.size):
  zy4 w0 w (W3.setCell (O nb 5) v') Xb nb lv wv wv' ls u acc lvs (ns++[m]) ac lvs' v':=by
 have hx:=h.nd.x;have h2:=h.below hb;have cD:=hb.size
 have a0:∀g,l5.ownBlock=some g->nb<g/\g<V.heap.size:=λg hh=>by have:=h.ow.lt g hh;omega
 have b0:Pv Xb W3 wv' nb (.cells #[I 7,I u,I 0,I 0,I 0,l5] 73 (0,0)):=⟨hx,h.nd.n,(hg.block nb h2.nd.lt (λhh=>by have:=a0 nb hh.symm;omega)).trans h2.nd.h⟩
 have c0:Yc w0 W3 Xb lv wv' ls ac lvs':=h2.wi.aU hg (λc hc=>⟨by have:=a0 c hc;omega,λhh=>zv4 h.wi.ow c hh (Jg h.ow c hc).2,λp hp hn hh=>by
  rcases mem_cons.1 hp with rfl|hp
  ·have:=h.lk hn c hh;have:=a0 c hc;omega
  exact h.ll p hp hn c hh hc⟩)
 refine⟨c0.lp b0 5 v',(h2.st.grown hg (λc hc=>by have:=a0 c hc;have:=h.nw;omega)).set h.nw 5 v',h.lo,λp hp hn b hb2 hh=>?_,h.lk,h.nw,?_,b0.set 5 v' (by simp),λh=>absurd h (by simp)⟩
 ·rcases hw with e|e
  ·exact h.ll p hp hn b hb2 (e.symm.trans hh)
  rw[e]at hh;injection hh with hh;have:=((h.wi.li p (mem_cons_of_mem _ hp)).2 hn b hb2).2.lt;omega
 have h5:(W3.setCell (O nb 5) v').ownsRow (nb+1) 3 1 v' (ns.length+1) (ns.map (int .i64)++[I m]):=ownsRow_setCell_below ho (by simp) v';rw[length_append,map_append];exact h5
end
def ztv(w0 w:World)(Xb:Nat)(lv wv:Value)(ls:Is)(acc:List ar)(lvs:Vs)(Wj:Option (Fl.aa×Int))(r:Int×List ar)(e:Ending)(w':World):Prop:=
 ∃wv' ac lvs',Yc w0 w' Xb lv wv' ls ac lvs'/\Yg w w' Xb Xb wv wv'/\((∃m,Wj=some m/\e=.returned (.tuple #[I 0,I m.1.aq]))\/(Wj=none/\ac=r.2/\e=.returned (.tuple #[I r.1,I 0])/\Ut (λ_=>False) w acc lvs ac lvs'))
def Xr(p:aY)(vs:Is)(m:Fl.aa×Int):Bool:= !Fl.ef p vs m
def zd2(w0:World)(Pb Xb:Nat)(lv:Value)(ls:Is)(p:aY)(d:Nat):Prop:=
 ∀(V:World) (wv:Value) (acc:List ar) (lvs:Vs) (v:Value) (l:List Fl.aa) (u:Int),Yc w0 V Xb lv wv ls acc lvs->Zh d (λb=>b<w0.heap.size) w0 v l->aM (vars p ls).length p.ai.length d l->cK d l->(0<=u/\u<p.n)->acc.length+6*Fl.bE d l+1<=200->
  E 20 #[F Pb,F Xb,v,I u] V (ztv w0 V Xb lv wv ls acc lvs ((bO p (vars p ls) d l u).find? (Xr p (vars p ls))) (bL p (vars p ls) d acc l u))
namespace Fl
def ku(d:Nat)(a b:List aa):bE (d+1) (a++b)=bE (d+1) a+bE (d+1) b:=by
 show ((a++b).map λs=>1+bE d s.aZ+bE d s.aU).sum=_;rw[map_append,sum_append];rfl
def lF(d:Nat){l:List aa}(hk:k<l.length):bE (d+1) (l.take k)+(1+bE d (l.getD k noS).aZ+bE d (l.getD k noS).aU)<=bE (d+1) l:=by
 have h1:bE (d+1) l=bE (d+1) (l.take k)+bE (d+1) (l.drop k):=by rw[<-ku,take_append_drop]
 rw[h1,drop_eq_getElem_cons hk,eR,Qa,Qb hk];simp only[Option.getD_some];omega
end Fl
section
variable{α β:Type}
def ya8{f:α->List β}{P:β->Bool}{l:List α}(hk:k<l.length)(h:∀m∈(l.take k).flatMap f,P m=false):(l.flatMap f).find? P=(f l[k]++(l.drop (k+1)).flatMap f).find? P:=by
 have e:l.flatMap f=(l.take k).flatMap f++(f l[k]++(l.drop (k+1)).flatMap f):=by
  rw[<-flatMap_cons,<-drop_eq_getElem_cons hk,<-flatMap_append,take_append_drop]
 rw[e,find?_append];have h0:((l.take k).flatMap f).find? P=none:=find?_eq_none.2 (λm hm=>by rw[h m hm];simp);rw[h0];rfl
end
section
def yjz(hp:zyv w0 Pb Lq rb aB hv bv p)(ok:bC p (vars p ls))(h4:ls.length<=4)(d:Nat)(IH:zd2 w0 Pb Xb lv ls p d):zd2 w0 Pb Xb lv ls p (d+1):=by
 intro w wv acc lvs v l u hw hs ho M2 hu a1;obtain⟨sa,sc,rfl,s1,s2,s3,s4⟩:=hs;obtain⟨⟨la,ln,lc,l3⟩,-⟩:=hw.sl;subst l3;have G1:=Z IH;have HP:=Z hp;have O0:Y (bC p (vars p ls)/\ls.length<=4):=⟨ok,h4⟩;have HU:=Z hu;obtain⟨vs,H1⟩:=J (vars p ls);obtain⟨n,hn⟩:=J (l.length)
 have o3:(n:Int)<=16:=by omega
 have N3:(n:Int)<=(sc:Int):=by omega
 obtain⟨f,hf⟩:=J (cX (bO p vs d) p vs u);obtain⟨St,o1⟩:=J (gg (bL p vs d) p vs u)
 have q3:Y (∀k,k<n->∃b bo oo,sa=some (O b 0)/\b<w0.heap.size/\(∀j,j<10->M w0 b (k*10+j) ((Xj (l.getD k noS) bo oo).getD j undef))/\Zh d (λb=>b<w0.heap.size) w0 bo (l.getD k noS).aZ/\Zh d (λb=>b<w0.heap.size) w0 oo (l.getD k noS).aU/\eh vs.length p.ai.length (l.getD k noS)/\cg vs.length (l.getD k noS).e/\aM vs.length p.ai.length d (l.getD k noS).aZ/\aM vs.length p.ai.length d (l.getD k noS).aU/\(l.getD k noS).Fit/\cK d (l.getD k noS).aZ/\cK d (l.getD k noS).aU/\(dS St acc (l.take k)).2.length+6*(1+Fl.bE d (l.getD k noS).aZ+Fl.bE d (l.getD k noS).aU)+1<=200):=λk hk=>by
  have hk':k<l.length:=(by omega);obtain⟨b,e,hb,hc⟩:=s4 (by intro e;rw[e]at hk';cases hk');obtain⟨bo,oo,g1,g2,g3⟩:=hc k hk';have hm:l.getD k noS∈l:=(by rw[Qa,Qb hk'];exact getElem_mem hk');obtain⟨e1,e2,e3,e4⟩:=ho _ hm;obtain⟨f1,f2,f3⟩:=M2 _ hm;have c1:=Fl.lF d hk';have c2:(dS St acc (l.take k)).2.length<=acc.length+6*Fl.bE (d+1) (l.take k):=(by rw[o1];exact gV (λws s=>iO p vs d u ws s) (l.take k) acc);rw[H1];exact⟨b,bo,oo,e,hb,g1,g2,g3,e1,e2,e3,e4,f1,f2,f3,by omega⟩
 have r3:Y (∀k,k<n->(∀m∈(l.take k).flatMap f,Xr p vs m=false)->(l.flatMap f).find? (Xr p vs)=(f (l.getD k noS)++(l.drop (k+1)).flatMap f).find? (Xr p vs)):=λk hk h=>by
  rw[ya8 (by omega) h,Qa,Qb (by omega)];rfl
 have t3:Y (∀k,k<n->l.take (k+1)=l.take k++[l.getD k noS]):=λk hk=>by
  rw[take_succ_eq_append_getElem (by omega),Qa,Qb (by omega)];rfl
 have P0:Y (bL p vs (d+1) acc l u=ep (dS St acc (l.take n)).2 ⟨7,u,0,0,0,(dS St acc (l.take n)).1⟩/\(bO p vs (d+1) l u).find? (Xr p vs)=(l.flatMap f).find? (Xr p vs)):=by
  rw[hn,take_length,o1,hf];exact⟨rfl,rfl⟩
 have u3:Y (l.take n=l):=by show _=_;rw[hn,take_length]
 have V1:Y (∀k,(dS St acc (l.take k)).1.length<=16/\(dS St acc (l.take k)).2.length<=200):=λk=>by
  have c2:(dS St acc (l.take k)).2.length<=acc.length+6*Fl.bE (d+1) (l.take k):=(by rw[o1];exact gV (λws s=>iO p vs d u ws s) (l.take k) acc);have c3:Fl.bE (d+1) (l.take k)<=Fl.bE (d+1) l:=by
   have:Fl.bE (d+1) l=Fl.bE (d+1) (l.take k)+Fl.bE (d+1) (l.drop k):=by rw[<-Fl.ku,take_append_drop]
   omega
  refine⟨by rw[jq,length_take];omega,by omega⟩
 rw[<-H1,<-hn];generalize hres:bL p vs (d+1) acc l u=aX at*;generalize hfin:(bO p vs (d+1) l u).find? (Xr p vs)=fin at*;obtain⟨nb,hnb⟩:=J (w.heap.size);obtain⟨W0,I1⟩:=J (w.alloc (.cells #[I 7,I u,I 0,I 0,I 0,K] 73));have X1:Y (zy4 w0 w W0 Xb nb (A la ln lc) wv wv ls u acc lvs [] acc lvs K):=by
  have hb:D w W0:=(by rw[I1];exact bA);refine⟨hw.below hb,Yg.aD hb,Ut.refl _ _ _ _,λp hp hn b b1 hh=>(by cases hh),λhn b b1=>?_,by omega,ownsRow_nil _ _ _ _,⟨by rw[hnb];exact hw.hz,by rw[hnb];exact(hw.own lE).2,by rw[I1,hnb];exact heap_alloc_last _ _⟩,λ_=>rfl⟩;rw[hnb];exact((hw.li (A la ln lc,ls) (by simp)).2 hn b b1).2.lt
 have O3:=Z hnb;have o0:=Z H1;have HF:Y (f=cX (bO p vs d) p vs u/\St=gg (bL p vs d) p vs u):=⟨hf,o1⟩;clear hw ho M2 hu s1 s2 s3 s4 IH hp ok h4 hn hf o1 hres hfin a1 H1
 go_enter func20,ntmps20
 go_wp2_with fail
 rw[<-I1,<-hnb];clear I1 hnb
 go_loopw [11] (λi wr=>∃(k:Nat) (l5 wv':Value) (lvs':Vs),k<=n/\i=I k/\zy4 w0 w wr Xb nb (A la ln lc) wv wv' ls u acc lvs (dS St acc (l.take k)).1 (dS St acc (l.take k)).2 lvs' l5/\∀m∈(l.take k).flatMap f,Xr p vs m=false) (λi _=>n - (intOf i).toNat)
 case atStart=>exact⟨0,_,_,_,by omega,rfl,X1,λm hm=>by cases hm⟩
 case round=>
  obtain⟨k,l5,wv',lvs',hk,rfl,a0,t1⟩:=hrel;have Q0:=V1 k;have J1:=Z t1;clear t1
  by_cases Y1:k<n
  ·have v3:(k:Int)<(n:Int):=by omega
   obtain⟨b,bo,oo,rfl,hbz,p0,K1,L1,k1,k2,k3,k4,f1,f2,f3,a1⟩:=q3 k Y1;have R0:=Z (r3 k Y1 J1);have C0:=Z (t3 k Y1);obtain⟨s,hs⟩:=J (l.getD k noS);rw[<-hs]at p0 K1 L1 k1 k2 k3 k4 f1 f2 f3 a1 R0 C0;have N2:Y (dS St acc (l.take (k+1))=((dS St acc (l.take k)).1++[(St (dS St acc (l.take k)).2 s).1],(St (dS St acc (l.take k)).2 s).2)):=by
    show _=_;rw[C0.out,iU]
   have O2:Y ((∀m∈f s,Xr p vs m=false)->∀m∈(l.take (k+1)).flatMap f,Xr p vs m=false):=λh m hm=>by
    rw[C0.out,flatMap_append,mem_append]at hm;rcases hm with hm|hm
    ·exact J1 m hm
    exact h m (by simpa using hm)
   have d1:Y (∀m,(f s).find? (Xr p vs)=some m->fin=some m):=λm hm=>by
    rw[P0.2,R0.out,find?_append,hm];rfl
   generalize dS St acc (l.take k)=Qu at*;obtain⟨ns,ac⟩:=Qu;simp only at a0 Q0 N2 a1;obtain⟨ba,bn,bc,rfl⟩:=K1.slice;obtain⟨oa,on,oc,rfl⟩:=L1.slice;obtain⟨-,wa,wn,wc,rfl⟩:=a0.wi.sl;have x3:=a0.wi.be.size;have qq:∀j,wr.cell? (O b j)=w0.cell? (O b j):=λj=>a0.wi.be.cell (p:=(O b j)) hbz;have c0:M wr b (k*10) (I s.kind):=(qq _).trans (p0 0 (by omega));have c1:M wr b (k*10+1) (I s.x):=(qq _).trans (p0 1 (by omega));have c2:M wr b (k*10+2) (I s.aq):=(qq _).trans (p0 2 (by omega));have c3:M wr b (k*10+3) (I s.e.op):=(qq _).trans (p0 3 (by omega));have c4:M wr b (k*10+4) (.bool s.e.a.var):=(qq _).trans (p0 4 (by omega));have c5:M wr b (k*10+5) (I s.e.a.v):=(qq _).trans (p0 5 (by omega));have c6:M wr b (k*10+6) (.bool s.e.b.var):=(qq _).trans (p0 6 (by omega));have c7:M wr b (k*10+7) (I s.e.b.v):=(qq _).trans (p0 7 (by omega));have c8:M wr b (k*10+8) (A ba bn bc):=(qq _).trans (p0 8 (by omega));have c9:M wr b (k*10+9) (A oa on oc):=(qq _).trans (p0 9 (by omega));have P3:b<wr.heap.size:=Qj hbz x3;have k2':cg (vars p ls).length s.e:=(by rw[<-o0.out];exact k2);have M1:=eW HP.lv O0.1 k2';have Z1:=HP.lv.jn HU M1;rw[<-o0.out]at M1 Z1
   have P2:Y (∀V na nn nc,Yc w0 V Xb (A la ln lc) (A na nn nc) ls ac lvs'->E 40 #[F Pb,.agg #[A la ln lc,A na nn nc],.agg #[I s.e.op,.bool s.e.a.var,I s.e.a.v,.bool s.e.b.var,I s.e.b.v]] V λr w'=>r=.returned (I (aA p vs s.e))/\D V w'):=λV na nn nc hV=>by rw[o0.out];exact zt4 (HP.below hV.be) hV.ints na nn nc O0.2 O0.1 k2'
   have Q2:Y (∀V wv2,Yc w0 V Xb (A la ln lc) wv2 ls ac lvs'->E 42 #[F Pb,F Xb,.agg #[I s.e.op,.bool s.e.a.var,I s.e.a.v,.bool s.e.b.var,I s.e.b.v]] V (Vn (λ_=>False) w0 V Xb (A la ln lc) wv2 ls ac lvs' (fe p vs ac s.e))):=λV wv2 hV=>by rw[o0.out];exact yx8 HP hV O0.2 O0.1 k2' (by omega)
   have R2:Y (∀V,D w0 V->E 41 #[F Pb,I u,I (aA p vs s.e)] V (Rq (I (jn p u (aA p vs s.e))) V)):=λV hV=>zb7 (HP.below hV) HU M1;have g0:Y (eh vs.length p.ai.length s/\aM vs.length p.ai.length d s.aZ/\aM vs.length p.ai.length d s.aU/\s.Fit/\cK d s.aZ/\cK d s.aU/\Zh d (λb=>b<w0.heap.size) w0 (A ba bn bc) s.aZ/\Zh d (λb=>b<w0.heap.size) w0 (A oa on oc) s.aU):=⟨k1,k3,k4,f1,f2,f3,K1,L1⟩;have j1:Y (aA p vs s.e=aA p vs s.e/\(0<=jn p u (aA p vs s.e)/\jn p u (aA p vs s.e)<p.n)):=⟨rfl,Z1⟩;have u1:=Z (jc p vs ac s.e);have B0:=Z a0;have v1:=Z a1;obtain⟨sb,N1⟩:=J (wr.heap.size);obtain⟨W1,O1⟩:=J (wr.alloc (.cells #[I s.kind,I s.x,I s.aq,I s.e.op,.bool s.e.a.var,I s.e.a.v,.bool s.e.b.var,I s.e.b.v,A ba bn bc,A oa on oc] 91));have P1:Y (D wr W1):=(by show Below _ _ _;rw[O1];exact bA);have a2:Y (Pv Xb W1 (A wa wn wc) sb (.cells #[I s.kind,I s.x,I s.aq,I s.e.op,.bool s.e.a.var,I s.e.a.v,.bool s.e.b.var,I s.e.b.v,A ba bn bc,A oa on oc] 91 (0,0))):=⟨by have:=a0.wi.hz;omega,by rw[N1];exact(a0.wi.own lE).2,by rw[O1,N1];exact heap_alloc_last _ _⟩;have Q3:Y (nb<sb):=(by have:=a0.nd.lt;show nb<sb;omega)
   have HS:Y (∀V,D W1 V->M V Xb 0 (A la ln lc)/\M V Xb 1 (A wa wn wc)/\M V sb 3 (I s.e.op)/\M V sb 4 (.bool s.e.a.var)/\M V sb 5 (I s.e.a.v)/\M V sb 6 (.bool s.e.b.var)/\M V sb 7 (I s.e.b.v)):=λV hV=>by
    have h1:=(B0.below P1).below hV;have h2:=a2.below hV;exact⟨h1.wi.c0,h1.wi.c1,h2.cell rfl,h2.cell rfl,h2.cell rfl,h2.cell rfl,h2.cell rfl⟩
   have J0:Y (f s=if s.kind=3\/s.kind=4 then [(s,jn p u (aA p vs s.e))] else if s.kind=5\/s.kind=6 then bO p vs d s.aZ (jn p u (aA p vs s.e))++bO p vs d s.aU (jn p u (aA p vs s.e)) else []):=by
    show _=_;rw[HF.1];rfl
   have K0:Y (St ac s=if s.kind=5 then ep (bL p vs d (bL p vs d (fe p vs ac s.e).2 s.aZ (jn p u (aA p vs s.e))).2 s.aU (jn p u (aA p vs s.e))).2 ⟨5,u,(fe p vs ac s.e).1,(bL p vs d (fe p vs ac s.e).2 s.aZ (jn p u (aA p vs s.e))).1,(bL p vs d (bL p vs d (fe p vs ac s.e).2 s.aZ (jn p u (aA p vs s.e))).2 s.aU (jn p u (aA p vs s.e))).1,[]⟩
     else if s.kind=6 then ep (bL p vs d (fe p vs ac s.e).2 s.aZ (jn p u (aA p vs s.e))).2 ⟨6,u,(fe p vs ac s.e).1,(bL p vs d (fe p vs ac s.e).2 s.aZ (jn p u (aA p vs s.e))).1,0,[]⟩
     else ep (fe p vs ac s.e).2 ⟨s.kind,u,s.x,(fe p vs ac s.e).1,0,[]⟩):=by
    show _=_;rw[HF.2];rfl
   generalize aA p vs s.e=ev at*;clear p0 K1 L1 k1 k2 k3 k4 f1 f2 f3 hs k2' M1 Z1 qq a0 a1 J1 R0 C0
   go_wp2_with fail
   rw[<-O1,<-N1];clear O1 N1 c0 c1 c2 c3 c4 c5 c6 c7 c8 c9;refine Zk HS dA [6] [] [] (by kernel_rfl) (λ_ _ _ _ h=>h) (λops _=>?_)
   iterate 6 refine Zv rfl (by intros;go_simp<;>rfl) (by go_simp<;>rfl) ?_
   refine Zm ?_
   go_wp2_with fail
   refine(P2 _ _ _ _ ((B0.below P1).below dA).wi).mono ?_;rintro e1 W2 ⟨rfl,b1⟩;have A1:Y (D W1 W2):=dA.trans b1;clear b1 P2
   go_wp2_with fail
   refine⟨HS _ A1,?_⟩;refine Zv rfl (by intros;go_simp<;>rfl) (by go_simp<;>rfl) ?_;refine Zs ?_;have D0:=Z ((B0.below P1).below A1);have B1:=Z (a2.below A1);obtain⟨-,-,y3,y4,y5,y6,y7⟩:=HS _ A1.out;clear HS a2 B0 P1 A1
   go_wp2_with fail
   refine(R2 _ D0.wi.be).mono ?_;rintro e2 W ⟨rfl,rfl⟩;clear R2;generalize jn p u ev=vv at*
   go_wp2_with fail
   refine(Q2 _ _ D0.wi).mono ?_;rintro e3 W3 ⟨rfl,wv3,lvs3,S2,b2,T2⟩;have t0:=Z (D0.call S2 b2 T2);have E0:=Z (B1.step b2);generalize fe p vs ac s.e=rv at*;clear S2 b2 T2 Q2 D0 B1 y3 y4 y5 y6 y7;have y0:M W3 sb 0 (I s.kind):=E0.cell rfl;obtain⟨mb,Q1⟩:=J (W3.heap.size);obtain⟨W4,R1⟩:=J (W3.alloc (.cells #[I s.kind,I u,I 0,I 0,I 0,K] 73));have d2:Y (D W3 W4):=(by show Below _ _ _;rw[R1];exact bA);have C1:Y (Pv Xb W4 wv3 mb (.cells #[I s.kind,I u,I 0,I 0,I 0,K] 73 (0,0))):=⟨by have:=t0.wi.hz;omega,by rw[Q1];exact(t0.wi.own lE).2,by rw[R1,Q1];exact heap_alloc_last _ _⟩;have S0:Y (nb<mb/\sb<mb):=(by have:=t0.nd.lt;have:=E0.lt;show _/\_;omega);have d0:=Z (t0.below d2);have f0:=Z (E0.below d2);obtain⟨-,wa3,wn3,wc3,rfl⟩:=d0.wi.sl;obtain⟨vn,l1⟩:∃vn:Nat,vv=(vn:Int):=⟨vv.toNat,by have:=j1.2;omega⟩;subst l1
   go_upto_region 10 with fail
   rw[<-R1,<-Q1];clear R1 Q1 t0 E0 d2 y0;have y0:M W4 sb 0 (I s.kind):=f0.cell rfl
   iterate 10 (first|go_values|go_skip|go_guarded|go_step|go_upon|go_back)
   go_cut [17,18,19,20,21] (λ_ _ _ _ _ wc=>∃(wv4:Value) (ac4:List ar) (lvs4:Vs) (a b c:Int),zy4 w0 w wc Xb nb (A la ln lc) wv wv4 ls u acc lvs ns ac4 lvs4 l5/\Pv Xb wc wv4 mb (.cells #[I s.kind,I u,I a,I b,I c,K] 73 (0,0))/\St ac s=ep ac4 ⟨s.kind,u,a,b,c,[]⟩/\(∀m∈f s,Xr p vs m=false)/\ac4.length<=200)
   case first=>
    have z3:s.kind=3\/s.kind=4\/s.kind=5\/s.kind=6:=by rcases g0.1 with h|h|h|h<;>omega
    have y1:M W4 sb 1 (I s.x):=f0.cell rfl;have l1:vn<p.n:=(by have:=j1.2;omega);have R3:(vn:Int)<(p.n:Int):=(by omega);have y2:M W4 sb 2 (I s.aq):=f0.cell rfl
    have q0:Y (∀(V:World) (wv4:Value) (ac4:List ar) (lvs4:Vs) (a b c:Int),zy4 w0 w V Xb nb (A la ln lc) wv wv4 ls u acc lvs ns ac4 lvs4 l5->Pv Xb V wv4 mb (.cells #[I s.kind,I u,I a,I b,I c,K] 73 (0,0))->∀a' b':Int,zy4 w0 w ((V.setCell (O mb 2) (I a')).setCell (O mb 3) (I b')) Xb nb (A la ln lc) wv wv4 ls u acc lvs ns ac4 lvs4 l5/\Pv Xb ((V.setCell (O mb 2) (I a')).setCell (O mb 3) (I b')) wv4 mb (.cells #[I s.kind,I u,I a',I b',I c,K] 73 (0,0))):=λV wv4 ac4 lvs4 a b c h1 h2 a' b'=>by
     have g1:=h2.set 2 (I a') rfl;exact⟨(h1.set h2 S0.1 2 _).set g1 S0.1 3 _,g1.set 3 (I b') rfl⟩
    rcases z3 with i2|j2|S1|l2
    ·have b3:((s.kind:Int)==3)=true:=by rw[i2];rfl
     have HS:Y (∀V,D W4 V->M V Xb 0 (A la ln lc)/\M V Xb 1 (A wa3 wn3 wc3)/\M V sb 1 (I s.x)):=λV hV=>⟨(d0.below hV).wi.c0,(d0.below hV).wi.c1,(f0.below hV).cell rfl⟩
     have u0:s.x<vs.length:=by rcases g0.1 with h|h|h|h<;>omega
     have o2:Y (∀V,D W4 V->E 43 #[F Pb,.agg #[A la ln lc,A wa3 wn3 wc3],I s.x] V (Rw (I (vs.getD s.x 0)) V)):=λV hV=>by rw[o0.out]at u0⊢;exact yox (HP.below (d0.below hV).wi.be) (d0.below hV).wi.ints wa3 wn3 wc3 u0 O0.2
     have D1:0<=vs.getD s.x 0/\vs.getD s.x 0<p.n:=(by rw[o0.out]at u0⊢;exact O0.1.2 s.x u0);obtain⟨tn,T0⟩:∃tn:Nat,vs.getD s.x 0=(tn:Int):=⟨(vs.getD s.x 0).toNat,by omega⟩;have E1:Y (Xr p vs (s,(vn:Int))= !p.leq vn tn):=by
      show _=_;unfold Xr ef aO;rw[U (by simp only;omega)];simp only;rw[T0,Qm,Qm]
     rw[T0]at o2 D1;have v0:Y (f s=[(s,(vn:Int))]):=J0.trans (G (.inl i2));have U0:=Z ((K0.trans (U (by omega))).trans (U (by omega)));have A3:(tn:Int)<(p.n:Int):=D1.2;have p2:tn<p.n:=(by omega);clear J0 K0 T0 u0 i2
     go_wp2_with fail
     refine Zk HS dA [6] [] [] (by kernel_rfl) (λ_ _ _ _ h=>h) (λops _=>?_)
     iterate 6 refine Zv rfl (by intros;go_simp<;>rfl) (by go_simp<;>rfl) ?_
     refine Zm ?_
     go_wp2_with fail
     refine(o2 _ dA).mono ?_;rintro e4 W5 ⟨rfl,U2⟩;have r0:Y (D W4 W5):=dA.trans U2;clear U2 o2
     go_wp2_with fail
     refine⟨HS _ r0,?_⟩;refine Zv rfl (by intros;go_simp<;>rfl) (by go_simp<;>rfl) ?_;refine Zs ?_;have V0:=Z (HP.below (d0.below r0).wi.be);have p1:=V0.p1;have q1:=V0.lq.c vn l1;have q2:=V0.lq.r vn tn l1 p2;have e0:=Z (d0.below r0);have b0:=Z (C1.below r0);have x1:M W5 sb 1 (I s.x):=(f0.below r0).cell rfl;have x2:M W5 sb 2 (I s.aq):=(f0.below r0).cell rfl;have m2:M W5 mb 2 (I 0):=b0.cell rfl;have m3:M W5 mb 3 (I 0):=b0.cell rfl;have n2:W5.frozen? (O mb 2)=false:=b0.free 2;have n3:W5.frozen? (O mb 3)=false:=b0.free 3;have t2:sb≠mb:=(by have:=S0.2;omega)
     cases hq:p.leq vn tn
     ·have HE:Y (∀V,D W5 V->ztv w0 w Xb (A la ln lc) wv ls acc lvs fin aX (.returned (.tuple #[I 0,I s.aq])) V):=λV hV=>⟨_,_,_,(e0.below hV).wi,(e0.below hV).st,.inl ⟨(s,(vn:Int)),d1 _ (by rw[v0.out,find?_cons_of_pos (by rw[E1.out,hq];rfl)]),rfl⟩⟩
      rw[hq]at q2;clear q0
      go_wp2_with fail
      refine Zf [] (by kernel_rfl) (by kernel_rfl) (by kernel_rfl) (λops _=>?_)
      iterate 4 still_step
      refine wpStill_nil ?_;go_wp2;refine bodyPost_ret (v:=.tuple #[I 0,I s.aq]) (by simp[results,results20,go_sem]) rfl ?_;exact HE _ dA
     have HR:=Z (q0 W5 _ _ _ _ _ _ e0 b0 s.x rv.1);rw[hq]at q2
     have u2:Y (∀m∈f s,Xr p vs m=false):=λm hm=>by
      rw[v0.out,mem_singleton]at hm;rw[hm,E1.out,hq];rfl
     have aL:rv.2.length<=200:=(by have:=u1.out;have:=v1.out;omega);clear q0
     go_wp2_with fail
     go_meet
     case rel=>exact⟨_,_,_,_,_,_,HR.1,HR.2,U0,u2,aL⟩
    ·have b3:((s.kind:Int)==3)=false:=beq_eq_false_iff_ne.2 (by omega)
     have b4:((s.kind:Int)==4)=true:=(by rw[j2];rfl)
     have u0:s.x<p.ai.length:=by rcases g0.1 with h|h|h|h<;>omega
     have D1:=lX HP.lv u0;obtain⟨tn,T0⟩:∃tn:Nat,(p.ai.map λ(y:Nat)=>(y:Int)).getD s.x 0=(tn:Int):=⟨((p.ai.map λ(y:Nat)=>(y:Int)).getD s.x 0).toNat,by omega⟩;have E1:Y (Xr p vs (s,(vn:Int))= !p.leq vn tn):=by
      show _=_;unfold Xr ef aO;rw[G (by simp only;omega)];simp only;rw[T0,Qm,Qm]
     have v2:=HP.below d0.wi.be;obtain⟨ha,hc,ehv,-,-,V2⟩:=v2.hi;obtain⟨hb,ho,rfl,-,X2⟩:=V2 (by intro hh;rw[map_eq_nil_iff]at hh;rw[hh]at u0;cases u0);have z1:=X2 s.x (by simpa using u0);rw[T0]at z1 D1;have z0:=v2.p3;rw[ehv,length_map]at z0;have B3:(s.x:Int)<(p.ai.length:Int):=(by omega);have v0:Y (f s=[(s,(vn:Int))]):=J0.trans (G (.inr j2));have U0:=Z ((K0.trans (U (by omega))).trans (U (by omega)));have A3:(tn:Int)<(p.n:Int):=D1.2;have p2:tn<p.n:=(by omega);generalize p.ai.length=cl at*;clear J0 K0 T0 u0 v2 V2 X2 ehv j2
     go_wp2_with fail
     refine Zf [] (by kernel_rfl) (by kernel_rfl) (by kernel_rfl) (λops _=>?_)
     iterate 9 still_step
     refine wpStill_nil ?_;obtain⟨W5,z2⟩:=J (W4.drew);rw[<-z2];have r0:Y (D W4 W5):=(by rw[z2];exact dA);clear z2 z0 z1 B3;have V0:=Z (HP.below (d0.below r0).wi.be);have p1:=V0.p1;have q1:=V0.lq.c vn l1;have q2:=V0.lq.r vn tn l1 p2;have e0:=Z (d0.below r0);have b0:=Z (C1.below r0);have x1:M W5 sb 1 (I s.x):=(f0.below r0).cell rfl;have x2:M W5 sb 2 (I s.aq):=(f0.below r0).cell rfl;have m2:M W5 mb 2 (I 0):=b0.cell rfl;have m3:M W5 mb 3 (I 0):=b0.cell rfl;have n2:W5.frozen? (O mb 2)=false:=b0.free 2;have n3:W5.frozen? (O mb 3)=false:=b0.free 3;have t2:sb≠mb:=(by have:=S0.2;omega)
     cases hq:p.leq vn tn
     ·have HE:Y (∀V,D W5 V->ztv w0 w Xb (A la ln lc) wv ls acc lvs fin aX (.returned (.tuple #[I 0,I s.aq])) V):=λV hV=>⟨_,_,_,(e0.below hV).wi,(e0.below hV).st,.inl ⟨(s,(vn:Int)),d1 _ (by rw[v0.out,find?_cons_of_pos (by rw[E1.out,hq];rfl)]),rfl⟩⟩
      rw[hq]at q2;clear q0
      go_wp2_with fail
      refine Zf [] (by kernel_rfl) (by kernel_rfl) (by kernel_rfl) (λops _=>?_)
      iterate 4 still_step
      refine wpStill_nil ?_;go_wp2;refine bodyPost_ret (v:=.tuple #[I 0,I s.aq]) (by simp[results,results20,go_sem]) rfl ?_;exact HE _ dA
     have HR:=Z (q0 W5 _ _ _ _ _ _ e0 b0 s.x rv.1);rw[hq]at q2
     have u2:Y (∀m∈f s,Xr p vs m=false):=λm hm=>by
      rw[v0.out,mem_singleton]at hm;rw[hm,E1.out,hq];rfl
     have aL:rv.2.length<=200:=(by have:=u1.out;have:=v1.out;omega);clear q0
     go_wp2_with fail
     go_meet
     case rel=>exact⟨_,_,_,_,_,_,HR.1,HR.2,U0,u2,aL⟩
    ·have b3:((s.kind:Int)==3)=false:=beq_eq_false_iff_ne.2 (by omega)
     have b4:((s.kind:Int)==4)=false:=beq_eq_false_iff_ne.2 (by omega);have b5:((s.kind:Int)==5)=true:=(by rw[S1];rfl);have y8:M W4 sb 8 (A ba bn bc):=f0.cell rfl;have l0:Y (f s=bO p vs d s.aZ vn++bO p vs d s.aU vn):=(J0.trans (U (by omega))).trans (G (by omega));have X0:=Z (K0.trans (G S1));have C3:=v1.out;have D3:=u1.out;have F0:=Z (G1 W4 _ _ _ _ s.aZ vn d0.wi g0.2.2.2.2.2.2.1 (by rw[<-o0.out];exact g0.2.1) g0.2.2.2.2.1 j1.2 (by omega));have E3:=eQ p vs d rv.2 s.aZ vn;rw[<-o0.out]at F0;have A2:Y (∀m,(bO p vs d s.aZ vn).find? (Xr p vs)=some m->0<m.1.aq):=λm hm=>dB d _ _ g0.2.2.2.2.1 m (mem_of_find?_eq_some hm);generalize bL p vs d rv.2 s.aZ vn=r1 at*;have F3:=Z S1;clear J0 K0 S1
     go_wp2_with fail
     refine F0.mono ?_;rintro e4 W5 ⟨wv5,ac5,lvs5,s0,k0,i0⟩;rcases i0 with⟨m,hF,rfl⟩|⟨hF,rfl,rfl,L0⟩
     ·have Y2:(0:Int)<(m.1.aq:Int):=by have:=A2 m hF;omega
      have HE:Y (ztv w0 w Xb (A la ln lc) wv ls acc lvs fin aX (.returned (.tuple #[I 0,I m.1.aq])) W5):=⟨_,_,_,s0,d0.st.trans k0,.inl ⟨m,d1 m (by rw[l0.out,find?_append,hF];rfl),rfl⟩⟩;clear hF s0 k0 F0 q0;generalize m.1.aq=mline at*;go_wp2;refine bodyPost_ret (v:=.tuple #[I 0,I mline]) (by simp[results,results20,go_sem]) rfl ?_;exact HE
     have e0:=Z (d0.call s0 k0 L0);have b0:=Z (C1.step k0);have G0:=Z (f0.step k0);have x0:M W5 sb 0 (I s.kind):=G0.cell rfl;have m2:M W5 mb 2 (I 0):=b0.cell rfl;have m3:M W5 mb 3 (I 0):=b0.cell rfl;have n2:W5.frozen? (O mb 2)=false:=b0.free 2;have n3:W5.frozen? (O mb 3)=false:=b0.free 3;have t2:sb≠mb:=(by have:=S0.2;omega);have HR:=Z (q0 W5 _ _ _ _ _ _ e0 b0 rv.1 r1.1)
     have T1:Y (∀m∈bO p vs d s.aZ vn,Xr p vs m=false):=λm hm=>by
      have:=find?_eq_none.1 hF m hm;simpa using this
     clear hF s0 k0 L0 F0 q0;obtain⟨W6,H0⟩:=J ((W5.setCell (O mb 2) (I rv.1)).setCell (O mb 3) (I r1.1));have x9:M W5 sb 9 (A oa on oc):=G0.cell rfl;rw[<-H0]at HR;have U1:=Z (G1 W6 _ _ _ _ s.aU vn HR.1.wi g0.2.2.2.2.2.2.2 (by rw[<-o0.out];exact g0.2.2.1) g0.2.2.2.2.2.1 j1.2 (by omega));have b1:=eQ p vs d r1.2 s.aU vn;rw[<-o0.out]at U1;have B2:Y (∀m,(bO p vs d s.aU vn).find? (Xr p vs)=some m->0<m.1.aq):=λm hm=>dB d _ _ g0.2.2.2.2.2.1 m (mem_of_find?_eq_some hm);generalize bL p vs d r1.2 s.aU vn=r2 at*
     go_wp2_with fail
     rw[<-H0];clear H0 x0 x9 m2 m3 n2 n3;refine U1.mono ?_;rintro e5 W7 ⟨wv7,ac7,lvs7,Y0,F1,i0⟩;rcases i0 with⟨m,hF,rfl⟩|⟨hF,rfl,rfl,Z2⟩
     ·have Y2:(0:Int)<(m.1.aq:Int):=by have:=B2 m hF;omega
      have HE:Y (ztv w0 w Xb (A la ln lc) wv ls acc lvs fin aX (.returned (.tuple #[I 0,I m.1.aq])) W7):=⟨_,_,_,Y0,HR.1.st.trans F1,.inl ⟨m,d1 m (by rw[l0.out,find?_append,find?_eq_none.2 (λq hq=>by rw[T1 q hq];simp),hF];rfl),rfl⟩⟩;clear hF Y0 F1 U1;generalize m.1.aq=mline at*;go_wp2;refine bodyPost_ret (v:=.tuple #[I 0,I mline]) (by simp[results,results20,go_sem]) rfl ?_;exact HE
     have C2:=Z (HR.1.call Y0 F1 Z2);have I0:=Z (HR.2.step F1);have m4:M W7 mb 4 (I 0):=I0.cell rfl;have n4:W7.frozen? (O mb 4)=false:=I0.free 4;have a3:Y (zy4 w0 w (W7.setCell (O mb 4) (I r2.1)) Xb nb (A la ln lc) wv wv7 ls u acc lvs ns r2.2 lvs7 l5/\Pv Xb (W7.setCell (O mb 4) (I r2.1)) wv7 mb (.cells #[I s.kind,I u,I rv.1,I r1.1,I r2.1,K] 73 (0,0))):=⟨C2.set I0 S0.1 4 _,I0.set 4 (I r2.1) rfl⟩
     have D2:Y (∀m∈f s,Xr p vs m=false):=λm hm=>by
      rw[l0.out,mem_append]at hm;rcases hm with hm|hm
      ·exact T1 m hm
      have:=find?_eq_none.1 hF m hm;simpa using this
     have E2:r2.2.length<=200:=(by omega);clear hF Y0 F1 Z2 U1
     go_wp2_with fail
     go_meet
     case rel=>exact⟨_,_,_,_,_,_,a3.1,a3.2,X0.trans (by rw[F3.out];rfl),D2,E2⟩
    have b3:((s.kind:Int)==3)=false:=beq_eq_false_iff_ne.2 (by omega);have b4:((s.kind:Int)==4)=false:=beq_eq_false_iff_ne.2 (by omega);have b5:((s.kind:Int)==5)=false:=beq_eq_false_iff_ne.2 (by omega);have y8:M W4 sb 8 (A ba bn bc):=f0.cell rfl;have l0:Y (f s=bO p vs d s.aZ vn++bO p vs d s.aU vn):=(J0.trans (U (by omega))).trans (G (by omega));have X0:=Z ((K0.trans (U (by omega))).trans (G l2));have C3:=v1.out;have D3:=u1.out;have F0:=Z (G1 W4 _ _ _ _ s.aZ vn d0.wi g0.2.2.2.2.2.2.1 (by rw[<-o0.out];exact g0.2.1) g0.2.2.2.2.1 j1.2 (by omega));have E3:=eQ p vs d rv.2 s.aZ vn;rw[<-o0.out]at F0;have A2:Y (∀m,(bO p vs d s.aZ vn).find? (Xr p vs)=some m->0<m.1.aq):=λm hm=>dB d _ _ g0.2.2.2.2.1 m (mem_of_find?_eq_some hm);generalize bL p vs d rv.2 s.aZ vn=r1 at*;have G3:=Z l2
    have F2:Y (s.aU=[]):=by rcases g0.1 with e|e|e|e<;>first|omega|exact e.2
    clear J0 K0 l2
    go_wp2_with fail
    refine F0.mono ?_;rintro e4 W5 ⟨wv5,ac5,lvs5,s0,k0,i0⟩;rcases i0 with⟨m,hF,rfl⟩|⟨hF,rfl,rfl,L0⟩
    ·have Y2:(0:Int)<(m.1.aq:Int):=by have:=A2 m hF;omega
     have HE:Y (ztv w0 w Xb (A la ln lc) wv ls acc lvs fin aX (.returned (.tuple #[I 0,I m.1.aq])) W5):=⟨_,_,_,s0,d0.st.trans k0,.inl ⟨m,d1 m (by rw[l0.out,find?_append,hF];rfl),rfl⟩⟩;clear hF s0 k0 F0 q0;generalize m.1.aq=mline at*;go_wp2;refine bodyPost_ret (v:=.tuple #[I 0,I mline]) (by simp[results,results20,go_sem]) rfl ?_;exact HE
    have e0:=Z (d0.call s0 k0 L0);have b0:=Z (C1.step k0);have G0:=Z (f0.step k0);have x0:M W5 sb 0 (I s.kind):=G0.cell rfl;have m2:M W5 mb 2 (I 0):=b0.cell rfl;have m3:M W5 mb 3 (I 0):=b0.cell rfl;have n2:W5.frozen? (O mb 2)=false:=b0.free 2;have n3:W5.frozen? (O mb 3)=false:=b0.free 3;have t2:sb≠mb:=(by have:=S0.2;omega);have HR:=Z (q0 W5 _ _ _ _ _ _ e0 b0 rv.1 r1.1)
    have T1:Y (∀m∈bO p vs d s.aZ vn,Xr p vs m=false):=λm hm=>by
     have:=find?_eq_none.1 hF m hm;simpa using this
    clear hF s0 k0 L0 F0 q0
    have D2:Y (∀m∈f s,Xr p vs m=false):=λm hm=>by
     rw[l0.out,F2.out,mem_append]at hm;rcases hm with hm|hm
     ·exact T1 m hm
     cases d<;>cases hm
    have E2:r1.2.length<=200:=(by omega)
    go_wp2_with fail
    go_meet
    case rel=>exact⟨_,_,_,_,_,_,HR.1,HR.2,X0.trans (by rw[G3.out];rfl),D2,E2⟩
   case rest=>
    obtain⟨wv4,ac4,lvs4,a4,b4,c4,G2,M0,cZ,aT,aL⟩:=hcut;have e0:=Z G2;have b0:=Z M0;have m0:M wc mb 0 (I s.kind):=M0.cell rfl;have m1:M wc mb 1 (I u):=M0.cell rfl;have m2:M wc mb 2 (I a4):=M0.cell rfl;have m3:M wc mb 3 (I b4):=M0.cell rfl;have m4:M wc mb 4 (I c4):=M0.cell rfl;have m5:M wc mb 5 K:=M0.cell rfl;have N0:Y (E 44 #[F Xb,.agg #[I s.kind,I u,I a4,I b4,I c4,K]] wc (Vn (λ_=>False) w0 wc Xb (A la ln lc) wv4 ls ac4 lvs4 (St ac s))):=by
     rw[cZ];exact(zq0 (nd:=⟨s.kind,u,a4,b4,c4,[]⟩) (lvn:=K) G2.wi (Zw.nil _ _) ⟨λ_=>rfl,by simp⟩ (λhn=>absurd rfl hn) (by omega)).mono λe w' he=>he.up (Below.refl _ _) (λq hq=>by rw[hq])
    have H3:=Z (O2 aT);clear G2 M0 cZ aT aL O2 d1 G1 g0 f0 C1 d0 v1 u1 j1 y0
    go_wp2_with fail
    refine N0.mono ?_;rintro e4 W5 ⟨rfl,wv5,lvs5,s0,k0,L0⟩;have j0:=Z (e0.call s0 k0 L0);obtain⟨l5a,l5c,Z0⟩:∃la lc,l5=A la ns.length lc:=by
     rcases id j0.ow.2 with⟨rfl,h0⟩|⟨g,cp,cur,rfl,-⟩
     ·exact⟨none,0,by rw[h0]⟩
     exact⟨_,cp,rfl⟩
    subst Z0;have n5:M W5 nb 5 (A l5a ns.length l5c):=j0.nd.cell rfl;obtain⟨m,hm⟩:=J ((St ac s).1);rw[<-hm];obtain⟨W6,H0⟩:=J (W5.alloc (.cells #[I m] 3));have H2:Y (D W5 W6):=(by show Below _ _ _;rw[H0];exact bA);have tc:∀j u,([I m]:Vs)[j]?=some u->W6.cell? (((O W5.heap.size 0):Addr).add j)=some u:=(by rw[H0];exact zf4 (w:=W5) (l:=[I m]));have S3:W5.heap.size+1=W6.heap.size:=(by rw[H0];simp);have I2:Y (W6.ownsRow (nb+1) 3 1 (A l5a ns.length l5c) ns.length (ns.map (int .i64))):=zx4 j0.ow H2.out;have T3:nb+1<=W6.heap.size:=(by have:=j0.nd.lt;omega);obtain⟨i1,I3,J3,K3,L3⟩:=info_parts Tryz.infoIntW;have HM:=Z hm;clear s0 k0 L0 N0 e0 b0 m0 m1 m2 m3 m4 m5 hm
    go_wp2_with (at_builtin;rw[<-H0];refine Ap underlying27 I3 J3 K3 L3 rfl I2 rfl [I m] rfl rfl tc (by intro u hu;simp at hu;subst hu;rfl) (by unfold maxLen;omega) (by omega) (by omega) ?_)
    intro v' W7 A0 J2 Y0;obtain⟨g7,k7,rfl⟩:∃g7 k7,v'=Sq g7 0 (ns.length+1) k7:=by
     rcases A0.2 with⟨h1,h2⟩|⟨g7,cp,cur,h1,_⟩
     ·omega
     exact⟨g7,cp,h1⟩
    have K2:=Z (j0.next H2 A0 J2 Y0);have L2:W7.heap[nb]?=some (.cells #[I 7,I u,I 0,I 0,I 0,A l5a ns.length l5c] 73 (0,0)):=(J2.block nb (by omega) (λhh=>by have:=(I2.lt nb hh.symm).1;omega)).trans ((H2.block nb j0.nd.lt).trans j0.nd.h);have c7:W7.cell? (O nb 5)=some (A l5a ns.length l5c):=(by simp only[cell?,L2];rfl);have f7:W7.frozen? (O nb 5)=false:=(by simp[frozen?,L2]);clear A0 J2 Y0 L2 tc n5 H0 I2 j0;go_wp2
    go_roundw
    case rel=>exact⟨k+1,_,_,_,by omega,by go_num,by rw[N2.out,<-HM.out];exact K2.out,H3⟩
    case measure=>simp[intOf];omega
  have v3:¬(k:Int)<(n:Int):=(by omega)
  obtain rfl:k=n:=by omega
  have M3:Y (fin=none):=by
   show _=_;rw[P0.2];refine find?_eq_none.2 (λm hm=>?_);have h9:=J1 m (by rw[u3.out];exact hm);rw[h9];simp
  have d3:=Z P0.1;generalize dS St acc (l.take k)=Qu at*;obtain⟨ns,ac⟩:=Qu;simp only at a0 Q0 d3;obtain⟨l5a,l5c,Z0⟩:∃la lc,l5=A la ns.length lc:=by
   rcases id a0.ow.2 with⟨rfl,h0⟩|⟨g,cp,cur,rfl,-⟩
   ·exact⟨none,0,by rw[h0]⟩
   exact⟨_,cp,rfl⟩
  subst Z0;have B0:=Z a0;have n0:M wr nb 0 (I 7):=a0.nd.cell rfl;have n1:M wr nb 1 (I u):=a0.nd.cell rfl;have n2:M wr nb 2 (I 0):=a0.nd.cell rfl;have n3:M wr nb 3 (I 0):=a0.nd.cell rfl;have n4:M wr nb 4 (I 0):=a0.nd.cell rfl;have n5:M wr nb 5 (A l5a ns.length l5c):=a0.nd.cell rfl;have N0:=Z (zq0 (nd:=⟨7,u,0,0,0,ns⟩) (lvn:=A l5a ns.length l5c) a0.wi (yv5 a0.ow) ⟨a0.le,Q0.1⟩ (λhn b hb=>⟨by have:=(a0.ow.lt b hb).1;have:=a0.nd.x;omega,λhh=>zv4 a0.wi.ow b hh.symm (Jg a0.ow b hb).2,(Jg a0.ow b hb).2⟩) (by omega));unfold ndV at N0;rw[<-d3.out]at N0;simp only at N0;clear a0
  go_wp2_with fail
  refine N0.mono ?_;rintro e1 W1 ⟨rfl,wv1,lvs1,h3,i3,j3⟩;have HE:Y (ztv w0 w Xb (A la ln lc) wv ls acc lvs fin aX (.returned (.tuple #[I aX.1,I 0])) W1):=by
   refine⟨wv1,aX.2,lvs1,h3,B0.st.trans i3,.inr ⟨M3,rfl,rfl,λq hq=>?_⟩⟩;rcases j3 q hq with h5|h5|h5|h5
   ·exact B0.lo q h5
   ·refine .inr (.inr (.inr λb hb=>?_))
    rw[h5]at hb;have:=(B0.ow.lt b hb).1;have:=B0.nw;omega
   ·exact .inr (.inr (.inl h5))
   exact .inr (.inr (.inr λb hb=>Nat.le_trans B0.st.sz (h5 b hb)))
  clear h3 i3 j3 N0;go_wp2;refine bodyPost_ret (v:=.tuple #[I aX.1,I 0]) (by simp[results,results20,go_sem]) rfl ?_;exact HE
end
section
def yjy:zd2 w0 Pb Xb lv ls p 0:=by
 intro w wv acc lvs v l u hw hs ho f0 hu g0;obtain⟨rfl,rfl⟩:=hs;have HP:Y (∀V,D w V->E 44 #[F Xb,.agg #[I 7,I u,I 0,I 0,I 0,K]] V (Vn (λ_=>False) w0 w Xb lv wv ls acc lvs (bL p (vars p ls) 0 acc [] u))):=λV hV=>(zq0 (nd:=⟨7,u,0,0,0,[]⟩) (lvn:=K) (hw.below hV) (Zw.nil _ _) ⟨λ_=>rfl,by simp⟩ (λhn=>absurd rfl hn) (by omega)).mono λe w' he=>he.up hV (λq hq=>by rw[hq]);generalize bL p (vars p ls) 0 acc [] u=aX at*;have HM:Y ((bO p (vars p ls) 0 [] u).find? (Xr p (vars p ls))=none):=rfl;generalize (bO p (vars p ls) 0 [] u).find? (Xr p (vars p ls))=fin at*;clear hw ho f0 hu g0
 go_enter func20,ntmps20
 go_wp2_with fail
 obtain⟨W0,a0⟩:=J (w.alloc (.cells #[I 7,I u,I 0,I 0,I 0,K] 73))
 have h0:Y (D w W0):=by show Below _ _ _;rw[a0];exact bA
 have n0:W0.cell? (O w.heap.size 0)=some (I 7):=by rw[a0];simp
 have n1:W0.cell? (O w.heap.size 1)=some (I u):=by rw[a0];simp
 have n2:W0.cell? (O w.heap.size 2)=some (I 0):=by rw[a0];simp
 have n3:W0.cell? (O w.heap.size 3)=some (I 0):=by rw[a0];simp
 have n4:W0.cell? (O w.heap.size 4)=some (I 0):=by rw[a0];simp
 have n5:W0.cell? (O w.heap.size 5)=some K:=by rw[a0];simp
 rw[<-a0];clear a0
 go_loopw [11] (λi wr=>i=I 0/\wr=W0) (λ_ _=>0)
 case atStart=>exact⟨rfl,rfl⟩
 case round=>
  obtain⟨rfl,b0⟩:=hrel;rw[b0];clear b0
  go_wp2_with fail
  refine(HP _ h0).mono ?_;rintro e1 W1 ⟨rfl,wv1,lvs1,c0,d0,e0⟩;have HE:Y (ztv w0 w Xb lv wv ls acc lvs fin aX (.returned (.tuple #[I aX.1,I 0])) W1):=⟨wv1,aX.2,lvs1,c0,d0,.inr ⟨HM,rfl,rfl,e0⟩⟩;clear c0 d0 e0 HP;go_wp2;refine bodyPost_ret (v:=.tuple #[I aX.1,I 0]) (by simp[results,results20,go_sem]) rfl ?_;exact HE
def yy1(hp:zyv w0 Pb Lq rb aB hv bv p)(ok:bC p (vars p ls))(h4:ls.length<=4):∀d,zd2 w0 Pb Xb lv ls p d
 |0=>yjy
 |d+1=>yjz hp ok h4 d (yy1 hp ok h4 d)
def Yc.ret(h:Yc w0 w Xb lv wv ls acc lvs){R:Nat}(hR:R<Xb)(h0:w0.heap.size<=R)(j:Nat)(u:Value):Yc w0 (w.setCell (O R j) u) Xb lv wv ls acc lvs:=by
 have hz:=h.hz;have ne:∀i,(w.setCell (O R j) u).cell? (O Xb i)=w.cell? (O Xb i):=λi=>Qc (Zx _ _ _ _ _ (by show Xb≠R;omega));refine⟨h.x0,by rw[Zy];exact hz,(ne 0).trans h.c0,(ne 1).trans h.c1,λi=>by rw[frozen?_setCell];exact h.fz i,h.hl,ownsRow_setCell_below h.ow (by show R<_;omega) u,λp hp=>⟨(h.li p hp).1.set (λhx hh=>by have:=((h.li p hp).2 hx R hh).1;omega),λhn b hb=>⟨((h.li p hp).2 hn b hb).1,((h.li p hp).2 hn b hb).2.of (Zx _ _ _ _ _ (by have:=((h.li p hp).2 hn b hb).1;omega))⟩⟩,h.be.setCell h0 _,h.le⟩
end
def ysy(p:aY)(w:World)(e:Ending)(w':World):Prop:=
 D w w'/\∃la ln lc na nn nc,e=.returned (.tuple #[.agg #[A la ln lc,A na nn nc],I (eM p).1])/\((eM p).1=0->∃Xb lvs,Yc w w' Xb (A la ln lc) (A na nn nc) (eM p).2.1 (eM p).2.2 lvs/\(eM p).2.1.length<=4)
def yow(h:Zw B w lv ls):rk p (zmv w lv ls.length)=rk p ls:=by rw[yiy h]
structure IfAt(w wr:World)(Rb Xb:Nat)(lv:Value)(ls:Is):Prop where
 be:D w wr
 ow:wr.ownsRow (Xb+1) 3 1 lv ls.length (ls.map (int .i64))
 r:wr.heap[Rb]?=some (.cells #[K,K] 30 (0,0))
 x:wr.heap[Xb]?=some (.cells #[lv,K] 30 (0,0))
def Xh(h:w.heap[b]?=some o):b<w.heap.size:=(Array.getElem?_eq_some_iff.1 h).1
def IfAt.next(h:IfAt w wr Rb Xb lv ls)(hR:Rb<Xb)(hX:w.heap.size<=Xb)(hb:D wr W2)(ho:W3.ownsRow (Xb+1) 3 1 v' (ls.length+1) (ls.map (int .i64)++[I m]))(hg:W2.grownBy W3 lv.ownBlock):IfAt w (W3.setCell (O Xb 0) v') Rb Xb v' (ls++[m]):=by
 have a0:∀g,lv.ownBlock=some g->Xb<g:=λg hh=>by have:=h.ow.lt g hh;omega
 have hs:=hb.size;have q:∀b,b<=Xb->b<wr.heap.size->W3.heap[b]?=wr.heap[b]?:=λb h1 h2=>(hg.block b (by omega) (λhh=>by have:=a0 b hh.symm;omega)).trans (hb.block b h2);have x3:=(q Xb lE (Xh h.x)).trans h.x;refine⟨((h.be.trans (hb.mono h.be.size)).grown hg (by have:=h.be.size;omega) (λk hk=>by have:=a0 k hk;omega)).setCell hX _,?_,(Zx _ _ _ _ _ (by omega)).trans ((q Rb (by omega) (Xh h.r)).trans h.r),zzv x3 0 v'⟩;rw[length_append,map_append];exact ownsRow_setCell_below ho (by simp) v'
section
def IfAt.rz(h:IfAt w wr Rb Xb lv ls)(hX:w.heap.size<=Xb)(hp:zyv w Pb Lq rb aB hv bv p)(ok:bC p (vars p ls)):zzz w wr Pb Lq rb aB hv bv p lv ls:=
 ⟨hp,h.be,⟨h.ow.1,h.ow.2.imp id (λ⟨g,c,cur,e,hb,r⟩=>⟨g,c,cur,e,by omega,r⟩)⟩,ok⟩
def yp4(lv:p.Lv)(ho:p.Ok):fL p (Fl.start p) (bJ p):=by
 obtain⟨h1,h2⟩:=gY lv ho;have h:=kQ (p:=p) lv (ls:=(bJ p).drop p.cells.length) (by rw[h2];exact h1);rw[h2]at h;exact h
def yjx(hp:zyv w Pb Lq rb aB hv bv p)(T0:cK 4 p.aZ)(U0:Fl.bE 4 p.aZ<=16):E 6 #[F Pb] w (ysy p w):=by
 have HP:=Z hp;have I1:=hp.hz;obtain⟨Rb,A0⟩:=J (w.heap.size);obtain⟨Xb,B0⟩:=J (w.heap.size+1);have V0:Y (∀V,D w V->E 18 #[F Pb] V (Rq (I (aE p)) V)):=λV hV=>zi5 (hp.below hV);have I0:Y (∀V,D w V->M V Pb 4 (I p.ap)):=λV hV=>(hp.below hV).p4;obtain⟨W0,C0⟩:=J ((w.alloc (.cells #[K,K] 30)).alloc (.cells #[K,K] 30))
 have J0:Y (D w W0):=by show Below _ _ _;rw[C0];exact bA.alloc (by simp) _
 have K0:Y (W0.heap[Rb]?=some (.cells #[K,K] 30 (0,0))/\W0.heap[Xb]?=some (.cells #[K,K] 30 (0,0))):=by
  rw[C0,A0,B0];exact⟨by rw[Below.heap_alloc _ _ _ (by simp)];exact heap_alloc_last _ _,by rw[<-size_alloc w (.cells #[K,K] 30)];exact heap_alloc_last _ _⟩
 obtain⟨n,hn⟩:=J (p.ap)
 have J1:(n:Int)<=4:=by have:=hp.ok.lo;omega
 rw[<-hn]at I0;have HN:=Z hn;have k0:Y (Rb=w.heap.size/\Xb=w.heap.size+1):=⟨A0,B0⟩;have n0:Y (cK 4 p.aZ/\Fl.bE 4 p.aZ<=16):=⟨T0,U0⟩;clear hp hn T0 U0
 go_enter func6,ntmps6
 go_wp2_with fail
 rw[<-C0,<-B0,<-A0];clear C0 A0 B0;refine(V0 _ J0).mono ?_;rintro e1 W ⟨rfl,X0⟩;rw[X0];clear X0 V0;obtain⟨lo,bB⟩:=J (aE p);rw[<-bB];have g0:=Z bB;have Y0:Y (IfAt w W0 Rb Xb K []):=⟨J0,ownsRow_nil _ _ _ _,K0.1,K0.2⟩;clear bB K0 J0
 go_wp2_with fail
 go_loopw [6] (λi wr=>∃(k:Nat) (lv:Value),k<=n/\i=I k/\IfAt w wr Rb Xb lv (replicate k lo)) (λi _=>n - (intOf i).toNat)
 case atStart=>exact⟨0,_,by omega,rfl,Y0⟩
 case round=>
  obtain⟨k,lv,hk,rfl,o0⟩:=hrel;have b0:=Z o0;have p4:=I0 wr o0.be;obtain⟨la,lc,D0⟩:∃la lc,lv=A la k lc:=by
   have h9:=o0.ow;rw[length_replicate]at h9;rcases id h9.2 with⟨rfl,h0⟩|⟨g,cp,cur,rfl,-⟩
   ·exact⟨none,0,by rw[h0]⟩
   exact⟨_,cp,rfl⟩
  subst D0;have x0:wr.cell? (O Xb 0)=some (A la k lc):=(by simp only[cell?,o0.x];rfl);clear o0
  by_cases K1:k<n
  ·have y1:(k:Int)<(n:Int):=by omega
   obtain⟨W2,p0⟩:=J (wr.alloc (.cells #[I lo] 3));have L0:Y (D wr W2):=(by show Below _ _ _;rw[p0];exact bA);have tc:∀j u,([I lo]:Vs)[j]?=some u->W2.cell? (((O wr.heap.size 0):Addr).add j)=some u:=(by rw[p0];exact zf4 (w:=wr) (l:=[I lo]));have M0:Y (W2.ownsRow (Xb+1) 3 1 (A la k lc) k ((replicate k lo).map (int .i64))):=by
    have h9:=zx4 b0.ow L0.out;rw[length_replicate]at h9;exact h9
   have L1:wr.heap.size+1=W2.heap.size:=(by rw[p0];simp);have z1:=Xh b0.x;obtain⟨i1,A1,B1,C1,D1⟩:=info_parts Tryz.infoIntW
   go_wp2_with (at_builtin;rw[<-p0];refine Ap underlying27 A1 B1 C1 D1 rfl M0 rfl [I lo] rfl rfl tc (by intro u hu;simp at hu;subst hu;rfl) (by unfold maxLen;omega) (by omega) (by omega) ?_)
   intro v' W3 d0 N0 E1;obtain⟨g3,k3,rfl⟩:∃g3 k3,v'=Sq g3 0 (k+1) k3:=by
    rcases d0.2 with⟨h1,h2⟩|⟨g3,cp,cur,h1,_⟩
    ·omega
    exact⟨g3,cp,h1⟩
   have q0:=Z (b0.next (by have:=k0.out;omega) (by have:=k0.out;omega) L0 (by rw[length_replicate];exact d0) N0);have O0:W3.heap[Xb]?=some (.cells #[A la k lc,K] 30 (0,0)):=(N0.block Xb (by omega) (λhh=>by have:=(M0.lt Xb hh.symm).1;omega)).trans ((L0.block Xb z1).trans b0.x);have c3:W3.cell? (O Xb 0)=some (A la k lc):=(by simp only[cell?,O0];rfl);have f3:W3.frozen? (O Xb 0)=false:=(by simp[frozen?,O0]);rw[<-replicate_succ']at q0;clear d0 N0 E1 O0 tc p0 M0 p4 x0;go_wp2
   go_roundw
   case rel=>exact⟨k+1,_,by omega,by go_num,q0⟩
   case measure=>simp[intOf];omega
  have y1:¬(k:Int)<(n:Int):=(by omega)
  obtain rfl:k=n:=by omega
  obtain⟨W1,Z0⟩:=J (wr);rw[<-Z0]at b0 p4 x0⊢;clear Z0;have a1:Y (bC p (vars p (replicate k lo))):=(by rw[g0.out,HN.out];exact zwy HP.lv);have a0:=Z (b0.rz (by have:=k0.out;omega) HP a1)
  have P0:Y (∀V,Yi W1 V (A la k lc)->V.heap[Xb]?=some (.cells #[A la k lc,K] 30 (0,0))/\V.heap[Rb]?=some (.cells #[K,K] 30 (0,0))):=λV hV=>by
   have D0:∀g,(A la k lc).ownBlock=some g->Xb<g:=λg hh=>by have:=b0.ow.lt g hh;omega
   have E0:=k0.out;exact⟨(hV.bl Xb (Xh b0.x) (λhh=>by have:=D0 Xb hh.symm;omega)).trans b0.x,(hV.bl Rb (Xh b0.r) (λhh=>by have:=D0 Rb hh.symm;omega)).trans b0.r⟩
  have F1:Y (∀g,(A la k lc).ownBlock=some g->Xb<g):=λg hh=>by have:=b0.ow.lt g hh;omega
  obtain⟨Qw,hJ⟩:=J (α:=Value->World->Prop) (λm wr=>∃(b:Bool) (ls:Is),m=.bool b/\ls.length=k/\zzz w wr Pb Lq rb aB hv bv p (A la k lc) ls/\fL p (Fl.start p) (vars p ls)/\fL p (vars p ls) (bJ p)/\(b=false->ls=(bJ p).drop p.cells.length)/\Yi W1 wr (A la k lc));obtain⟨μ,hμ⟩:∃μ:Value->World->Nat,μ=λm wr=>match m with
   | .bool true=>1+rk p (zmv wr (A la k lc) k)
   |_=>0:=⟨_,rfl⟩
  have HJ:=Z hJ;have HM:=Z hμ;have G1:Y (Qw (.bool true) W1):=by
   rw[hJ];exact⟨true,replicate k lo,rfl,by simp,a0,by rw[g0.out,HN.out];exact fL.refl HP.lv (zwy HP.lv),by rw[g0.out,HN.out];exact yp4 HP.lv HP.ok,λh=>(by cases h),Yi.aD (Below.refl _ _)⟩
  clear hJ hμ b0 a0 a1 Y0
  go_wp2_with fail
  clear p4 x0 I0
  go_loopw [7] (λm wr=>Qw m wr) (λm wr=>μ m wr)
  case atStart=>exact G1.out
  case round=>
   rw[HJ.out]at hrel;obtain⟨b,ls,rfl,b1,F0,h1,h2,h3,cZ⟩:=hrel;have a0:=Z F0;have G0:Y (fL p (Fl.start p) (vars p ls)/\fL p (vars p ls) (bJ p)/\(b=false->ls=(bJ p).drop p.cells.length)):=⟨h1,h2,h3⟩;have H0:=Z cZ;have d1:=Z b1;clear F0 h1 h2 h3 cZ b1
   cases b
   ·have Q0:=G0.2.2 rfl
    have j1:Y (vars p ls=bJ p/\ls=(bJ p).drop p.cells.length):=⟨by rw[Q0];exact(gY HP.lv HP.ok).2,Q0⟩;obtain⟨qx,qr⟩:=P0 wr H0.out;have E0:=k0.out;have k1:Y (Yc w wr Xb (A la k lc) K ls [] []):=by
     refine⟨by omega,Xh qx,by simp only[cell?,qx];rfl,by simp only[cell?,qx];rfl,λj=>by simp[frozen?,qx],rfl,ownsRow_nil _ _ _ _,λq hq=>?_,a0.be,by simp,λq hq=>absurd hq (by simp[Yu])⟩
     obtain rfl:q=(A la k lc,ls):=by simpa [Yu] using hq
     refine⟨⟨a0.ints,λhx=>?_⟩,λhx b hb=>⟨F1 b hb,(Jg a0.ow b hb).2⟩⟩;obtain⟨ao,cp,e,-,-,h9⟩:=a0.ints;obtain⟨g,off,e2,-,-⟩:=h9 hx;rw[e,e2];simp[ownBlock]
    have s0:=Z (yy1 (Xb:=Xb) (lv:=A la k lc) HP a0.ok a0.len.2 4 wr _ [] [] bv p.aZ lo k1 HP.bs (by rw[a0.ok.1];exact HP.ok.aZ) n0.1 (by rw[g0.out];exact HP.lv.aE) (by have:=n0.2;simp only[length_nil];omega));have p5:=(a0.nP).p5;obtain⟨va,vn,vc,l0⟩:=HP.bs.slice;rw[l0]at p5 s0;rw[j1.1,g0.out]at s0;rw[<-g0.out]at s0
    have l1:Y (∀Wj r,(bO p (bJ p) 4 p.aZ lo).find? (Xr p (bJ p))=Wj->bL p (bJ p) 4 [] p.aZ lo=r->(∀m,Wj=some m->(eM p).1=m.1.aq/\0<m.1.aq)/\(Wj=none->eM p=(0,ls,r.2))):=λWj r hF hr=>by
     rw[g0.out]at hF hr;refine⟨λm hm=>?_,λhn=>?_⟩
     ·rw[hm]at hF
      have hl:=dB 4 _ _ n0.1 m (mem_of_find?_eq_some hF);have hd:eX p (bJ p)=m.1.aq:=by
       unfold eX;rw[show (bO p (bJ p) 4 p.aZ (aE p)).find? (λm=> !Fl.ef p (bJ p) m)=some m from hF]
      refine⟨?_,hl⟩;unfold eM;rw[G (by rw[hd];exact hl),hd]
     rw[hn]at hF;have hd:eX p (bJ p)=0:=by
      unfold eX;rw[show (bO p (bJ p) 4 p.aZ (aE p)).find? (λm=> !Fl.ef p (bJ p) m)=none from hF]
     unfold eM;rw[U (by rw[hd];omega),hr,<-j1.2]
    generalize hF:(bO p (bJ p) 4 p.aZ lo).find? (Xr p (bJ p))=Wj at*;generalize hr:bL p (bJ p) 4 [] p.aZ lo=r at*;have R0:=Z (l1 Wj r rfl rfl);have m1:=Z qr;clear Q0 qx qr l0 hF hr l1 G0 k1 E0
    go_wp2_with fail
    refine s0.mono ?_;rintro e5 W5 ⟨wv5,ac5,lvs5,m0,n1,j0⟩;obtain⟨-,na,nn,nc,rfl⟩:=m0.sl;have E0:=k0.out;have F0:Rb<wr.heap.size:=Xh m1.out;have q5:W5.heap[Rb]?=some (.cells #[K,K] 30 (0,0)):=(n1.bl Rb F0 (by omega) (by omega) (by simp[ownBlock])).trans m1.out;have r0:W5.cell? (O Rb 0)=some K:=(by simp only[cell?,q5];rfl);have r1:W5.cell? (O Rb 1)=some K:=(by simp only[cell?,q5];rfl);have f0:W5.frozen? (O Rb 0)=false:=(by simp[frozen?,q5]);have f1:W5.frozen? (O Rb 1)=false:=(by simp[frozen?,q5]);have x0:=m0.c0;have x1:=m0.c1;have M1:Rb≠Xb:=(by omega);have o1:=Z ((m0.ret (R:=Rb) (by omega) (by omega) 0 (A la k lc)).ret (R:=Rb) (by omega) (by omega) 1 (A na nn nc));have S0:Y (D w ((W5.setCell (O Rb 0) (A la k lc)).setCell (O Rb 1) (A na nn nc))):=(m0.be.setCell (by show w.heap.size<=Rb;omega) _).setCell (by show w.heap.size<=Rb;omega) _;have HE:Y (∃aq:Nat,e5=.returned (.tuple #[I (if Wj=none then r.1 else 0),I aq])/\ysy p w (.returned (.tuple #[.agg #[A la k lc,A na nn nc],I aq])) ((W5.setCell (O Rb 0) (A la k lc)).setCell (O Rb 1) (A na nn nc))):=by
     rcases j0 with⟨m,h1,rfl⟩|⟨h1,rfl,rfl,-⟩
     ·obtain⟨g1,g2⟩:=R0.1 m h1
      exact⟨m.1.aq,by rw[U (by rw[h1];simp)],S0,_,_,_,_,_,_,by rw[g1],λh0=>(by omega)⟩
     have g1:=R0.2 h1;exact⟨0,by rw[G h1];rfl,S0,_,_,_,_,_,_,by rw[g1],λ_=>by rw[g1];exact⟨Xb,_,o1,a0.len.2⟩⟩
    obtain⟨aq,rfl,he⟩:=HE.out;have H1:=Z he;clear he HE o1 S0 m0 n1 j0 q5 s0 R0 E0;generalize (if Wj=none then r.1 else 0)=idx;go_wp2;have e0:((W5.setCell (O Rb 0) (A la k lc)).setCell (O Rb 1) (A na nn nc)).cell? (O Rb 0)=some (A la k lc):=(Qg _ _ _ _ (by simp)).trans (cell?_setCell_same' _ _ _ (by simp[r0]));have e1:((W5.setCell (O Rb 0) (A la k lc)).setCell (O Rb 1) (A na nn nc)).cell? (O Rb 1)=some (A na nn nc):=cell?_setCell_same' _ _ _ ((congrArg Option.isSome (Qg _ _ _ _ (by simp))).trans (by simp[r1]));exact bodyPost_ret (v:=.tuple #[.agg #[A la k lc,A na nn nc],I aq]) (by simp[results,results6,go_sem,e0,e1]) rfl H1.out
   obtain⟨r,hr⟩:=J (rz p 4 p.aZ lo ls);have t0:=Z (mV HP.lv HP.ok n0.1 a0.ok G0.1 G0.2.1 (r:=r) (by rw[hr,g0.out]))
   have HS:Y (∀V,D wr V->M V Xb 0 (A la k lc)/\M V Xb 1 K/\M V Pb 5 bv):=λV hV=>by
    obtain⟨q1,-⟩:=P0 V (H0.trans (Yi.aD hV));exact⟨cell_of_row _ _ _ _ _ _ q1,cell_of_row _ _ _ _ _ _ q1,((a0.below hV).nP).p5⟩
   have p1:Y (∀V,D wr V->E 19 #[F Pb,.agg #[A la k lc,K],bv,I lo] V (zkw w V Pb Lq rb aB hv bv p (A la k lc) r)):=λV hV=>by
    rw[hr];exact zd1 4 V ls bv p.aZ lo (a0.below hV) HP.bs (by rw[a0.ok.1];exact HP.ok.aZ) n0.1 (by rw[g0.out];exact HP.lv.aE)
   obtain⟨va,vn,vc,l0⟩:=HP.bs.slice;have s1:=Z l0;rw[l0]at HS
   have u0:Y (∀V,D wr V->E 19 #[F Pb,.agg #[A la k lc,K],A va vn vc,I lo] V (zkw w V Pb Lq rb aB hv bv p (A la k lc) r)):=λV hV=>by rw[<-s1.out];exact p1 V hV
   clear hr p1 l0
   go_wp2_with fail
   refine Zk HS dA [7] [] [] (by kernel_rfl) (λ_ _ _ _ h=>h) (λops _=>?_)
   iterate 7 refine Zv rfl (by intros;go_simp<;>rfl) (by go_simp<;>rfl) ?_
   refine Zm ?_
   go_wp2_with fail
   refine(u0 _ dA).mono ?_;rintro e4 W4 ⟨rfl,v0,y0⟩;have i0:=Z v0;have z0:Y (Yi wr W4 (A la k lc)):=(Yi.aD dA).trans y0;have t1:Y (M W4 Xb 0 (A la k lc)/\M W4 Xb 1 K/\M W4 Pb 5 (A va vn vc)):=by
    obtain⟨q1,-⟩:=P0 W4 (H0.trans z0);exact⟨cell_of_row _ _ _ _ _ _ q1,cell_of_row _ _ _ _ _ _ q1,by rw[<-s1.out];exact(i0.nP).p5⟩
   clear v0 y0 u0
   go_wp2_with fail
   refine⟨t1,?_⟩;refine Zv rfl (by intros;go_simp<;>rfl) (by go_simp<;>rfl) ?_;refine Zs ?_;obtain⟨r1,rl⟩:=r;have u1:Y (Qw (.bool r1) W4/\μ (.bool r1) W4<μ (.bool true) wr):=by
    have v1:rl.length=k:=by
     have g1:=i0.ok.1;have g2:=a0.ok.1;rw[fJ]at g1 g2;have:=d1.out;simp only at g1;omega
    rw[HJ.out,HM.out];refine⟨⟨r1,rl,rfl,v1,i0,t0.2.1,t0.2.2.1,t0.2.2.2.2,H0.trans z0⟩,?_⟩;have e1:=yow (p:=p) a0.ints;have e2:=yow (p:=p) i0.ints;rw[d1.out]at e1;simp only at e2;rw[v1]at e2
    cases r1
    ·simp only;omega
    have:=t0.2.2.2.1 rfl;simp only at this⊢;omega
   clear t0 HS t1;go_wp2
   go_roundw
   case rel=>exact u1.1
   case measure=>exact u1.2
end
def ysx{k:Nat}{c:Int}{u:Value}(hk:k<6)(hu:k<5->u=I c):∀(ns:List ar) (lvs:Vs) (i:Nat),lvs.length=ns.length->i<ns.length->
  ∃ns' lvs',lvs'.length=ns'.length/\ns'.length=ns.length/\flat ns' lvs'=(flat ns lvs).set (i*6+k) u/\∀p,p∈Yu ns' lvs'->(k=5/\p=(u,[c]))\/p∈Yu ns lvs
 |n::ns,v::lvs,0,h,_=>by
  have hh:lvs.length=ns.length:=(by simpa using h)
  have:k=0\/k=1\/k=2\/k=3\/k=4\/k=5:=by omega
  rcases this with rfl|rfl|rfl|rfl|rfl|rfl
  ·exact⟨{n with kind:=c}::ns,v::lvs,by simp[hh],rfl,by rw[hu (by omega)];rfl,λp hp=> .inr hp⟩
  ·exact⟨{n with ak:=c}::ns,v::lvs,by simp[hh],rfl,by rw[hu (by omega)];rfl,λp hp=> .inr hp⟩
  ·exact⟨{n with a:=c}::ns,v::lvs,by simp[hh],rfl,by rw[hu (by omega)];rfl,λp hp=> .inr hp⟩
  ·exact⟨{n with b:=c}::ns,v::lvs,by simp[hh],rfl,by rw[hu (by omega)];rfl,λp hp=> .inr hp⟩
  ·exact⟨{n with c:=c}::ns,v::lvs,by simp[hh],rfl,by rw[hu (by omega)];rfl,λp hp=> .inr hp⟩
  refine⟨{n with ae:=[c]}::ns,u::lvs,by simp[hh],rfl,rfl,λp hp=>?_⟩;rcases mem_cons.1 hp with rfl|hp
  ·exact .inl ⟨rfl,rfl⟩
  exact .inr (mem_cons_of_mem _ hp)
 |n::ns,v::lvs,i+1,h,hi=>by
  obtain⟨ns',lvs',h1,h2,h3,h4⟩:=ysx hk hu ns lvs i (by simpa using h) (by simpa using hi);refine⟨n::ns',v::lvs',by simp[h1],by simp[h2],?_,λp hp=>?_⟩
  ·rw[show (i+1)*6+k=i*6+k+6 from by omega]
   simp only[flat,Zc,cons_append,nil_append,set_cons_succ,h3]
  rcases mem_cons.1 hp with rfl|hp
  ·exact .inr (by simp[Yu])
  rcases h4 p hp with h|h
  ·exact .inl h
  exact .inr (mem_cons_of_mem _ h)
def ye3{Q:Value->Is->Prop}:∀(ns:List ar) (lvs:Vs),(∀p,p∈Yu ns lvs->∃xs,Q p.1 xs)->∃ns',ns'.length=ns.length/\flat ns' lvs=flat ns lvs/\∀p,p∈Yu ns' lvs->Q p.1 p.2
 |[],lvs,_=>⟨[],rfl,rfl,λp hp=>by cases hp⟩
 |n::ns,[],_=>⟨n::ns,rfl,rfl,λp hp=>by cases hp⟩
 |n::ns,v::lvs,h=>by
  obtain⟨ns',h1,h2,h3⟩:=ye3 ns lvs (λp hp=>h p (mem_cons_of_mem _ hp));obtain⟨xs,hx⟩:=h (v,n.ae) (by simp[Yu]);refine⟨{n with ae:=xs}::ns',by simp[h1],by simp only[flat,Zc,h2],λp hp=>?_⟩;rcases mem_cons.1 hp with rfl|hp
  ·exact hx
  exact h3 p hp
def ya9{v:Value}{xs:Is}(h:Zw w.heap.size w v xs):∃ys,ys.length=xs.length/\Zw (w.setCell (O b j) (I c)).heap.size (w.setCell (O b j) (I c)) v ys:=by
 obtain⟨ao,cap,rfl,h1,h2,h3⟩:=h
 cases hx:xs with
 |nil=>rw[hx]at h1 h2;exact⟨[],rfl,ao,cap,rfl,h1,h2,λh=>absurd rfl h⟩
 |cons x0 xr=>
  rw[<-hx];obtain⟨b0,off,rfl,h4,h5⟩:=h3 (by rw[hx];simp);refine⟨if b0=b/\off<=j then xs.set (j - off) c else xs,by split<;>simp,_,cap,by split<;>simp,by split<;>simpa using h1,by split<;>simpa using h2,λ_=>⟨b0,off,rfl,by rw[Zy];exact h4,λi hi=>?_⟩⟩
  have a0:i<xs.length:=by split at hi<;>simpa using hi
  by_cases hq:b0=b/\off+i=j
  ·obtain⟨rfl,rfl⟩:=hq
   rw[cell?_setCell_same' _ _ _ (by rw[h5 i a0];rfl),G ⟨rfl,by omega⟩];simp[Qa,a0]
  rw[(Qg _ _ _ _ (by intro hh;injection hh with e1 e2;exact hq ⟨e1.symm,e2.symm⟩)).trans (h5 i a0)]
  congr 2
  split
  ·rename_i h6
   simp only[Qa];rw[getElem?_set_ne (by omega)]
  rfl
structure BIn(B:Nat)(w:World)(lv wv:Value)(ls:Is)(acc:List ar)(lvs:Vs):Prop where
 hl:lvs.length=acc.length
 ow:w.ownsRow B 73 6 wv acc.length (flat acc lvs)
 li:∀p,p∈(lv,ls)::Yu acc lvs->(Zw w.heap.size w p.1 p.2/\p.2.length<=16)/\(p.2≠[]->∀b,p.1.ownBlock=some b->B<=b/\Xk w b)
 le:acc.length<=100001/\∀p,p∈Yu acc lvs->p.2=[]->p.1=K
section
def Yc.bin(h:Yc w0 w Xb lv wv ls acc lvs)(h4:ls.length<=4):BIn w0.heap.size w lv wv ls acc lvs:=by
 have hx:=h.x0;refine⟨h.hl,⟨h.ow.1,h.ow.2.imp id (λ⟨g,c,cur,e,hb,r⟩=>⟨g,c,cur,e,by omega,r⟩)⟩,λp hp=>⟨⟨(h.li p hp).1.1,?_⟩,λhn b hb=>⟨by have:=((h.li p hp).2 hn b hb).1;omega,((h.li p hp).2 hn b hb).2⟩⟩,h.le.1,λp hp=>(h.le.2 p hp).1⟩;rcases mem_cons.1 hp with rfl|hp
 ·show ls.length<=16;omega
 exact(h.le.2 p hp).2
def BIn.ints(h:BIn B w lv wv ls acc lvs):Zw w.heap.size w lv ls:=(h.li (lv,ls) (by simp)).1.1
def BIn.nodes(h:BIn B w lv wv ls acc lvs):Zl w.heap.size w wv acc:=
 Uy h.ow h.hl (λi hi=>(h.li _ (by simp only[mem_cons];right;exact Vj acc lvs i h.hl hi)).1.1)
def BIn.below(h:BIn B w lv wv ls acc lvs)(hb:D w W):BIn B W lv wv ls acc lvs:=
 ⟨h.hl,zx4 h.ow hb,λp hp=>⟨⟨Jx (h.li p hp).1.1 hb,(h.li p hp).1.2⟩,λhn b hbb=>⟨((h.li p hp).2 hn b hbb).1,((h.li p hp).2 hn b hbb).2.of (hb.block b ((h.li p hp).2 hn b hbb).2.lt)⟩⟩,h.le⟩
def BIn.node{cap:Nat}(h:BIn B w lv (Sq g 0 acc.length cap) ls acc lvs)(hi:i<acc.length)(hk:k<6)(hu:k<5->u=I c)(hv:k=5->Zw w.heap.size w u [c]/\∀b,u.ownBlock=some b->B<=b/\Xk w b):
  ∃acc' lvs',acc'.length=acc.length/\BIn B (w.setCell (O g (i*6+k)) u) lv (Sq g 0 acc.length cap) ls acc' lvs':=by
 obtain⟨acc',lvs',h1,h2,h3,h4⟩:=ysx hk hu acc lvs i h.hl hi;have hg:∀b,Xk w b->b≠g:=λb hb e=>zv4 h.ow g rfl (e ▸ hb)
 have key:∀p:Value×Is,((Zw w.heap.size w p.1 p.2/\p.2.length<=16)/\(p.2≠[]->∀b,p.1.ownBlock=some b->B<=b/\Xk w b))->((Zw (w.setCell (O g (i*6+k)) u).heap.size (w.setCell (O g (i*6+k)) u) p.1 p.2/\p.2.length<=16)/\(p.2≠[]->∀b,p.1.ownBlock=some b->B<=b/\Xk (w.setCell (O g (i*6+k)) u) b)):=λp hp=>
  ⟨⟨Xf hp.1.1 (λhn hh=>hg g (hp.2 hn g hh).2 rfl),hp.1.2⟩,λhn b hb=>⟨(hp.2 hn b hb).1,(hp.2 hn b hb).2.of (Zx _ _ _ _ _ (hg b (hp.2 hn b hb).2))⟩⟩
 refine⟨acc',lvs',h2,h1,?_,λp hp=>?_,by rw[h2];exact h.le.1,λp hp hn=>?_⟩
 ·rw[h2,h3];exact(h.ow.stored _ _).1
 ·rcases mem_cons.1 hp with rfl|hp
  ·exact key _ (h.li _ (by simp))
  rcases h4 p hp with⟨h5,rfl⟩|h5
  ·exact key _ ⟨⟨(hv h5).1,by simp⟩,λ_=>(hv h5).2⟩
  exact key _ (h.li _ (mem_cons_of_mem _ h5))
 rcases h4 p hp with⟨h5,rfl⟩|h5
 ·cases hn
 exact h.le.2 p h5 hn
def BIn.ae(h:BIn B w lv wv ls acc lvs)(hb:Xk w b):∃ls' acc',ls'.length=ls.length/\acc'.length=acc.length/\BIn B (w.setCell (O b j) (I c)) lv wv ls' acc' lvs:=by
 obtain⟨W,hW⟩:=J (w.setCell (O b j) (I c))
 have key:∀p:Value×Is,p∈(lv,ls)::Yu acc lvs->∃xs,xs.length=p.2.length/\((Zw W.heap.size W p.1 xs/\xs.length<=16)/\(xs≠[]->∀b,p.1.ownBlock=some b->B<=b/\Xk W b)):=λp hp=>by
  obtain⟨⟨h1,h2⟩,h3⟩:=h.li p hp;obtain⟨ys,h4,h5⟩:=ya9 (b:=b) (j:=j) (c:=c) h1;refine⟨ys,h4,⟨by rw[hW];exact h5,by omega⟩,λhn b' hb'=>?_⟩;obtain⟨h6,cs,h7⟩:=h3 (λe=>hn (Qi (by rw[h4,e];rfl))) b' hb';refine⟨h6,?_⟩;rw[hW]
  by_cases e:b'=b
  ·subst e;exact⟨_,zzv h7 _ _⟩
  exact⟨cs,(Zx _ _ _ _ _ e).trans h7⟩
 obtain⟨ls',h1,h2⟩:=key (lv,ls) (by simp)
 obtain⟨acc',h3,h4,h5⟩:=ye3 (Q:=λv xs=>(((Zw W.heap.size W v xs/\xs.length<=16)/\(xs≠[]->∀b,v.ownBlock=some b->B<=b/\Xk W b)))/\(xs=[]->v=K)) acc lvs (λp hp=>by
  obtain⟨xs,q1,q2⟩:=key p (mem_cons_of_mem _ hp)
  exact⟨xs,q2,λe=>h.le.2 p hp (Qi (by rw[<-q1,e];rfl))⟩)
 rw[<-hW];refine⟨ls',acc',h1,h3,h.hl.trans h3.symm,?_,λp hp=>?_,by rw[h3];exact h.le.1,λp hp=>(h5 p hp).2⟩
 ·rw[h3,h4,hW]
  exact h.ow.kept (Yb w b j _) (.inr λe=>zv4 h.ow b e hb)
 rcases mem_cons.1 hp with rfl|hp
 ·exact h2
 exact(h5 p hp).1
end
def pk_neg(h:c<0)(hn:0<n):∃i:Nat,i<n/\ -((c+1).tmod (n:Int))=(i:Int):=by
 obtain⟨d,hd⟩:∃d:Nat,c+1= -(d:Int):=⟨(-(c+1)).toNat,by omega⟩;exact⟨d % n,Nat.mod_lt _ hn,by rw[hd,Int.neg_tmod,Int.neg_neg];rfl⟩
def pk_pos(h:¬c<0)(hn:0<n):∃i:Nat,i<n/\c % (n:Int)=(i:Int):=by
 obtain⟨d,rfl⟩:∃d:Nat,c=(d:Int):=⟨c.toNat,by omega⟩;exact⟨d % n,Nat.mod_lt _ hn,rfl⟩
def zs0(c:Int)(n:Nat)(w:World)(hc: -9223372036854775808<=c/\c<=9223372036854775807)(hn:0<n/\n<=1000000000):E 8 #[I c,I n] w λe w'=>(∃i:Nat,i<n/\e=.returned (I i))/\w'=w:=by
 have a0:((n:Int)==0)=false:=beq_eq_false_iff_ne.2 (by omega)
 have b0:0<(n:Int):=by omega
 by_cases h:c<0
 ·obtain⟨i,hi,e⟩:=pk_neg h hn.1
  have HP:=Z e;clear e
  go_enter func8,ntmps8
  go_wp2;go_ret;exact⟨⟨i,hi,by rw[<-HP.out];rfl⟩,rfl⟩
 obtain⟨i,hi,e⟩:=pk_pos h hn.1;have HP:=Z e;clear e
 go_enter func8,ntmps8
 go_wp2;go_ret;exact⟨⟨i,hi,by rw[<-HP.out];rfl⟩,rfl⟩
def zw3(B Wb:Nat)(lv wv:Value)(w:World)(e:Ending)(w':World):Prop:=e=.returned (.tuple #[])/\Below B w w'/\w'.heap[Wb]?=w.heap[Wb]?/\∃ls acc lvs,BIn B w' lv wv ls acc lvs
section
variable{Wb:Nat}{la na:Option Addr}{ln lc nc:Nat}{s0 s1 c4 c5:Value}{a b:Int}{t0 t1:ByteArray}
def yaz(h:V.heap[Wb]?=some (.cells cs 37 (0,0))){b:Nat}(hb:Xk V b):Wb≠b:=λe=>by
 obtain⟨c2,h2⟩:=hb;rw[<-e,h]at h2;injection h2 with h2;injection h2 with _ h3;exact absurd h3 (by decide)
def yov{b:Nat}(h:BIn B V lv wv ls acc lvs)(hb:Xk V b)(hB:B<=b)(hV:D w V)(hw:B<=w.heap.size)(a0:w.heap[Wb]?=some (.cells cs 37 (0,0))):zw3 B Wb lv wv w (.returned (.tuple #[])) (V.setCell (O b j) (I c)):=by
 have hq:=hV.block Wb (Xh a0);obtain⟨ls',acc',-,-,h2⟩:=h.ae (j:=j) (c:=c) hb;exact⟨rfl,(hV.mono hw).setCell hB _,(Zx _ _ _ _ _ (yaz (hq.trans a0) hb)).trans hq,ls',acc',lvs,h2⟩
def yn0(h:BIn B V lv (Sq g 0 acc.length nc) ls acc lvs)(hi:i<acc.length)(hk:k<6)(hu:k<5->u=I c)(hv:k=5->Zw V.heap.size V u [c]/\∀b,u.ownBlock=some b->B<=b/\Xk V b)(hV:D w V)(hw:B<=w.heap.size)(a0:w.heap[Wb]?=some (.cells cs 37 (0,0))):
  zw3 B Wb lv (Sq g 0 acc.length nc) w (.returned (.tuple #[])) (V.setCell (O g (i*6+k)) u):=by
 have hq:=hV.block Wb (Xh a0);obtain⟨acc',lvs',h1,h2⟩:=h.node hi hk hu hv;refine⟨rfl,(hV.mono hw).setCell (h.ow.lt g rfl).1 _,(Zx _ _ _ _ _ λe=>?_).trans hq,ls,acc',lvs',h2⟩;obtain⟨g',cap',cur,e2,-,h3,-⟩:=h.ow.2.resolve_left (by rintro⟨h,-⟩;cases h);injection e2 with e2;injection e2 with e2;injection e2 with e2;rw[<-e2,<-e,hq,a0]at h3;injection h3 with h3;injection h3 with _ h4;exact absurd h4 (by decide)
def yjw(hN:BIn B w (A la ln lc) (A na n nc) ls acc lvs)(hw:B<=w.heap.size)(c0:w.heap[Wb]?=some (.cells #[s0,s1,A la ln lc,A na n nc,c4,c5] 37 (0,0)))(ha: -9223372036854775808<=a/\a<=9223372036854775807):
  E 7 #[F Wb,.agg #[I 8,I a,I b,I c,.string t0,.string t1]] w (zw3 B Wb (A la ln lc) (A na n nc) w):=by
 obtain⟨W1,a0⟩:=J (w.alloc (.cells #[I 8,I a,I b,I c,.string t0,.string t1] 40))
 have d0:Y (D w W1):=by show Below _ _ _;rw[a0];exact bA
 have l0:w.heap.size<W1.heap.size:=by rw[a0];simp
 have o0:W1.cell? (O w.heap.size 0)=some (I 8):=by rw[a0];simp
 have e0:Y (∀V,D W1 V->M V w.heap.size 1 (I a)/\M V w.heap.size 2 (I b)/\M V Wb 2 (A la ln lc)):=λV hV=>by
  have q:∀j,V.cell? (O w.heap.size j)=W1.cell? (O w.heap.size j):=λj=>hV.cell (p:=(O w.heap.size j)) l0;exact⟨(q 1).trans (by rw[a0];simp),(q 2).trans (by rw[a0];simp),cell_of_row _ _ _ _ _ _ (((d0.trans (hV.mono d0.size)).block Wb (Xh c0)).trans c0)⟩
 have HN:=Z hN;have HW:=Z (And.intro hw c0);have f0:ln=ls.length:=by
  obtain⟨ia,ic,e,-⟩:=id hN.ints;injection e
 have wp2:=(e0 W1 (Below.refl _ _)).2.2
 by_cases h0:ln=0
 ·have HF:Y (zw3 B Wb (A la ln lc) (A na n nc) w (.returned (.tuple #[])) W1):=⟨rfl,d0.mono hw,d0.block Wb (Xh c0),ls,acc,lvs,hN.below d0⟩
  subst h0;rw[a0]at wp2 o0;clear hN c0 ha hw e0 f0
  go_enter func7,ntmps7
  go_wp2
  go_end0
  rw[<-a0];exact HF
 have m0:0<ln:=by omega
 have q0:0<(ln:Int):=by omega
 have i0:=(hN.li _ (mem_cons_self ..)).1.2;simp only at i0;have j0:=Z (λV=>zs0 a ln V ha ⟨m0,by omega⟩)
 have k0:Y (∀i,i<ln->∃b0 off x,la=some (O b0 off)/\(∀V,D W1 V->M V b0 (off+i) x/\V.frozen? (O b0 (off+i))=false/\zw3 B Wb (A la ln lc) (A na n nc) w (.returned (.tuple #[])) (V.setCell (O b0 (off+i)) (I b)))):=λi hi=>by
  obtain⟨b0,off,cap,e,-,-,-,h9⟩:=zmx hN.ints (i:=i) (by omega);injection e with e1 _ _;obtain⟨n0,hL⟩:=(hN.li _ (mem_cons_self ..)).2 (λe9=>by have h8:ls=[]:=e9;rw[h8]at f0;simp at f0;omega) b0 (by rw[e1];rfl);refine⟨b0,off,I (ls.getD i 0),e1,λV hV=>?_⟩;have g0:=d0.trans (hV.mono d0.size);obtain⟨cs,h2⟩:=hL.of (g0.block b0 hL.lt);exact⟨cT g0 hL.lt h9,by simp[frozen?,h2],yov (hN.below g0) ⟨cs,h2⟩ n0 g0 hw c0⟩
 rw[a0]at wp2 o0;clear hN c0 ha hw h0 i0 f0
 go_enter func7,ntmps7
 go_wp2_with fail
 rw[<-a0]at wp2 o0⊢;clear a0;refine Vq e0 dA [(0,0),(0,1),(0,2),(0,3),(0,4),(0,5),(0,6),(0,7),(0,8),(0,9),(0,10),(0,11),(0,12),(0,14),(0,15),(1,13),(0,16),(2,17)] [17] [] (by kernel_rfl) (λ_ _ _ _ h=>h) (λops _=>?_)
 iterate 15 refine Zv rfl (by intros;go_simp<;>rfl) (by go_simp<;>rfl) ?_
 refine Zm ?_
 go_wp2_with fail
 refine(j0 _).mono ?_;rintro e2 W2 ⟨⟨i,hi,rfl⟩,rfl⟩;obtain⟨b0,off,x,rfl,hf⟩:=k0 i hi;obtain⟨f1,f2,f3⟩:=hf W1.drew dA;have p0:=Z f3
 have r0:(i:Int)<(ln:Int):=by omega
 clear hf f3 k0 j0
 go_wp2_with fail
 refine⟨e0 _ dA,?_⟩;refine Zv rfl (by intros;go_simp<;>rfl) (by go_simp<;>rfl) ?_;refine Xx ?_
 go_wp2_with fail
 refine Zs ?_;go_wp2
 go_end0
 exact p0
def ye4(hN:BIn B w (A la ln lc) (A na n nc) ls acc lvs)(hw:B<=w.heap.size)(f0:w.heap[Wb]?=some (.cells #[s0,s1,A la ln lc,A na n nc,c4,c5] 37 (0,0)))(ha: -9223372036854775808<=a/\a<=9223372036854775807)(hb: -9223372036854775808<=b/\b<=9223372036854775807):
  E 7 #[F Wb,.agg #[I 7,I a,I b,I c,.string t0,.string t1]] w (zw3 B Wb (A la ln lc) (A na n nc) w):=by
 obtain⟨W1,c0⟩:=J (w.alloc (.cells #[I 7,I a,I b,I c,.string t0,.string t1] 40))
 have e0:Y (D w W1):=by show Below _ _ _;rw[c0];exact bA
 have K0:w.heap.size<W1.heap.size:=by rw[c0];simp
 have o0:W1.cell? (O w.heap.size 0)=some (I 7):=by rw[c0];simp
 have d0:Y (∀V,D W1 V->M V w.heap.size 1 (I a)/\M V w.heap.size 2 (I b)/\M V w.heap.size 3 (I c)/\M V Wb 3 (A na n nc)):=λV hV=>by
  have q:∀j,V.cell? (O w.heap.size j)=W1.cell? (O w.heap.size j):=λj=>hV.cell (p:=(O w.heap.size j)) K0;exact⟨(q 1).trans (by rw[c0];simp),(q 2).trans (by rw[c0];simp),(q 3).trans (by rw[c0];simp),cell_of_row _ _ _ _ _ _ (((e0.trans (hV.mono e0.size)).block Wb (Xh f0)).trans f0)⟩
 have wp3:=(d0 W1 (Below.refl _ _)).2.2.2
 by_cases h0:n=0
 ·have HF:Y (zw3 B Wb (A la ln lc) (A na n nc) w (.returned (.tuple #[])) W1):=⟨rfl,e0.mono hw,e0.block Wb (Xh f0),ls,acc,lvs,hN.below e0⟩
  subst h0;rw[c0]at wp3 o0;clear hN f0 ha hb hw d0
  go_enter func7,ntmps7
  go_wp2
  go_end0
  rw[<-c0];exact HF
 have en:n=acc.length:=by
  obtain⟨ao,cap,e⟩:=Yh hN.ow;injection e
 obtain⟨g,e1⟩:∃g,na=some (O g 0):=by
  obtain⟨g,cap',cur,e,-⟩:=hN.ow.2.resolve_left (by rintro⟨-,h⟩;omega);injection e with e1 _ _;exact⟨g,e1⟩
 subst e1;subst en;have h5:=hN.le.1;have v0:=Z (λV=>zs0 a acc.length V ha ⟨by omega,by omega⟩);have A0:=Z (λV=>zs0 b 6 V hb ⟨by omega,by omega⟩);have HV:Y (∀V,D W1 V->D w V):=λV hV=>e0.trans (hV.mono e0.size)
 have B0:Y (∀i,i<acc.length->∃x0 x1 x2 x3 x4 xa xn xc xs,(∀V,D W1 V->M V g (i*6) (I x0)/\M V g (i*6+1) (I x1)/\M V g (i*6+2) (I x2)/\M V g (i*6+3) (I x3)/\M V g (i*6+4) (I x4)/\M V g (i*6+5) (A xa xn xc))/\((A xa xn xc,xs)∈Yu acc lvs)):=λi hi=>by
  obtain⟨xa,xc,e,-⟩:=(hN.li _ (mem_cons_of_mem _ (Vj acc lvs i hN.hl hi))).1.1;have hm:=Vj acc lvs i hN.hl hi;simp only at e;rw[e]at hm;refine⟨(nth acc i).kind,(nth acc i).ak,(nth acc i).a,(nth acc i).b,(nth acc i).c,xa,(nth acc i).ae.length,xc,(nth acc i).ae,λV hV=>?_,hm⟩
  have hc:∀j,j<6->V.cell? (O g (i*6+j))=(Zc (nth acc i) (lvs.getD i K))[j]?:=λj hj=>by
   rw[(hN.below (HV V hV)).ow.cellAt (i*6+j) (by omega)];exact zd7 acc lvs i j hN.hl hi hj
  rw[e]at hc;exact⟨hc 0 (by omega),hc 1 (by omega),hc 2 (by omega),hc 3 (by omega),hc 4 (by omega),hc 5 (by omega)⟩
 have k0:Y (∀V,D W1 V->∀j,V.frozen? (O g j)=false):=λV hV j=>(hN.below (HV V hV)).ow.frozenAt j;have l0:Y (∀V,D W1 V->∀i k,i<acc.length->k<5->zw3 B Wb (A la ln lc) (Sq g 0 acc.length nc) w (.returned (.tuple #[])) (V.setCell (O g (i*6+k)) (I c))):=λV hV i k hi hk=>yn0 (hN.below (HV V hV)) hi (by omega) (λ_=>rfl) (λh=>by omega) (HV V hV) hw f0;have HN:=Z hN;have HW:=Z (And.intro hw f0)
 have R0:0<(acc.length:Int):=by omega
 have m0:=Z hb;rw[c0]at wp3 o0;clear hN f0 ha hb hw h0
 go_enter func7,ntmps7
 go_wp2_with fail
 rw[<-c0]at wp3 o0⊢;clear c0;refine Zk d0 dA [13] [] [] (by kernel_rfl) (λ_ _ _ _ h=>h) (λops _=>?_)
 iterate 13 refine Zv rfl (by intros;go_simp<;>rfl) (by go_simp<;>rfl) ?_
 refine Zm ?_
 go_wp2_with fail
 refine(v0 _).mono ?_;rintro e2 W2 ⟨⟨i,hi,rfl⟩,rfl⟩
 have S0:(i:Int)<(acc.length:Int):=by omega
 go_wp2_with fail
 refine⟨d0 _ dA,?_⟩
 iterate 2 refine Zv rfl (by intros;go_simp<;>rfl) (by go_simp<;>rfl) ?_
 refine Zs ?_;obtain⟨q1,q2,q3,q4⟩:=d0 W1.drew dA;obtain⟨x0,x1,x2,x3,x4,xa,xn,xc,xs,hx,hm⟩:=B0 i hi;have i0:=Z hx;have HM:=Z hm;obtain⟨y0,y1,y2,y3,y4,y5⟩:=hx W1.drew dA;have z0:=k0 W1.drew dA;clear hx hm B0 v0 k0 wp3
 go_wp2_with fail
 refine(A0 _).mono ?_;rintro e3 W3 ⟨⟨m,L0,rfl⟩,rfl⟩;generalize hmm:((m:Nat):Int)=mi
 have M0:0<=mi/\mi<6:=by omega
 clear hmm L0 A0
 by_cases h6:mi=5
 rotate_left
 ·have HT:=Z (l0 W1.drew dA i)
  have h7:mi=0\/mi=1\/mi=2\/mi=3\/mi=4:=(by omega);clear l0 i0 HM M0 h6 HN HW d0 HV e0 m0 y5;rcases h7 with rfl|rfl|rfl|rfl|rfl
  all_goals go_wp2
  all_goals go_end0
  ·exact HT 0 hi (by omega)
  ·exact HT 1 hi (by omega)
  ·exact HT 2 hi (by omega)
  ·exact HT 3 hi (by omega)
  exact HT 4 hi (by omega)
 subst h6;obtain⟨⟨n0,r0⟩,hlb⟩:=HN.li _ (mem_cons_of_mem _ HM);have p0:xn=xs.length:=by
  obtain⟨ia,ic,e,-⟩:=id n0;injection e
 simp only at r0
 by_cases h9:xn=0
 ·have C0:xs=[]:=Qi (by omega)
  obtain⟨rfl,rfl⟩:xa=none/\xc=0:=by
   have e:=HN.le.2 _ HM C0;injection e with e1 e2 e3;exact⟨e1,e3⟩
  obtain rfl:=h9;have HS:Y (∀V,D W1 V->M V g (i*6+5) K/\M V w.heap.size 3 (I c)):=λV hV=>⟨(i0 V hV).2.2.2.2.2,(d0 V hV).2.2.1⟩;have k0:Y (∀V,D W1 V->V.frozen? (O g (i*6+5))=false):=λV hV=>(HN.below (HV V hV)).ow.frozenAt _;obtain⟨i1,D0,E0,F0,G0⟩:=info_parts Tryz.infoIntW;have T0:B<=W1.heap.size:=(by have:=HW.1;omega);clear n0 hlb r0 p0 HM l0 i0 d0 m0 y0 y1 y2 y3 y4 z0 C0
  go_wp2_with fail
  refine Zk HS dA.drew [7,8,9] [11] [] (by kernel_rfl) (λ_ _ _ _ h=>h) (λops _=>?_)
  iterate 7 refine Zv rfl (by intros;go_simp<;>rfl) (by go_simp<;>rfl) ?_
  refine Zm ?_
  go_wp2_with fail
  obtain⟨W3,j0⟩:=J ((W1.alloc (.cells #[I c] 3)).drew.drew);rw[<-j0];have u0:Y (D W1 W3):=(by show Below _ _ _;rw[j0];exact bA.drew.drew);have tc:∀j u,([I c]:Vs)[j]?=some u->W3.cell? (((O W1.heap.size 0):Addr).add j)=some u:=(by rw[j0];exact zf4 (w:=W1) (l:=[I c]));have U0:W1.heap.size+1=W3.heap.size:=(by rw[j0];simp);clear j0;refine⟨HS _ u0,?_⟩;refine Zm ?_
  go_wp2_with (at_builtin;refine Ap underlying27 D0 E0 F0 G0 rfl (ownsRow_nil W3 B 3 1) rfl [I c] rfl rfl tc (by intro u hu;simp at hu;subst hu;rfl) (by unfold maxLen;omega) (by omega) (by omega) ?_)
  intro v' W4 a0 H0 N0;have g0:Y (D W1 W4):=u0.grown H0 u0.size (λk hk=>by cases hk);have HF:Y (zw3 B Wb (A la ln lc) (Sq g 0 acc.length nc) w (.returned (.tuple #[])) (W4.setCell (O g (i*6+5)) v')):=yn0 (c:=c) (k:=5) (HN.below (HV _ g0)) hi (by omega) (λh=>by omega) (λ_=>⟨yv5 (ns:=[c]) a0,Jg (ns:=[c]) a0⟩) (HV _ g0) HW.1 HW.2;obtain⟨g4,k4,rfl⟩:∃g4 k4,v'=Sq g4 0 1 k4:=by
   rcases a0.2 with⟨h1,h2⟩|⟨g4,cp,cur,h1,_⟩
   ·omega
   exact⟨g4,cp,h1⟩
  have f4:=k0 _ g0.out;have c5':=(HS _ g0).1;clear a0 H0 N0 tc D0 E0 F0 G0 HN HW
  go_wp2_with fail
  refine⟨HS _ g0,?_⟩;refine Zm ?_
  go_wp2_with fail
  refine⟨HS _ g0,?_⟩;refine Zv rfl (by intros;go_simp<;>rfl) (by go_simp<;>rfl) ?_;refine Xx ?_
  go_wp2_with fail
  refine Zs ?_;go_wp2
  go_end0
  exact HF
 have V0:0<(xn:Int):=by omega
 have I0:Y (∀j,j<xn->∃b0 off x,xa=some (O b0 off)/\(∀V,D W1 V->M V b0 (off+j) x/\V.frozen? (O b0 (off+j))=false/\zw3 B Wb (A la ln lc) (Sq g 0 acc.length nc) w (.returned (.tuple #[])) (V.setCell (O b0 (off+j)) (I c)))):=λj hj=>by
  obtain⟨b0,off,cap,e,-,-,-,h9⟩:=zmx n0 (i:=j) (by simp only;omega);injection e with e1 _ _;obtain⟨O0,hL⟩:=hlb (λe9=>by have h8:xs=[]:=e9;rw[h8]at p0;simp at p0;omega) b0 (by rw[e1];rfl);refine⟨b0,off,I (xs.getD j 0),e1,λV hV=>?_⟩;have q0:=HV V hV;obtain⟨cs,h2⟩:=hL.of (q0.block b0 hL.lt);exact⟨cT q0 hL.lt h9,by simp[frozen?,h2],yov (HN.below q0) ⟨cs,h2⟩ O0 q0 HW.1 HW.2⟩
 have HS:Y (∀V,D W1 V->M V g (i*6+5) (A xa xn xc)/\M V w.heap.size 2 (I b)/\M V w.heap.size 3 (I c)):=λV hV=>⟨(i0 V hV).2.2.2.2.2,(d0 V hV).2.1,(d0 V hV).2.2.1⟩;have P0: -9223372036854775808<=b.tdiv 6/\b.tdiv 6<=9223372036854775807:=by
  have hb:=m0.out;have hs:Int.sign 6=1:=rfl;rw[Int.tdiv_eq_ediv]
  split<;>omega
 have J0:=Z (λV=>zs0 (b.tdiv 6) xn V P0 ⟨by omega,by omega⟩);clear n0 hlb r0 p0 HN HW HM HV e0 l0 i0 d0 m0 y0 y1 y2 y3 y4 z0
 go_wp2_with fail
 refine Vq HS dA.drew [(0,0),(0,1),(0,2),(0,3),(0,4),(0,5),(0,6),(0,7),(0,8),(0,9),(0,10),(0,11),(0,13),(0,14),(1,12),(0,15),(2,16)] [16] [] (by kernel_rfl) (λ_ _ _ _ h=>h) (λops _=>?_)
 iterate 14 refine Zv rfl (by intros;go_simp<;>rfl) (by go_simp<;>rfl) ?_
 refine Zm ?_
 go_wp2_with fail
 refine(J0 _).mono ?_;rintro e4 W4 ⟨⟨j,hj,rfl⟩,rfl⟩;obtain⟨b0,off,x,rfl,hf⟩:=I0 j hj;obtain⟨f1,f2,f3⟩:=hf W1.drew.drew dA.drew;have Q0:=Z f3
 have W0:(j:Int)<(xn:Int):=by omega
 clear hf f3 I0 J0
 go_wp2_with fail
 refine⟨HS _ dA.drew,?_⟩;refine Zv rfl (by intros;go_simp<;>rfl) (by go_simp<;>rfl) ?_;refine Xx ?_
 go_wp2_with fail
 refine Zs ?_;go_wp2
 go_end0
 exact Q0
end
end Go.Proofs.YtgmbnnpnefniiaaGreatDoor
