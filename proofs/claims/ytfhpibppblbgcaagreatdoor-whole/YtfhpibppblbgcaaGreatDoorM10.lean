import Derived.Test.YtfhpibppblbgcaaGreatDoorM09
import Derived.Maps.RangeWalk
set_option linter.all false
set_option maxRecDepth 100000
set_option maxHeartbeats 40000000
namespace Go.Proofs.YtfhpibppblbgcaaGreatDoor
open Go.RowKit Go.Proofs.Tryz
variable{w w' w0 wr V:World}{base n nb Xb T B Fb Pb Lb i U:Nat}{ns vs l:List Int}{k u a b c x:Int}{v wv wv' bD bF bv vv:Value}{xs lvs lvs':List Value}{acc ac:List Fl.ar}{S:Nat->Prop}{p:Fl.aS}
def Tryz.infoIntW:(Tryz.prog.info? 3).map (λi=>(i.zero,i.size,i.bytes))=some (some (Iq 0),1,8):=by kernel_rfl
namespace Fl
def iD(W:List ar->aa->Int×List ar)(s:aa):∀(l:List aa) (ws:List ar),bJ W ws (l++[s])=((bJ W ws l).1++[(W (bJ W ws l).2 s).1],(W (bJ W ws l).2 s).2)
 |[],_=>rfl
 |a::l,ws=>by simp only[List.cons_append,bJ,iD W s l]
def ii(W:List ar->aa->Int×List ar):∀(l:List aa) (ws:List ar),(bJ W ws l).1.length=l.length
 |[],_=>rfl
 |a::l,ws=>by simp only[bJ,List.length_cons,ii W l]
end Fl
def yy5{lv:Value}(h:w.ownsRow base 3 1 lv ns.length (ns.map (Value.int .i64))):Zv w.heap.size w lv ns:=by
 rcases id h.2 with⟨rfl,h0⟩|⟨g,cap,cur,rfl,hb,hg,b0,c0,d0,ht⟩
 ·exact⟨none,0,by rw[h0],by omega,by rw[h0];simp[maxLen],λa0=>absurd (Qi h0) a0⟩
 refine⟨_,cap,rfl,by omega,by omega,λ_=>⟨g,0,rfl,(h.lt g rfl).2,λi hi=>?_⟩⟩;have h4:=h.cells (g:=g) rfl i (Iq (ns.getD i 0)) (by rw[List.getElem?_map,Qa,Qb hi];rfl)
 have h5:((Aq g 0):Addr).add i=(Aq g i):=by unfold Addr.add;split<;>simp_all
 rw[h5]at h4;rw[Nat.zero_add];exact h4
def zwz{lv:Value}(h:w.ownsRow base 3 1 lv ns.length (ns.map (Value.int .i64))):∀b,lv.ownBlock=some b->base<=b/\zw0 w b:=λb hb=>by
 refine⟨(h.lt b hb).1,?_⟩;rcases id h.2 with⟨rfl,h0⟩|⟨g,cap,cur,rfl,a0,hg,-⟩
 ·cases hb
 injection hb with hb;subst hb;exact⟨cur,_,hg⟩
def yi1{e:TypeId}{k:Nat}(h:w.ownsRow base e k v n xs)(hv:∀g,v.ownBlock=some g->w'.heap[g]?=w.heap[g]?):w'.ownsRow base e k v n xs:=by
 refine⟨h.1,?_⟩;rcases h.2 with⟨rfl,h0⟩|⟨g,cap,cur,rfl,hb,hg,hr⟩
 ·exact .inl ⟨rfl,h0⟩
 exact .inr ⟨g,cap,cur,rfl,hb,by rw[hv g rfl];exact hg,hr⟩
def zm6(h:w.ownsRow base 176 6 v n xs):∀b,v.ownBlock=some b->¬zw0 w b:=λb hb hl=>by
 rcases id h.2 with⟨rfl,h0⟩|⟨g,cap,cur,rfl,a0,hg,-⟩
 ·cases hb
 injection hb with hb;subst hb;obtain⟨cs,fr,h5⟩:=hl;rw[hg]at h5;injection h5 with h5;injection h5 with _ h6;exact absurd h6 (by decide)
def zq0{cs:Array Value}{t:TypeId}{fr:Nat×Nat}(h:w.heap[nb]?=some (.cells cs t fr))(j:Nat)(v:Value):(w.setCell (Aq nb j) v).heap[nb]?=some (.cells (cs.setIfInBounds j v) t fr):=by
 have hl:nb<w.heap.size:=by
  rcases Nat.lt_or_ge nb w.heap.size with h'|h'
  ·exact h'
  rw[Array.getElem?_eq_none h']at h;cases h
 have h2:w.heap[nb]=.cells cs t fr:=by rw[Array.getElem?_eq_getElem hl]at h;injection h
 have a0:nb<(w.setCell (Aq nb j) v).heap.size:=by rw[Zy];exact hl
 rw[Array.getElem?_eq_getElem a0];simp only[World.setCell];rw[Array.getElem_modify];simp[h2]
def Ya.aJ(h:Ya w0 w Xb T B Fb wv acc lvs){row:Option Nat}(hg:w.grownBy w' row)(hr:∀c,row=some c->Xb<c/\wv.ownBlock≠some c/\∀p,p∈Vu acc lvs->p.2≠[]->p.1.ownBlock≠some c):Ya w0 w' Xb T B Fb wv acc lvs:=by
 obtain⟨x1,x2,x3⟩:=h.x0
 have ne:∀c,c<=Xb->some c≠row:=λc hc hh=>by have:=(hr c hh.symm).1;omega
 have a0:wv.ownBlock=none\/wv.ownBlock≠row:=by
  cases hw:wv.ownBlock with
  |none=>exact .inl rfl
  |some g=>exact .inr (λhh=>(hr g hh.symm).2.1 hw)
 refine⟨h.x0,Qj h.hz hg.size,hg.cell h.c0 (ne Xb (Nat.le_refl _)),hg.cell h.c1 (ne Xb (Nat.le_refl _)),hg.cell h.c2 (ne Xb (Nat.le_refl _)),λj=>(Qd (w:=w) (hg.block Xb h.hz (ne Xb (Nat.le_refl _)))).trans (h.fz j),h.se.kept hg (ne T (by omega)) (ne B (by omega)),h.hl,h.ow.kept hg a0,λp hp=>?_,h.be.grown hg (by have:=h.hz;omega) (λk hk=>by have:=(hr k hk).1;omega)⟩;obtain⟨k1,k2⟩:=h.li p hp;have hn:p.2≠[]->∀b,p.1.ownBlock=some b->some b≠row:=λh1 b hb hh=>(hr b hh.symm).2.2 p hp h1 hb;exact⟨⟨zj2 k1.1 hg hn,k1.2⟩,λh1 b hb=>⟨(k2 h1 b hb).1,(k2 h1 b hb).2.of (hg.block b (k2 h1 b hb).2.lt (hn h1 b hb))⟩⟩
def Xz.grown{w'':World}(h:Xz w w' Xb B wv wv'){row:Option Nat}(hg:w'.grownBy w'' row)(hr:∀c,row=some c->w.heap.size<=c):Xz w w'' Xb B wv wv':=
 ⟨hg.os.trans h.os,hg.tape.trans h.tp,hg.output.trans h.ou,Nat.le_trans h.sz hg.size,λc h1 h2 h3 h4=>(hg.block c (Qj h1 h.sz) (λhh=>by have:=hr c hh.symm;omega)).trans (h.bl c h1 h2 h3 h4),h.ow⟩
structure zo0(w0 w wr:World)(Xb T B Fb nb:Nat)(wv wv':Value)(u:Nat)(acc:List Fl.ar)(lvs:List Value)(ns:List Int)(ac:List Fl.ar)(lvs':List Value)(lv:Value):Prop where
 wi:Ya w0 wr Xb T B Fb wv' ac lvs'
 st:Xz w wr Xb B wv wv'
 ne:some nb≠wv'.ownBlock
 lo:Jh (λ_=>False) w acc lvs ac lvs'
 ll:∀p,p∈Vu ac lvs'->p.2≠[]->∀b,p.1.ownBlock=some b->lv.ownBlock≠some b
 ow:wr.ownsRow (nb+1) 3 1 lv ns.length (ns.map (Value.int .i64))
 nd:wr.heap[nb]?=some (.cells #[Iq 7,Iq u,Iq 0,Iq 0,Iq 0,lv] 176 (0,0))
def zo0.next{W1 W2 W3:World}{wv1:Value}{u:Nat}{ac1:List Fl.ar}{lvs1:List Value}{lv v':Value}{m:Int}(h:zo0 w0 w wr Xb T B Fb nb wv wv' u acc lvs ns ac lvs' lv)(f0:w.heap.size<=nb)(hX:Xb<nb)(hB:nb≠B)
  (h1:Ya w0 W1 Xb T B Fb wv1 ac1 lvs1) (hs:Xz wr W1 Xb B wv' wv1) (hl:Jh (λ_=>False) wr ac lvs' ac1 lvs1) (hb:Bq W1 W2) (ho:W3.ownsRow (nb+1) 3 1 v' (ns.length+1) (ns.map (Value.int .i64)++[Iq m])) (hg:W2.grownBy W3 lv.ownBlock) (hw:v'.ownBlock=lv.ownBlock\/v'.ownBlock=some W2.heap.size):
  zo0 w0 w (W3.setCell (Aq nb 5) v') Xb T B Fb nb wv wv1 u acc lvs (ns++[m]) ac1 lvs1 v':=by
 have k0:=h.wi.x0;have g0:nb<wr.heap.size:=by
  rcases Nat.lt_or_ge nb wr.heap.size with h'|h'
  ·exact h'
  have h5:=h.nd;rw[Array.getElem?_eq_none h']at h5;cases h5
 have cF:=hs.sz;have l0:=hb.size;have m0:=hg.size
 have a0:∀g,lv.ownBlock=some g->nb<g/\g<wr.heap.size:=λg hh=>by have:=h.ow.lt g hh;omega
 have b0:some nb≠wv1.ownBlock:=λhh=>by
  rcases hs.ow with e|⟨g,e,h0⟩
  ·exact h.ne (hh.trans e)
  rw[e]at hh;injection hh with hh;omega
 have ll1:∀p,p∈Vu ac1 lvs1->p.2≠[]->∀b,p.1.ownBlock=some b->lv.ownBlock≠some b:=λp hp hn b c0 hh=>by
  rcases hl p hp with h5|h5|h5|h5
  ·exact h.ll p h5 hn b c0 hh
  ·exact h5
  ·exact hn h5
  have:=h5 b c0;have:=a0 b hh;omega
 have i0:=h1.below hb
 have d0:∀c,lv.ownBlock=some c->wv1.ownBlock≠some c:=λc hc hh=>by
  rcases hs.ow with e|⟨g,e,h0⟩
  ·exact zm6 h.wi.ow c (e.symm.trans hh) (zwz h.ow c hc).2
  rw[e]at hh;injection hh with hh;have:=a0 c hc;omega
 have j0:Ya w0 W3 Xb T B Fb wv1 ac1 lvs1:=i0.aJ hg (λc hc=>⟨by have:=a0 c hc;omega,d0 c hc,λp hp hn hh=>ll1 p hp hn c hh hc⟩);have e0:W3.heap[nb]?=some (.cells #[Iq 7,Iq u,Iq 0,Iq 0,Iq 0,lv] 176 (0,0)):=by
  refine(hg.block nb (by omega) (λhh=>by have:=a0 nb hh.symm;omega)).trans ((hb.block nb (by omega)).trans ((hs.bl nb g0 (by omega) hB h.ne).trans h.nd))
 have cG:Xz w W3 Xb B wv wv1:=(((h.st.trans hs).trans (Xz.cW hb)).grown hg (λc hc=>by have:=a0 c hc;omega));refine⟨j0.mN hX e0 b0 5 v',cG.set f0 5 v',b0,h.lo.trans h.st.sz hl,λp hp hn b c0 hh=>?_,?_,?_⟩
 ·rcases hw with e|e
  ·exact ll1 p hp hn b c0 (e.symm.trans hh)
  rw[e]at hh;injection hh with hh;have:=((h1.li p hp).2 hn b c0).2.lt;omega
 ·have h5:(W3.setCell (Aq nb 5) v').ownsRow (nb+1) 3 1 v' (ns.length+1) (ns.map (Value.int .i64)++[Iq m]):=ownsRow_setCell_below ho (by simp) v'
  rw[List.length_append,List.map_append];exact h5
 exact zq0 e0 5 v'
section
def zk5(N:Nat)(hN:N<=20000000)(d:Nat)(St:List Fl.ar->Fl.aa->Int×List Fl.ar)(u:Nat)(hu:u<=6)(v:Value)(l:List Fl.aa)(hF:Vb w0 Fb Pb Lb bD bF bv vv S p vs)(hl:Zh (d+1) S w0 v l)
  (cG:∀V wv' acc' lvs' pv s,s∈l->zz6 (Zh d) S w0 pv s->Ya w0 V Xb T B Fb wv' acc' lvs'->acc'.length<=N->Cq 121 #[Pq Xb,pv,Iq u] V (Vk (λ_=>False) w0 V Xb T B Fb wv' acc' lvs' (St acc' s)))
  (I0:∀k,k<=l.length->(Fl.bJ St acc (l.take k)).2.length<=N/\∀n∈(Fl.bJ St acc (l.take k)).1,0<=n/\n<=20000000) (h:Ya w0 w Xb T B Fb wv acc lvs):
  Cq 69 #[Pq Xb,v,Iq u] w (Vk (λ_=>False) w0 w Xb T B Fb wv acc lvs (Fl.cO (Fl.bJ St acc l).2 ⟨7,(u:Int),0,0,0,(Fl.bJ St acc l).1⟩)):=by
 obtain⟨ao,cap,rfl,Y0,Z0,x1,l0⟩:=id hl;have A0:=Zz l0;have a1:=Zz cG;have J0:=Zz I0;have HH:=Zz h;have b1:=Zz hF.hS;obtain⟨nb,hnb⟩:=nmE (w.heap.size);obtain⟨W0,r0⟩:=nmE (w.alloc (.cells #[Iq 7,Iq u,Iq 0,Iq 0,Iq 0,Zq] 176));have B0:Hid (zo0 w0 w W0 Xb T B Fb nb wv wv u acc lvs [] acc lvs Zq):=by
  have hb:Bq w W0:=(by rw[r0];exact bA);refine⟨h.below hb,Xz.cW hb,λhh=>?_,Jh.refl _ _ _ _,λp hp hn b hb2 hh=>(by cases hh),World.ownsRow_nil _ _ _ _,by rw[r0,hnb];exact heap_alloc_last _ _⟩;have:=(h.ow.lt nb hh.symm).2;omega
 have c1:Xb<nb:=by rw[hnb];exact h.hz
 have K0:Hid (nb≠B):=by have:=h.x0;show nb≠B;omega
 have y1:(l.length:Int)<=16:=by omega
 have L0:=Zz hnb;unfold maxLen at Z0;obtain⟨RES,k0⟩:=nmE (Fl.cO (Fl.bJ St acc l).2 ⟨7,(u:Int),0,0,0,(Fl.bJ St acc l).1⟩);rw[<-k0];have M0:=Zz k0;clear hl l0 cG I0 h hF k0
 go_enter func69,ntmps69
 go_wp2;rw[<-r0,<-hnb];clear r0 hnb
 go_loopw [14] (λi wr=>∃(k:Nat) (lv wv':Value) (lvs':List Value),k<=l.length/\i=Iq k/\zo0 w0 w wr Xb T B Fb nb wv wv' u acc lvs (Fl.bJ St acc (l.take k)).1 (Fl.bJ St acc (l.take k)).2 lvs' lv) (λi _=>l.length - (intOf i).toNat)
 case atStart=>exact⟨0,_,_,_,by omega,rfl,B0⟩
 case round=>
  obtain⟨k,lv,wv',lvs',hk,rfl,a0⟩:=hrel
  by_cases e0:k<l.length
  ·obtain⟨b,off,rfl,N0,g0⟩:=A0 (by intro e;rw[e]at e0;cases e0)
   obtain⟨pv,O0,s0⟩:=g0 k e0;obtain⟨s,hs⟩:=nmE (l.getD k noS);have C0:s=l[k]:=(by rw[hs,Qa,Qb e0];rfl);have dW:s∈l:=(by rw[C0];exact List.getElem_mem e0);rw[<-hs]at s0;obtain⟨la,lc,i0⟩:∃la lc,lv=.slice la (Fl.bJ St acc (l.take k)).1.length lc:=by
    rcases id a0.ow.2 with⟨rfl,h0⟩|⟨g,cp,cur,rfl,-⟩
    ·exact⟨none,0,by rw[h0]⟩
    exact⟨_,cp,rfl⟩
   have t0:Hid (Fl.bJ St acc (l.take (k+1))=((Fl.bJ St acc (l.take k)).1++[(St (Fl.bJ St acc (l.take k)).2 s).1],(St (Fl.bJ St acc (l.take k)).2 s).2)):=by
    show _=_;rw[List.take_succ_eq_append_getElem e0,<-C0,Fl.iD]
   have P0:=(J0 k hk).1;have d1:(Fl.bJ St acc (l.take k)).1.length<=16:=(by rw[Fl.ii,List.length_take];omega);generalize hE:Fl.bJ St acc (l.take k)=E at*;obtain⟨ns,ac⟩:=E;simp only at a0 i0 t0 P0 d1;have j0:Hid (Cq 121 #[Pq Xb,pv,Iq u] wr.drew (Vk (λ_=>False) w0 wr.drew Xb T B Fb wv' ac lvs' (St ac s))):=a1 _ _ _ _ _ _ dW s0 (a0.wi.below dA) P0;obtain⟨rr,Q0⟩:=nmE (St ac s);obtain⟨m,ac1⟩:=rr;have hR:=Q0.symm;clear Q0;have hbz:b<w0.heap.size:=b1 b N0;have f0:wr.cell? (Aq b (off+k))=some pv:=(a0.wi.be.cell (p:=(Aq b (off+k))) hbz).trans O0;have f1:∃sb,pv=Pq sb:=(by obtain⟨sb,-,-,-,e,-⟩:=s0;exact⟨sb,e⟩);obtain⟨sb,rfl⟩:=f1;have b0:=Zz a0;have g1:nb<wr.heap.size:=by
    rcases Nat.lt_or_ge nb wr.heap.size with h'|h'
    ·exact h'
    have h5:=a0.nd;rw[Array.getElem?_eq_none h']at h5;cases h5
   have u0:Hid (∀V:World,V.heap[nb]?=wr.heap[nb]?->V.cell? (Aq nb 5)=some (.slice la ns.length lc)/\V.cell? (Aq nb 0)=some (Iq 7)):=λV hV=>by
    have h5:=hV.trans b0.nd;rw[i0]at h5;exact⟨by simp only[World.cell?,h5];rfl,by simp only[World.cell?,h5];rfl⟩
   have j1:Hid (∀V:World,(V.cell? (Aq nb 5)=some (.slice la ns.length lc)/\V.cell? (Aq nb 0)=some (Iq 7))->(V.cell? (Aq nb 5)=some (.slice la ns.length lc)/\V.cell? (Aq nb 0)=some (Iq 7))):=λ_ h=>h;have D0:=Zz i0;have k1:(k:Int)<(l.length:Int):=(by omega);have l1:=Zz e0;have z1:=Zz hE;have A1:=Zz hR;rw[hR]at j0 t0;simp only at t0;clear g0 O0 N0 dW C0 hs s0 a0 hE hR e0 i0
   go_wp2_with fail
   refine Zp j1 (u0 _ rfl) [5,6,7] [9] [] (by kernel_rfl) (λc a d v w h=>by cases d<;>exact h) (λops _=>?_)
   iterate 5 refine Zw rfl (by rintro _ ⟨_,_⟩;go_simp<;>rfl) (by go_simp<;>rfl) ?_
   refine Zt ?_
   go_wp2_with fail
   refine j0.mono ?_;rintro e1 W1 ⟨rfl,wv1,lvs1,R0,m0,n0⟩;have m1:=Zz R0;have v0:Hid (Xz wr W1 Xb B wv' wv1):=(Xz.cW dA).trans m0;have n1:=Zz n0;have S0:W1.heap[nb]?=wr.heap[nb]?:=v0.bl nb g1 (by omega) K0 b0.ne;have o1:Hid (W1.ownsRow (nb+1) 3 1 (.slice la ns.length lc) ns.length (ns.map (Value.int .i64))):=by
    rw[<-D0.out];refine yi1 b0.ow (λg hg=>v0.bl g (b0.ow.lt g hg).2 (by have:=(b0.ow.lt g hg).1;omega) (λe=>?_) (λhh=>zm6 b0.wi.ow g hh.symm (zwz b0.ow g hg).2));have h5:=(b0.ow.lt g hg).1;have h6:=b0.wi.x0;omega
   have B1:=v0.sz;have E0:=Zz S0;clear R0 m0 n0 S0
   go_wp2_with fail
   refine⟨u0 _ E0,?_⟩;refine Zt ?_
   go_wp2_with fail
   obtain⟨W2,o0⟩:=nmE (W1.alloc (.cells #[Iq m] 3));rw[<-o0];have y0:Hid (Bq W1 W2):=(by show Below _ _ _;rw[o0];exact bA);have tc:∀j u,([Iq m]:List Value)[j]?=some u->W2.cell? (((Aq W1.heap.size 0):Addr).add j)=some u:=(by rw[o0];exact yz5 (w:=W1) (l:=[Iq m]));have C1:W1.heap.size+1=W2.heap.size:=(by rw[o0];simp);have T0:Hid (W2.ownsRow (nb+1) 3 1 (.slice la ns.length lc) ns.length (ns.map (Value.int .i64))):=zl7 o1 y0.out;obtain⟨i1,p1,r1,s1,t1⟩:=info_parts Tryz.infoIntW;have U0:=u0 W2 ((y0.block nb (by omega)).trans E0);clear o0;refine⟨U0,?_⟩;refine Zt ?_
   go_wp2_with (at_builtin;refine Zj _ rfl (.tmp 19) (.tmp 24) 36 rfl (nb+1) 3 i1 (Iq 0) 1 8 underlying36 p1 r1 s1 t1 rfl (by decide) _ _ _ rfl T0 (Aq W1.heap.size 0) 1 1 [Iq m] rfl rfl (by decide) tc (by intro u hu;simp at hu;subst hu;rfl) (by unfold maxLen;omega) (by omega) (by omega) ?_)
   intro v' W3 d0 F0 V0;obtain⟨g3,k3,rfl⟩:∃g3 k3,v'=.slice (some (Aq g3 0)) (ns.length+1) k3:=by
    rcases d0.2 with⟨h1,h2⟩|⟨g3,cp,cur,h1,_⟩
    ·omega
    exact⟨g3,cp,h1⟩
   have G0:Hid (zo0 w0 w (W3.setCell (Aq nb 5) (.slice (some (Aq g3 0)) (ns.length+1) k3)) Xb T B Fb nb wv wv1 u acc lvs (ns++[m]) ac1 lvs1 (.slice (some (Aq g3 0)) (ns.length+1) k3)):=zo0.next b0 (by rw[L0.out];exact Nat.le_refl _) c1 K0 m1 v0 n1 y0 d0 (by rw[D0.out];exact F0) (by rw[D0.out];exact V0);have H0:W3.heap[nb]?=wr.heap[nb]?:=(F0.block nb (by omega) (λhh=>by have:=(T0.lt nb hh.symm).1;omega)).trans ((y0.block nb (by omega)).trans E0);have X0:=u0 W3 H0;have c3:=X0.1;have f3:W3.frozen? (Aq nb 5)=false:=(by have h5:=H0.trans b0.nd;simp[World.frozen?,h5]);clear d0 F0 V0 H0 tc U0
   go_wp2_with fail
   refine⟨X0,?_⟩;refine Zw rfl (by rintro _ ⟨_,_⟩;go_simp<;>rfl) (by go_simp<;>rfl) ?_;refine Xp ?_
   go_wp2_with fail
   refine Zu ?_;go_wp2
   go_roundw
   case rel=>exact⟨k+1,_,wv1,lvs1,by have:=l1.out;omega,by go_num,by rw[t0.out];exact G0.out⟩
   case measure=>simp[intOf];omega
  have u1:k=l.length:=(by omega);subst u1;rw[List.take_length]at a0;have c0:=J0 l.length (Nat.le_refl _);rw[List.take_length]at c0;have bj:=Fl.ii St l acc;generalize Fl.bJ St acc l=E at*;obtain⟨ns,ac⟩:=E;simp only at a0 c0 bj M0;obtain⟨la,lc,i0⟩:∃la lc,lv=.slice la ns.length lc:=by
   rcases id a0.ow.2 with⟨rfl,h0⟩|⟨g,cp,cur,rfl,-⟩
   ·exact⟨none,0,by rw[h0]⟩
   exact⟨_,cp,rfl⟩
  obtain⟨nd,z0⟩:=nmE (α:=Fl.ar) (⟨7,(u:Int),0,0,0,ns⟩);have p0:Fl.fits nd:=by
   have hR:∀z:Int,0<=z->z<=999999999->Fl.cq z=true:=λz h1 h2=>by simp only[Fl.cq,Bool.and_eq_true,decide_eq_true_eq];omega
   rw[z0];refine⟨hR _ (by show (0:Int)<=7;decide) (by show (7:Int)<=_;decide),hR _ (by show (0:Int)<=(u:Int);omega) (by show (u:Int)<=_;omega),hR _ (by show (0:Int)<=0;decide) (by show (0:Int)<=_;decide),hR _ (by show (0:Int)<=0;decide) (by show (0:Int)<=_;decide),hR _ (by show (0:Int)<=0;decide) (by show (0:Int)<=_;decide),by show ns.length<=16;omega,?_⟩;show ns.all Fl.cq=true;rw[List.all_eq_true];exact λz hz=>hR z (c0.2 z hz).1 (by have:=(c0.2 z hz).2;omega)
  have v1:Hid (Cq 122 #[Pq Xb,.agg #[Iq 7,Iq u,Iq 0,Iq 0,Iq 0,.slice la ns.length lc]] wr (Vk (λp=>p=(lv,ns)) w0 wr Xb T B Fb wv' ac lvs' RES)):=by
   have h5:=zu3 (lvn:=lv) a0.wi p0 (by rw[z0];exact yy5 a0.ow) (λ_ b hb=>⟨by have:=(zwz a0.ow b hb).1;omega,λhh=>zm6 a0.wi.ow b hh.symm (zwz a0.ow b hb).2,(zwz a0.ow b hb).2⟩) (by have:=c0.1;omega);unfold ndV at h5;rw[z0]at h5;simp only at h5;rw[M0.out];rw[i0]at h5⊢;exact h5
  have b0:=Zz a0;have h5:=a0.nd;rw[i0]at h5
  have q:∀j u',(#[Value.int .i64 7,Iq u,Iq 0,Iq 0,Iq 0,.slice la ns.length lc]:Array Value)[j]?=some u'->wr.cell? (Aq nb j)=some u':=λj u' hj=>by simp only[World.cell?,h5];exact hj
  have q0:=q 0 _ rfl;have q1:=q 1 _ rfl;have q2:=q 2 _ rfl;have q3:=q 3 _ rfl;have q4:=q 4 _ rfl;have q5:=q 5 _ rfl;clear q h5 a0 p0 z0 c0 bj i0
  go_wp2_with fail
  refine v1.mono ?_;rintro e W2 ⟨rfl,wv2,lvs2,h1,h2,h3⟩
  have HE:Hid (Vk (λ_=>False) w0 w Xb T B Fb wv acc lvs RES (.returned (Iq RES.1)) W2):=⟨rfl,wv2,lvs2,h1,b0.st.trans h2,λp hp=>by
   rcases h3 p hp with h|h|h|h
   ·exact b0.lo p h
   ·refine .inr (.inr (.inr λb hb=>?_))
    rw[h]at hb;have:=(zwz b0.ow b hb).1;have:=L0.out;omega
   ·exact .inr (.inr (.inl h))
   exact .inr (.inr (.inr λb hb=>Nat.le_trans b0.st.sz (h b hb)))⟩
  clear h1 h2 h3;go_wp2;go_ret;exact HE
end
structure Jv(w0 w V:World)(Xb T B Fb nb:Nat)(wv wv':Value)(acc:List Fl.ar)(lvs:List Value)(ac:List Fl.ar)(lvs':List Value)(k u a b c:Int):Prop where
 wi:Ya w0 V Xb T B Fb wv' ac lvs'
 st:Xz w V Xb B wv wv'
 ne:some nb≠wv'.ownBlock
 lo:Jh (λ_=>False) w acc lvs ac lvs'
 nd:V.heap[nb]?=some (.cells #[Iq k,Iq u,Iq a,Iq b,Iq c,Zq] 176 (0,0))
def Jv.lt(h:Jv w0 w V Xb T B Fb nb wv wv' acc lvs ac lvs' k u a b c):nb<V.heap.size:=by
 rcases Nat.lt_or_ge nb V.heap.size with h'|h'
 ·exact h'
 have h5:=h.nd;rw[Array.getElem?_eq_none h']at h5;cases h5
def Jv.cell{w0 w V:World}{Xb T B Fb nb:Nat}{wv wv':Value}{acc ac:List Fl.ar}{lvs lvs':List Value}{k u a b c:Int}(h:Jv w0 w V Xb T B Fb nb wv wv' acc lvs ac lvs' k u a b c)(j:Nat)(v:Value)(hj:(#[Value.int .i64 k,Iq u,Iq a,Iq b,Iq c,Zq]:Array Value)[j]?=some v):V.cell? (Aq nb j)=some v:=by
 simp only[World.cell?,h.nd];exact hj
def Jv.free(h:Jv w0 w V Xb T B Fb nb wv wv' acc lvs ac lvs' k u a b c)(j:Nat):V.frozen? (Aq nb j)=false:=by simp[World.frozen?,h.nd]
def Jv.below{w0 w V V':World}{Xb T B Fb nb:Nat}{wv wv':Value}{acc ac:List Fl.ar}{lvs lvs':List Value}{k u a b c:Int}(h:Jv w0 w V Xb T B Fb nb wv wv' acc lvs ac lvs' k u a b c)(hb:Bq V V'):Jv w0 w V' Xb T B Fb nb wv wv' acc lvs ac lvs' k u a b c:=
 ⟨h.wi.below hb,h.st.trans (Xz.cW hb),h.ne,h.lo,(hb.block nb h.lt).trans h.nd⟩
def Jv.call{V':World}{wv2:Value}{ac2:List Fl.ar}{lvs2:List Value}(h:Jv w0 w V Xb T B Fb nb wv wv' acc lvs ac lvs' k u a b c)(hX:Xb<nb)(hB:nb≠B)(h1:Ya w0 V' Xb T B Fb wv2 ac2 lvs2)(hs:Xz V V' Xb B wv' wv2)(hl:Jh (λ_=>False) V ac lvs' ac2 lvs2):Jv w0 w V' Xb T B Fb nb wv wv2 acc lvs ac2 lvs2 k u a b c:=by
 refine⟨h1,h.st.trans hs,λhh=>?_,h.lo.trans h.st.sz hl,(hs.bl nb h.lt (by omega) hB h.ne).trans h.nd⟩;rcases hs.ow with e|⟨g,e,a0⟩
 ·exact h.ne (hh.trans e)
 rw[e]at hh;injection hh with hh;have:=h.lt;omega
def Jv.set{w0 w V:World}{Xb T B Fb nb:Nat}{wv wv':Value}{acc ac:List Fl.ar}{lvs lvs':List Value}{k u a b c:Int}(h:Jv w0 w V Xb T B Fb nb wv wv' acc lvs ac lvs' k u a b c)(hX:Xb<nb)(hw:w.heap.size<=nb)(j:Nat)(v a' b' c':Int)(he:(#[Value.int .i64 k,Iq u,Iq a,Iq b,Iq c,Zq]:Array Value).setIfInBounds j (Iq v)=#[Iq k,Iq u,Iq a',Iq b',Iq c',Zq]):Jv w0 w (V.setCell (Aq nb j) (Iq v)) Xb T B Fb nb wv wv' acc lvs ac lvs' k u a' b' c':=by
 refine⟨h.wi.mN hX h.nd h.ne j _,h.st.set hw j _,h.ne,h.lo,?_⟩;have h5:=zq0 h.nd j (Iq v);rw[he]at h5;exact h5
def Jv.bE(h:Jv w0 w V Xb T B Fb nb wv wv' acc lvs ac lvs' k u a b c)(hk:0<=k/\k<=999999999)(hu:0<=u/\u<=999999999)(ha:0<=a/\a<=999999999)(hb:0<=b/\b<=999999999)(hc:0<=c/\c<=999999999)(hn:ac.length<=100000000):
  Cq 122 #[Pq Xb,.agg #[Iq k,Iq u,Iq a,Iq b,Iq c,Zq]] V (λe w'=>Vk (λ_=>False) w0 w Xb T B Fb wv acc lvs (Fl.cO ac ⟨k,u,a,b,c,[]⟩) e w'):=by
 have hR:∀z:Int,0<=z/\z<=999999999->Fl.cq z=true:=λz h1=>by simp only[Fl.cq,Bool.and_eq_true,decide_eq_true_eq];omega
 have h5:=zu3 (nd:=⟨k,u,a,b,c,[]⟩) (lvn:=Zq) h.wi ⟨hR _ hk,hR _ hu,hR _ ha,hR _ hb,hR _ hc,by simp,by simp⟩ ⟨none,0,rfl,by simp,by simp[maxLen],λhh=>absurd rfl hh⟩ (λhh=>absurd rfl hh) hn;refine h5.mono ?_;rintro e W ⟨h6,wv2,lvs2,h7,h8,h9⟩;refine⟨h6,wv2,lvs2,h7,h.st.trans h8,λp hp=>?_⟩;rcases h9 p hp with h1|h1|h1|h1
 ·rcases h.lo p h1 with h2|h2|h2|h2
  ·exact .inl h2
  ·exact h2.elim
  ·exact .inr (.inr (.inl h2))
  exact .inr (.inr (.inr h2))
 ·exact .inr (.inr (.inl (by rw[h1])))
 ·exact .inr (.inr (.inl h1))
 exact .inr (.inr (.inr λb hb=>Nat.le_trans h.st.sz (h1 b hb)))
section
def yrx(M:Nat)(hM:M<=20000000)(d:Nat)(u:Nat)(hu:u<p.n){pv:Value}{s:Fl.aa}(h1:zz6 (Zh d) S w0 pv s)(hF:Vb w0 Fb Pb Lb bD bF bv vv S p vs)(hv:vs.length<=100)(hk:Fl.eG vs.length p.aj.length s)(he:Fl.cX vs.length s.e)(ho:Fl.aT vs.length p.aj.length d s.aX/\Fl.aT vs.length p.aj.length d s.aJ)
  (IH:∀V wv' acc' lvs' v l (u':Nat),Zh d S w0 v l->Fl.aT vs.length p.aj.length d l->u'<p.n->Ya w0 V Xb T B Fb wv' acc' lvs'->acc'.length<=M->Cq 69 #[Pq Xb,v,Iq u'] V (Vk (λ_=>False) w0 V Xb T B Fb wv' acc' lvs' (Fl.aF p vs d acc' l u')))
  (hn:acc.length<=M) (b1 b2:Int×List Fl.ar) (lv:Nat) (elv:Fl.jn p u (Fl.br p vs s.e)=(lv:Int)) (I0:b1=Fl.aF p vs d (Fl.db p vs acc s.e).2 s.aX lv) (O0:b2=Fl.aF p vs d b1.2 s.aJ lv) (t0:((Fl.db p vs acc s.e).2.length<=M/\0<=(Fl.db p vs acc s.e).1/\(Fl.db p vs acc s.e).1<=20000000)/\(b1.2.length<=M/\0<=b1.1/\b1.1<=20000000)/\b2.2.length<=M/\0<=b2.1/\b2.1<=20000000) (h:Ya w0 w Xb T B Fb wv acc lvs):
  Cq 121 #[Pq Xb,pv,Iq u] w (Vk (λ_=>False) w0 w Xb T B Fb wv acc lvs (Fl.dt (Fl.aF p vs d) p vs u acc s)):=by
 obtain⟨sb,vp,fv,ev,rfl,i1,r0,n0,V0,X0⟩:=h1;have cF:sb<w0.heap.size:=hF.hS sb i1;have h6:=hF.lv.lv.n6
 have u0:Hid (∀V,Bq w0 V->Cl V sb 0 (Iq s.kind)/\Cl V sb 2 (Iq s.x)/\Cl V sb 3 vp/\Cl V sb 4 fv/\Cl V sb 5 ev):=λV hV=>by
  have q:∀j,V.cell? (Aq sb j)=w0.cell? (Aq sb j):=λj=>hV.cell (p:=(Aq sb j)) cF;exact⟨(q 0).trans (r0.c 0 (by omega)),(q 2).trans (r0.c 2 (by omega)),(q 3).trans (r0.c 3 (by omega)),(q 4).trans (r0.c 4 (by omega)),(q 5).trans (r0.c 5 (by omega))⟩
 obtain⟨vl,P0,evl⟩:=zv7 hF.lv.lv hF.ok he;obtain⟨lv',hlv',elv'⟩:=hF.lv.lv.join hu P0;have j1:lv'=lv:=by
  have h5:Fl.jn p u (Fl.br p vs s.e)=(lv':Int):=(by unfold Fl.jn;rw[evl];exact elv');rw[elv]at h5;omega
 subst j1;have l0:Hid (∀V wv' lvs',Ya w0 V Xb T B Fb wv' acc lvs'->Cq 151 #[Pq Xb,vp] V (Vk (λ_=>False) w0 V Xb T B Fb wv' acc lvs' (Fl.db p vs acc s.e))):=λV wv' lvs' hV=>yry hV hF n0 he hv (by omega)
 have Y0:Hid (∀V,Bq w0 V->Cq 150 #[Pq Fb,vp] V λr w'=>r=.returned (Iq (vl:Nat))/\Bq V w'):=λV hV=>by
  have h5:=zt7 (hF.below hV) (n0.kept (λ_ h=>h) (λb hb=>hV.block b (hF.hS b hb))) he;rw[evl]at h5;exact h5
 have HJ:Hid (∀V,Bq w0 V->Cq 67 #[Pq Lb,Iq u,Iq vl] V λr w'=>r=.returned (Iq (lv':Nat))/\w'=V):=λV hV=>by
  have h5:=zp8 (hF.below hV).lv.la h6 u vl hu P0;rw[elv']at h5;exact h5
 have Q0:Hid (∀V,Bq w0 V->Cl V Fb 0 (Pq Pb)/\Cl V Pb 0 (Pq Lb)):=λV hV=>⟨(hF.below hV).c0,(hF.below hV).lv.p0⟩;obtain⟨v1,R0⟩:=nmE (Fl.db p vs acc s.e);rw[<-R0]at l0 t0 I0
 have S0:Hid (∀V wv' lvs',Ya w0 V Xb T B Fb wv' v1.2 lvs'->Cq 69 #[Pq Xb,fv,Iq lv'] V (Vk (λ_=>False) w0 V Xb T B Fb wv' v1.2 lvs' b1)):=λV wv' lvs' hV=>by rw[I0];exact IH V wv' _ lvs' fv s.aX lv' V0 ho.1 hlv' hV t0.1.1
 have Z0:Hid (∀V wv' lvs',Ya w0 V Xb T B Fb wv' b1.2 lvs'->Cq 69 #[Pq Xb,ev,Iq lv'] V (Vk (λ_=>False) w0 V Xb T B Fb wv' b1.2 lvs' b2)):=λV wv' lvs' hV=>by rw[O0];exact IH V wv' _ lvs' ev s.aJ lv' X0 ho.2 hlv' hV t0.2.1.1
 have b0:Hid (Fl.dt (Fl.aF p vs d) p vs u acc s=if s.kind=5 then Fl.cO b2.2 ⟨5,u,v1.1,b1.1,b2.1,[]⟩ else if s.kind=6 then Fl.cO b1.2 ⟨6,u,v1.1,b1.1,0,[]⟩ else Fl.cO v1.2 ⟨s.kind,u,s.x,v1.1,0,[]⟩):=by
  show _=_;unfold Fl.dt;simp only;rw[elv,<-R0,<-I0,<-O0]
 obtain⟨RES,a1⟩:=nmE (Fl.dt (Fl.aF p vs d) p vs u acc s);rw[<-a1]at b0⊢;obtain⟨nb,hnb⟩:=nmE (w.heap.size);obtain⟨W0,J0⟩:=nmE (w.alloc (.cells #[Iq s.kind,Iq u,Iq 0,Iq 0,Iq 0,Zq] 176));have T0:Hid (Jv w0 w W0 Xb T B Fb nb wv wv acc lvs acc lvs s.kind u 0 0 0):=by
  have hb:Bq w W0:=(by rw[J0];exact bA);refine⟨h.below hb,Xz.cW hb,λhh=>?_,Jh.refl _ _ _ _,by rw[J0,hnb];exact heap_alloc_last _ _⟩;have:=(h.ow.lt nb hh.symm).2;omega
 have f0:Xb<nb:=by rw[hnb];exact h.hz
 have K0:nb≠B:=by have:=h.x0;have:=h.hz;omega
 have o0:w.heap.size<=nb:=by omega
 have p1:s.kind<=6:=by rcases hk with h|h|h|h<;>omega
 have k1:Hid (s.kind=3\/s.kind=4->s.x<=100):=λhh=>by
  rcases hk with h|h|h|h
  ·omega
  ·have:=hF.pk.ch;omega
  ·omega
  omega
 have l1:Hid ((s.kind=3\/s.kind=4)\/s.kind=5\/s.kind=6):=by rcases hk with h|h|h|h<;>(show (_\/_)\/_;omega)
 have j0:=Zz t0;obtain⟨s0,-,t3,-⟩:=u0 w h.be;have r1:sb<w.heap.size:=Qj cF h.be.size;have s1:Fb<w0.heap.size:=hF.hF;generalize s.kind=kd at*;generalize s.x=xx at*;obtain⟨v1n,v1l⟩:=v1;obtain⟨b1n,b1l⟩:=b1;obtain⟨b2n,b2l⟩:=b2;simp only at S0 Z0 b0 j0 l0;clear r0 n0 V0 X0 hF he ho IH R0 I0 O0 t0 a1 hk h evl elv elv' P0 hlv';unfold ptr
 go_enter func121,ntmps121
 go_wp2_with fail
 rw[<-J0,<-hnb];clear J0 hnb s0;refine(l0 _ _ _ T0.wi).mono ?_;rintro e1 W1 ⟨rfl,wv1,lvs1,c1,v0,y0⟩;have z0:Hid (Jv w0 w W1 Xb T B Fb nb wv wv1 acc lvs v1l lvs1 kd u 0 0 0):=T0.call f0 K0 c1 v0 y0
 have L0:Hid (∀V,Bq W1 V->Cl V Xb 0 (Pq Fb)/\Cl V Fb 0 (Pq Pb)/\Cl V Pb 0 (Pq Lb)/\Cl V sb 3 vp):=λV hV=>by
  have h5:=(z0.below hV).wi;exact⟨h5.c0,(Q0 V h5.be).1,(Q0 V h5.be).2,(u0 V h5.be).2.2.1⟩
 clear c1 v0 y0 T0 t3 l0
 go_wp2_with fail
 refine Zp L0 dA [19,20] [] [] (by kernel_rfl) (λc a d v w h=>by cases d<;>exact h) (λops _=>?_)
 iterate 19 refine Zw rfl (by rintro _ ⟨_,_,_,_⟩;go_simp<;>rfl) (by go_simp<;>rfl) ?_
 refine Zt ?_
 go_wp2_with fail
 refine(Y0 _ (z0.below dA).wi.be).mono ?_;rintro e2 W9 ⟨rfl,d1⟩;have A0:Hid (Bq W1 W9):=dA.trans d1;clear d1
 go_wp2_with fail
 refine⟨L0 _ A0,?_⟩;refine Zt ?_
 go_wp2_with fail
 refine(HJ _ (z0.below A0).wi.be).mono ?_;rintro e3 W2 ⟨rfl,rfl⟩
 go_wp2_with fail
 refine⟨L0 _ A0,?_⟩;refine Zw rfl (by rintro _ ⟨_,_,_,_⟩;go_simp<;>rfl) (by go_simp<;>rfl) ?_;refine Zu ?_;have d0:Hid (Jv w0 w W2 Xb T B Fb nb wv wv1 acc lvs v1l lvs1 kd u 0 0 0):=z0.below A0.out;obtain⟨s0,s2,s3,s4,s5⟩:=u0 W2 d0.wi.be;have c2:=d0.cell 2 _ rfl;have c3:=d0.cell 3 _ rfl;have c4:=d0.cell 4 _ rfl;have f2:=d0.free 2;have f3:=d0.free 3;have f4:=d0.free 4
 have U0:(0:Int)<=(u:Int)/\(u:Int)<=999999999:=by omega
 clear L0 z0 A0 Y0 HJ Q0;rcases l1.out with f1|h5|h6'
 ·have HR:Hid (RES=Fl.cO v1l ⟨(kd:Int),u,xx,v1n,0,[]⟩):=by show _=_;rw[b0.out,if_neg (by omega),if_neg (by omega)]
  have M0:=d0.set f0 o0 2 (xx:Int) (xx:Int) 0 0 rfl;have a0:=M0.set f0 o0 3 v1n (xx:Int) v1n 0 rfl;have d3:=M0.cell 3 _ rfl;have g3:=M0.free 3;have q0:=a0.cell 0 _ rfl;have q1:=a0.cell 1 _ rfl;have q2:=a0.cell 2 _ rfl;have q3:=a0.cell 3 _ rfl;have q4:=a0.cell 4 _ rfl;have q5:=a0.cell 5 _ rfl;have HN:=a0.bE (by omega) U0 (by have:=k1 f1;omega) (by have:=j0.1;omega) (by omega) (by have:=j0.1;omega);rw[<-HR.out]at HN;have B0:=Zz HN;clear M0 a0 HN HR b0 d0;rcases f1 with h3|h4
  all_goals
   first|subst h3|subst h4
   go_wp2_with fail
   refine B0.mono ?_;rintro e W6 g0;have C0:=Zz g0;obtain⟨D0,-⟩:=id g0;subst D0;clear g0;go_wp2;go_ret;exact C0
 ·subst h5
  have HR:Hid (RES=Fl.cO b2l ⟨5,u,v1n,b1n,b2n,[]⟩):=(by show _=_;rw[b0.out,if_pos rfl]);have E0:Hid (∀V,Bq w0 V->Cl V sb 4 fv/\Cl V sb 5 ev):=λV hV=>⟨(u0 V hV).2.2.2.1,(u0 V hV).2.2.2.2⟩;clear b0 c2 c3 c4 f2 f3 f4
  go_wp2_with fail
  refine Yj E0 (d0.below dA).wi.be [(0,0),(0,1),(0,2),(0,3),(0,4),(0,5),(0,6),(0,8),(0,9),(0,10),(0,11),(0,12),(0,13),(0,15),(1,7),(1,14),(1,16),(0,17),(1,18),(0,19),(2,20)] [20] [] (by kernel_rfl) (λc a d v w h=>by cases d<;>exact h) (λops _=>?_)
  iterate 14 refine Zw rfl (by rintro _ ⟨_,_⟩;go_simp<;>rfl) (by go_simp<;>rfl) ?_
  refine Zt ?_
  go_wp2_with fail
  refine(S0 _ _ _ (d0.below dA).wi).mono ?_;rintro e4 W4 ⟨rfl,wv4,lvs4,F0,h0,i0⟩;have N0:Hid (Jv w0 w W4 Xb T B Fb nb wv wv4 acc lvs b1l lvs4 (5:Nat) u 0 0 0):=(d0.below dA).call f0 K0 F0 h0 i0;clear F0 h0 i0 d0 s0 s2 s3 s4 s5
  go_wp2_with fail
  refine⟨E0 _ N0.wi.be,?_⟩;refine Zt ?_
  go_wp2_with fail
  refine(Z0 _ _ _ N0.wi).mono ?_;rintro e5 W5 ⟨rfl,wv5,lvs5,g1,G0,H0⟩;have a0:=N0.call f0 K0 g1 G0 H0;have k0:=a0.set f0 o0 2 v1n v1n 0 0 rfl;have e0:=k0.set f0 o0 3 b1n v1n b1n 0 rfl;have m0:=e0.set f0 o0 4 b2n v1n b1n b2n rfl;have c2:=a0.cell 2 _ rfl;have f2:=a0.free 2;have c3:=k0.cell 3 _ rfl;have f3:=k0.free 3;have c4:=e0.cell 4 _ rfl;have f4:=e0.free 4;have q0:=m0.cell 0 _ rfl;have q1:=m0.cell 1 _ rfl;have q2:=m0.cell 2 _ rfl;have q3:=m0.cell 3 _ rfl;have q4:=m0.cell 4 _ rfl;have q5:=m0.cell 5 _ rfl;have HN:=m0.bE (by omega) U0 (by have:=j0.1;omega) (by have:=j0.2.1;omega) (by have:=j0.2.2;omega) (by have:=j0.2.2;show b2l.length<=_;omega);have e5':((5:Nat):Int)=5:=rfl;rw[e5',<-HR.out]at HN;have B0:=Zz HN;have m1:Hid _:=E0 _ a0.wi.be;have n1:Hid _:=E0 _ k0.wi.be;have o1:Hid _:=E0 _ e0.wi.be;clear a0 k0 e0 m0 HN HR N0 g1 G0 H0 e5'
  go_wp2_with fail
  refine⟨m1,?_⟩;refine Zt ?_
  go_wp2_with fail
  refine⟨n1,?_⟩;refine Zw rfl (by rintro _ ⟨_,_⟩;go_simp<;>rfl) (by go_simp<;>rfl) ?_;refine Zt ?_
  go_wp2_with fail
  refine⟨o1,?_⟩;refine Zw rfl (by rintro _ ⟨_,_⟩;go_simp<;>rfl) (by go_simp<;>rfl) ?_;refine Xp ?_
  go_wp2_with fail
  refine Zu ?_
  go_wp2_with fail
  refine B0.mono ?_;rintro e W6 g0;have C0:=Zz g0;obtain⟨D0,-⟩:=id g0;subst D0;clear g0;go_wp2;go_ret;exact C0
 subst h6'
 have HR:Hid (RES=Fl.cO b1l ⟨6,u,v1n,b1n,0,[]⟩):=by show _=_;rw[b0.out,if_neg (by decide),if_pos rfl]
 clear b0 c2 c3 c4 f2 f3 f4
 go_wp2_with fail
 refine(S0 _ _ _ d0.wi).mono ?_;rintro e4 W4 ⟨rfl,wv4,lvs4,F0,h0,i0⟩;have a0:=d0.call f0 K0 F0 h0 i0;have k0:=a0.set f0 o0 2 v1n v1n 0 0 rfl;have e0:=k0.set f0 o0 3 b1n v1n b1n 0 rfl;have c2:=a0.cell 2 _ rfl;have f2:=a0.free 2;have c3:=k0.cell 3 _ rfl;have f3:=k0.free 3;have q0:=e0.cell 0 _ rfl;have q1:=e0.cell 1 _ rfl;have q2:=e0.cell 2 _ rfl;have q3:=e0.cell 3 _ rfl;have q4:=e0.cell 4 _ rfl;have q5:=e0.cell 5 _ rfl;have HN:=e0.bE (by omega) U0 (by have:=j0.1;omega) (by have:=j0.2.1;omega) (by omega) (by have:=j0.2.1;show b1l.length<=_;omega);have e6':((6:Nat):Int)=6:=rfl;rw[e6',<-HR.out]at HN;have B0:=Zz HN;clear a0 k0 e0 HN HR d0 F0 h0 i0 s0 s2 s3 s4 s5 e6'
 go_wp2_with fail
 refine B0.mono ?_;rintro e W6 g0;have C0:=Zz g0;obtain⟨D0,-⟩:=id g0;subst D0;clear g0;go_wp2;go_ret;exact C0
end
namespace Fl
def lE:Nat->Nat
 |0=>1
 |d+1=>65+32*lE d
def fu(n c:Nat)(r:Int×List ar):Prop:=r.2.length<=n+c/\n<=r.2.length/\0<=r.1/\r.1<=n+c
def eV(acc:List ar)(nd:ar):fu acc.length 1 (cO acc nd):=by
 have:=zj3 acc nd;unfold fu;omega
def kY(p:aS)(vs:List Int)(acc:List ar)(e:dd):fu acc.length 3 (db p vs acc e):=by
 unfold db
 split
 ·have:=eV acc ⟨if e.a.var then 1 else 0,bV p vs e.a,e.a.v,0,0,[]⟩
  unfold fu at this⊢;unfold bP;omega
 have h1:=eV acc ⟨if e.a.var then 1 else 0,bV p vs e.a,e.a.v,0,0,[]⟩;have h2:=eV (bP p vs acc e.a).2 ⟨if e.b.var then 1 else 0,bV p vs e.b,e.b.v,0,0,[]⟩;have h3:=eV (bP p vs (bP p vs acc e.a).2 e.b).2 ⟨2,br p vs e,e.op,(bP p vs acc e.a).1,(bP p vs (bP p vs acc e.a).2 e.b).1,[]⟩
 change fu _ _ (bP p vs acc e.a) at h1
 change fu _ _ (bP p vs (bP p vs acc e.a).2 e.b) at h2
 unfold fu at*;omega
def jV(K:List ar->List aa->Int->Int×List ar)(c:Nat)(p:aS)(vs:List Int)(u:Int)(acc:List ar)(s:aa)(h1:∀a l,fu a.length c (K a s.aX l))(h2:∀a l,fu a.length c (K a s.aJ l)):fu acc.length (4+2*c) (dt K p vs u acc s):=by
 unfold dt;simp only;have hv:=kY p vs acc s.e;have e1:=h1 (db p vs acc s.e).2 (jn p u (br p vs s.e));have e2:=h2 (K (db p vs acc s.e).2 s.aX (jn p u (br p vs s.e))).2 (jn p u (br p vs s.e))
 split
 ·have:=eV (K (K (db p vs acc s.e).2 s.aX (jn p u (br p vs s.e))).2 s.aJ (jn p u (br p vs s.e))).2 ⟨5,u,(db p vs acc s.e).1,(K (db p vs acc s.e).2 s.aX (jn p u (br p vs s.e))).1,(K (K (db p vs acc s.e).2 s.aX (jn p u (br p vs s.e))).2 s.aJ (jn p u (br p vs s.e))).1,[]⟩
  unfold fu at*;omega
 split
 ·have:=eV (K (db p vs acc s.e).2 s.aX (jn p u (br p vs s.e))).2 ⟨6,u,(db p vs acc s.e).1,(K (db p vs acc s.e).2 s.aX (jn p u (br p vs s.e))).1,0,[]⟩
  unfold fu at*;omega
 have:=eV (db p vs acc s.e).2 ⟨s.kind,u,s.x,(db p vs acc s.e).1,0,[]⟩;unfold fu at*;omega
def jp(W:List ar->aa->Int×List ar)(c:Nat):∀(l:List aa) (acc:List ar),(∀a s,s∈l->fu a.length c (W a s))->(bJ W acc l).2.length<=acc.length+l.length*c/\acc.length<=(bJ W acc l).2.length/\∀n∈(bJ W acc l).1,0<=n/\n<=acc.length+l.length*c
 |[],acc,_=>⟨by simp[bJ],by simp[bJ],λn hn=>by cases hn⟩
 |s::l,acc,h=>by
  have h1:=h acc s (by simp);have h2:=jp W c l (W acc s).2 (λa t ht=>h a t (by simp[ht]));have e:(s::l).length*c=l.length*c+c:=(by rw[List.length_cons,Nat.succ_mul]);unfold fu at h1;refine⟨by show (bJ W (W acc s).2 l).2.length<=_;omega,by show _<=(bJ W (W acc s).2 l).2.length;omega,λn hn=>?_⟩;rcases List.mem_cons.1 (show n∈(W acc s).1::(bJ W (W acc s).2 l).1 from hn) with rfl|hn
  ·omega
  have:=h2.2.2 n hn;omega
def eT(p:aS)(vs:List Int):∀(d:Nat) (acc:List ar) (l:List aa) (u:Int),Small d l->fu acc.length (lE d) (aF p vs d acc l u)
 |0,acc,l,u,_=>eV acc _
 |d+1,acc,l,u,h=>by
  have h1:=jp (dt (aF p vs d) p vs u) (4+2*lE d) l acc (λa s hs=>jV _ _ p vs u a s (λa l=>eT p vs d a _ l (h.2 s hs).1) (λa l=>eT p vs d a _ l (h.2 s hs).2));have h2:=eV (bJ (dt (aF p vs d) p vs u) acc l).2 ⟨7,u,0,0,0,(bJ (dt (aF p vs d) p vs u) acc l).1⟩;have h3:l.length*(4+2*lE d)<=16*(4+2*lE d):=Nat.mul_le_mul_right _ h.1;show fu acc.length (65+32*lE d) (cO _ _);unfold fu at*;omega
end Fl
section
def zhx(hF:Vb w0 Fb Pb Lb bD bF bv vv S p vs):∀(d:Nat),d<=4->∀(V:World) (wv:Value) (acc:List Fl.ar) (lvs:List Value) (v:Value) (l:List Fl.aa) (u:Nat),Zh d S w0 v l->Fl.aT vs.length p.aj.length d l->u<p.n->Ya w0 V Xb T B Fb wv acc lvs->acc.length<=20000000 - 4000000*d->
  Cq 69 #[Pq Xb,v,Iq u] V (Vk (λ_=>False) w0 V Xb T B Fb wv acc lvs (Fl.aF p vs d acc l u))
 |0,_,V,wv,acc,lvs,v,l,u,hl,ho,hu,h,hn=>by
  obtain⟨rfl,rfl⟩:=hl;have h6:=hF.lv.lv.n6;exact zk5 20000000 (Nat.le_refl _) 0 (λa _=>(0,a)) u (by omega) Zq [] hF ⟨none,0,rfl,by simp,by simp[maxLen],by simp,λhh=>absurd rfl hh⟩ (λ_ _ _ _ _ _ hs=>(by cases hs)) (λk hk=>⟨by simp[Fl.bJ];omega,λn hn=>(by simp[Fl.bJ]at hn)⟩) h
 |d+1,hd,V,wv,acc,lvs,v,l,u,hl,ho,hu,h,hn=>by
  have h6:=hF.lv.lv.n6;have a0:=Zh.small _ _ _ hl;have hv:vs.length<=100:=(by have:=hF.ok.1;have:=hF.pk.ce;have:=hF.pk.lo;omega);have hg:Fl.lE d<=101473:=by
   have:d=0\/d=1\/d=2\/d=3:=by omega
   rcases this with rfl|rfl|rfl|rfl<;>decide
  have hS:∀s∈l,∀(a:List Fl.ar),Fl.fu a.length (4+2*Fl.lE d) (Fl.dt (Fl.aF p vs d) p vs u a s):=λs hs a=>Fl.jV _ _ p vs u a s (λa l=>Fl.eT p vs d a _ l (a0.2 s hs).1) (λa l=>Fl.eT p vs d a _ l (a0.2 s hs).2);refine zk5 (19500000 - 4000000*d) (by omega) d (Fl.dt (Fl.aF p vs d) p vs u) u (by omega) v l hF hl (λV' wv' acc' lvs' pv s hs c0 hV hn'=>?_) (λk hk=>?_) h
  ·obtain⟨d0,b0,e0,f0⟩:=ho s hs
   obtain⟨vl,g0,evl⟩:=zv7 hF.lv.lv hF.ok b0;obtain⟨lv,h0,elv⟩:=hF.lv.lv.join hu g0;have ej:Fl.jn p u (Fl.br p vs s.e)=(lv:Int):=(by unfold Fl.jn;rw[evl];exact elv);have g1:=Fl.kY p vs acc' s.e;have g2:=Fl.eT p vs d (Fl.db p vs acc' s.e).2 s.aX lv (a0.2 s hs).1;have g3:=Fl.eT p vs d (Fl.aF p vs d (Fl.db p vs acc' s.e).2 s.aX lv).2 s.aJ lv (a0.2 s hs).2;unfold Fl.fu at g1 g2 g3;exact yrx (20000000 - 4000000*d) (by omega) d u hu c0 hF hv d0 b0 ⟨e0,f0⟩ (λV wv acc lvs v l u a b c e f=>zhx hF d (by omega) V wv acc lvs v l u a b c e f) (by omega) _ _ lv ej rfl rfl ⟨⟨by omega,by omega,by omega⟩,⟨by omega,by omega,by omega⟩,by omega,by omega,by omega⟩ hV
  have h1:=Fl.jp (Fl.dt (Fl.aF p vs d) p vs u) (4+2*Fl.lE d) (l.take k) acc (λa s hs=>hS s (List.mem_of_mem_take hs) a);have h2:(l.take k).length<=16:=(by rw[List.length_take];have:=a0.1;omega);have h3:(l.take k).length*(4+2*Fl.lE d)<=16*(4+2*Fl.lE d):=Nat.mul_le_mul_right _ h2;refine⟨by omega,λn hn=>?_⟩;have:=h1.2.2 n hn;omega
end
namespace Fl
def eX(ns:List ar)(k:Nat):Bool:=(List.range k).any (λi=>dI (nth ns i) (nth ns k))
def bK(ns:List ar):Int:=match (List.range ns.length).find? (eX ns) with|some k=>(k:Int)|none=> -1
def gT(ns:List ar)(k:Nat)(hk:k<ns.length):eX ns k=true ↔ nth ns k∈ns.take k:=by
 unfold eX;rw[List.any_eq_true]
 constructor
 ·rintro⟨i,hi,he⟩
  simp only[List.mem_range]at hi;rw[<-(dr _ _).1 he]
  have:nth ns i=(ns.take k)[i]'(by simp;omega):=by simp[nth,Qa,Qb (show i<ns.length by omega)]
  rw[this];exact List.getElem_mem _
 intro h;obtain⟨i,hi,he⟩:=List.getElem_of_mem h
 have a0:i<k:=by simp at hi;omega
 refine⟨i,by simpa using a0,(dr _ _).2 ?_⟩;rw[<-he];simp[nth,Qa,Qb (show i<ns.length by omega)]
end Fl
def Yv.node{b off cap:Nat}{ns:List Fl.ar}(h:Yv B w (.slice (some (Aq b off)) n cap) ns)(hi:i<ns.length)(hB:B<=w.heap.size):∃lv,Vg w b (off+i*6) (Fl.nth ns i) lv:=by
 obtain⟨_,lv,h0,h1,h2,h3,h4,h5,h6⟩:=h.at hi;exact⟨lv,h1,h2,h3,h4,h5,h6,h0.mono hB⟩
structure SameRel(ns:List Fl.ar)(w wr:World)(j:Nat)(cA:List Fl.ar):Prop where
 hj:j<=ns.length
 bj:cA.length=j
 dW:∀x,x∈cA ↔ x∈ns.take j
 du:∀t,t<j->Fl.eX ns t=false
 hs:zrw wr (w.heap.size+1) w.heap.size cA
 hb:Bq w wr
 hz:w.heap.size+2<=wr.heap.size
def zbx(ns:List Fl.ar)(nv:Value)(w:World)(hn:Yv w.heap.size w nv ns)(hf:∀i,i<ns.length->Fl.fits (Fl.nth ns i))(bj:ns.length<=1000):
  Cq 127 #[nv] w λe w'=>e=.returned (Iq (Fl.bK ns))/\Bq w w':=by
 obtain⟨na,nc,rfl,_,hm,_⟩:=id hn;have HN:=Zz hn;clear hn hm
 go_enter func127,ntmps127
 go_wp2_with (go_at_call 68;refine(yy2 _).mono ?_;rintro e w1 ⟨rfl,e0,f0,r0⟩)
 have n0:=Zz e0;have o0:=Zz f0;clear e0 f0
 go_wp2_with fail
 go_loopw [10] (λi wr=>∃(j:Nat) (cA:List Fl.ar),i=Iq j/\SameRel ns w wr j cA) (λi _=>ns.length - (intOf i).toNat)
 case atStart=>exact⟨0,[],rfl,⟨by omega,rfl,by simp,λt ht=>by omega,n0,o0,by omega⟩⟩
 case round=>
  obtain⟨j,cA,rfl,hr⟩:=hrel;have hj:=hr.hj;have HR:=Zz hr;clear hr
  by_cases a0:j<ns.length
  ·obtain⟨b,off,rfl⟩:∃b off,na=some (Aq b off):=by
    obtain⟨ao',cap',hv',_,_,hx'⟩:=HN.out;obtain⟨b,off,ha,_⟩:=hx' (by intro h;rw[h]at a0;simp at a0);simp only[Value.slice.injEq]at hv';exact⟨b,off,hv'.1.trans ha⟩
   obtain⟨lv,g0⟩:=(HN.below HR.hb).node a0 HR.hb.size;have h0:=hf j a0;have HC:Hid (Cq 74 #[.pointer (some (Aq b (off+j*6)))] wr λe w'=>e=.returned (.agg (Ym (Fl.nth ns j)).toArray)/\Bq wr w'):=zux g0 h0.2.2.2.2.2.1;have s0:(j:Int)<(ns.length:Int):=(by omega);clear g0
   go_wp2_with (go_at_call 74;refine(HC.out).mono ?_;rintro e w2 ⟨rfl,b0⟩)
   have i0:zrw w2 (w.heap.size+1) w.heap.size cA:=HR.hs.kept (row:=none) ⟨b0.os,b0.tape,b0.output,b0.size,λk hk _=>b0.block k hk⟩ (by simp) (by simp);have j0:Hid (Bq w w2):=HR.hb.trans (b0.mono HR.hb.size);have k0:w.heap.size+2<=w2.heap.size:=Nat.le_trans HR.hz b0.size;clear b0 HC;refine(yy3 i0 h0 (by have:=HR.bj;omega)).mono ?_;rintro e w3 ⟨c,t,rfl,ht,l0,c0⟩;have m0:Hid (Bq w w3):=j0.trans ⟨c0.os,c0.tape,c0.output,c0.size,λk hk=>c0.block k (by have:=j0.size;omega) (by simp;omega)⟩;have p0:w.heap.size+2<=w3.heap.size:=Nat.le_trans k0 c0.size;have q0:=Zz l0;have HT:=Zz ht;clear i0 l0 c0 ht k0
   cases t with
   |true=>
    have d0:Fl.eX ns j=true:=(Fl.gT ns j a0).2 ((HR.dW _).1 (HT.1 rfl));have HF:Hid (Fl.bK ns=(j:Int)):=by
     show Fl.bK ns=(j:Int);unfold Fl.bK;rw[Fl.fh _ _ j HR.du a0 d0]
    clear d0;go_wp2;go_ret;exact⟨zz8 HF.symm,m0⟩
   |false=>
    have HD:Hid (Fl.eX ns j=false):=by
     show Fl.eX ns j=false;rw[Bool.eq_false_iff];intro h
     have:=HT.2 ((HR.dW _).2 ((Fl.gT ns j a0).1 h));cases this
    go_wp2
    go_roundw
    case rel=>
     refine⟨j+1,Fl.nth ns j::cA,by go_num,⟨by omega,by simp[HR.bj],λx=>?_,λt ht=>?_,q0,m0,p0⟩⟩
     ·rw[Fl.fg ns j a0,List.mem_cons,List.mem_append,List.mem_singleton,HR.dW x];exact or_comm
     by_cases h:t<j
     ·exact HR.du t h
     have:t=j:=by omega
     subst this;exact HD
    case measure=>simp[intOf];omega
  have HF:Hid (Fl.bK ns= -1):=by
   show Fl.bK ns= -1;unfold Fl.bK;rw[Fl.dO _ _ (λk hk=>HR.du k (by omega))]
  go_wp2;go_ret;exact⟨zz8 HF.symm,HR.hb⟩
namespace Fl
def dQ(ns:List ar)(j k:Nat):Bool:=(List.range j).any (λt=>(prem (nth ns t)).any (λp=>p==(k:Int)))
def bB(ns:List ar):Int:=match (List.range (ns.length - 1)).find? (λk=> !dQ ns ns.length k) with|some k=>(k:Int)|none=> -1
def jU(ns:List ar)(j k:Nat):dQ ns (j+1) k=(dQ ns j k||(prem (nth ns j)).any (λp=>p==(k:Int))):=by
 unfold dQ;rw[List.range_succ,List.any_append];simp
end Fl
def zj4{b:Nat}{te:TypeId}{fr:Nat×Nat}(h:w.heap[b]?=some (.cells Za te fr)):Yb w b 0:=by
 have q:∀i,w.cell? (Aq b i)=Za[i]?:=λi=>cell_of_row w b i Za te fr h;intro k hk
 have:k=0\/k=1\/k=2\/k=3\/k=4\/k=5\/k=6\/k=7:=by omega
 rcases this with rfl|rfl|rfl|rfl|rfl|rfl|rfl|rfl<;>exact⟨(q _).trans rfl,(q _).trans rfl,(q _).trans rfl⟩
def Yb.below{b ro:Nat}(h:Yb w b ro)(hb:Bq w w'):Yb w' b ro:=λk hk=>by
 obtain⟨h1,h2,h3⟩:=h k hk;have a0:b<w.heap.size:=Qe w _ h1;exact⟨(hb.cell (p:=(Aq b _)) a0).trans h1,(hb.cell (p:=(Aq b _)) a0).trans h2,(hb.cell (p:=(Aq b _)) a0).trans h3⟩
structure zt9(w:World)(U n:Nat)(us:Nat->Bool):Prop where
 hu:∀i,i<n->w.cell? (Aq U i)=some (.bool (us i))
 hf:∀i,w.frozen? (Aq U i)=false
 aK:∀i v,w.cell? (Aq U i)=some v->∃t,v=.bool t
def zt9.below{us:Nat->Bool}(h:zt9 w U n us)(hb:Bq w w')(hU:U<w.heap.size):zt9 w' U n us:=by
 have q:∀i,w'.cell? (Aq U i)=w.cell? (Aq U i):=λi=>hb.cell (p:=(Aq U i)) hU;exact⟨λi hi=>(q i).trans (h.hu i hi),λi=>(hb.frozen (p:=(Aq U i)) hU).trans (h.hf i),λi v hv=>h.aK i v ((q i).symm.trans hv)⟩
def zt9.set{us:Nat->Bool}(h:zt9 w U n us)(y:Nat)(hy:y<n):zt9 (w.setCell (Aq U y) (.bool true)) U n (λi=>us i||i==y):=by
 have hs:Cl (w.setCell (Aq U y) (.bool true)) U y (.bool true):=Ud (h.hu y hy);refine⟨λi hi=>?_,λi=>(World.frozen?_setCell _ _ _ _).trans (h.hf i),λi v hv=>?_⟩
 ·by_cases e:i=y
  ·subst e;rw[hs];simp
  rw[Yf (λe'=>e e'.symm),h.hu i hi];simp[e]
 by_cases e:i=y
 ·subst e;rw[hs]at hv;exact⟨true,by injection hv with hv;exact hv.symm⟩
 rw[Yf (λe'=>e e'.symm)]at hv;exact h.aK i v hv
def zt9.apart{us:Nat->Bool}(h:zt9 w U n us){b o:Nat}(hc:w.cell? (Aq b o)=some (Iq x)):b≠U:=by
 intro e;subst e;obtain⟨t,ht⟩:=h.aK o _ hc;cases ht
structure zy0(ns:List Fl.ar)(w wr:World)(TB U:Nat)(us:Nat->Bool):Prop where
 hm:zt9 wr U ns.length us
 hr:Yb wr TB 0
 hb:Bq w wr
 hT:w.heap.size<=TB
 hU:TB<U
 hz:U<wr.heap.size
def zy0.below{ns:List Fl.ar}{w wr w':World}{TB U:Nat}{us:Nat->Bool}(h:zy0 ns w wr TB U us)(hb:Bq wr w'):zy0 ns w w' TB U us:=
 ⟨h.hm.below hb h.hz,h.hr.below hb,h.hb.trans (hb.mono h.hb.size),h.hT,h.hU,Qj h.hz hb.size⟩
def zy0.set{ns:List Fl.ar}{w wr:World}{TB U:Nat}{us:Nat->Bool}(h:zy0 ns w wr TB U us)(y:Nat)(hy:y<ns.length):zy0 ns w (wr.setCell (Aq U y) (.bool true)) TB U (λi=>us i||i==y):=by
 have hT:=h.hT;have hU:=h.hU;refine⟨h.hm.set y hy,λk hk=>?_,h.hb.setCell (by show w.heap.size<=U;omega) _,hT,hU,by have:=h.hz;simpa [World.setCell] using this⟩;obtain⟨h1,h2,h3⟩:=h.hr k hk;have g:=Xo wr U y (.bool true)
 have a0:some TB≠some U:=by simp;omega
 exact⟨g.cell h1 a0,g.cell h2 a0,g.cell h3 a0⟩
def zy0.congr{ns:List Fl.ar}{TB:Nat}{us us':Nat->Bool}(h:zy0 ns w wr TB U us)(he:∀i,i<ns.length->us i=us' i):zy0 ns w wr TB U us':=
 ⟨⟨λi hi=>by rw[<-he i hi];exact h.hm.hu i hi,h.hm.hf,h.hm.aK⟩,h.hr,h.hb,h.hT,h.hU,h.hz⟩
structure ym0(w:World)(pao:Option Addr)(ps:List Int):Prop where
 hx:ps≠[]->∃b off,pao=some (Aq b off)/\∀i,i<ps.length->w.cell? (Aq b (off+i))=some (Iq (ps.getD i 0))
def Tryz.infoBool:(Tryz.prog.info? 4).map (λi=>(i.zero,i.size,i.bytes))=some (some (.bool false),1,1):=by kernel_rfl
def zr7(ns:List Fl.ar)(nv:Value)(w:World)(hn:Yv w.heap.size w nv ns)(bj:ns.length<=1000)
  (hk:∀i,i<ns.length->0<=(Fl.nth ns i).kind/\(Fl.nth ns i).kind<8) (hp:∀i,i<ns.length->∀p∈prem (Fl.nth ns i),0<=p/\p<ns.length):
  Cq 40 #[nv] w λe w'=>e=.returned (Iq (Fl.bB ns))/\Bq w w':=by
 obtain⟨i0,hi,A0,B0,C0⟩:=info_parts Tryz.infoBool;obtain⟨na,nc,rfl,_,hm,_⟩:=id hn;have HN:=Zz hn;have HK:=Zz hk;have HP:=Zz hp;clear hn hm hk hp
 go_enter func40,ntmps40
 go_wp2_with (first|(go_at_call 46;refine(zr6 _).mono ?_;rintro e w1 ⟨rfl,rfl⟩)|(refine zx9 rfl _ _ 129 rfl _ _ _ Za rfl (by simp) rfl Tryz.infoRules zr5 zp9 ?_)|(at_make;refine wpList_make_full _ rfl _ _ 141 rfl (w.heap.size+2) 4 i0 (.bool false) 1 underlying141 hi A0 B0 _ _ _ _ ns.length rfl rfl rfl rfl (by rw[C0];omega) (by unfold maxLen;omega) (by simp) ?_;intro w3 b0 k0))
 have s0:Bq w w3:=((bA).alloc (by simp) _).grown k0 (by simp;omega) (λk h=>by cases h);have g0:Hid (zy0 ns w w3 (w.heap.size+1) (w.heap.size+1+1) (λ_=>false)):=by
  have l0:((w.alloc (.cells Za 129)).alloc (.cells Za 129)).heap[w.heap.size+1]?=some (.cells Za 129 (0,0)):=by
   have:=heap_alloc_last (w.alloc (.cells Za 129)) (.cells Za 129)
   rwa [World.size_alloc]at this
  rcases b0.2 with⟨h,_⟩|⟨g,cap',cur,hv,P0,h0,Q0,m0,R0,D0⟩
  ·cases h
  simp only[Value.slice.injEq,Option.some.injEq,Addr.mk.injEq]at hv;obtain⟨⟨E0,_⟩,_,n0⟩:=hv;subst n0;rw[<-E0]at h0;have o0:cur.toList=List.replicate ns.length (.bool false):=by
   have hl:cur.toList.length=ns.length:=(by simp;omega);have h2:=D0;rw[show (Value.bool false).cells=#[.bool false] from rfl,toList_madeCells_one,Nat.mul_one,List.take_of_length_le (by omega)]at h2;exact h2
  have hc:∀i,w3.cell? (Aq (w.heap.size+1+1) i)=(List.replicate ns.length (Value.bool false))[i]?:=λi=>by
   rw[cell_of_row w3 _ i cur _ _ (by simpa using h0),<-o0];simp
  refine⟨⟨λi hi=>by rw[hc];simp[hi],λi=>by simp[World.frozen?,(by simpa using h0:w3.heap[w.heap.size+1+1]?=_)],λi v hv=>?_⟩,zj4 ((k0.block _ (by simp) (by simp)).trans l0),s0,by omega,by omega,?_⟩
  ·rw[hc]at hv;exact⟨false,(List.mem_replicate.1 (List.mem_of_getElem? hv)).2⟩
  have:=(Array.getElem?_eq_some_iff.1 h0).1;simpa using this
 obtain⟨TB,iJ⟩:=nmE (w.heap.size+1);rw[<-iJ]at g0⊢;obtain⟨U,hU⟩:=nmE (TB+1);rw[<-hU]at g0⊢;clear b0 k0 s0 iJ hU
 go_loopw [15] (λi wr=>∃(j:Nat),j<=ns.length/\i=Iq j/\zy0 ns w wr TB U (Fl.dQ ns j)) (λi _=>ns.length - (intOf i).toNat)
 case atStart=>exact⟨0,by omega,rfl,g0.congr (λi _=>rfl)⟩
 case round=>
  clear g0;obtain⟨j,hj,rfl,hr⟩:=hrel;have HR:=Zz hr;clear hr
  by_cases d0:j<ns.length
  ·obtain⟨b,off,rfl⟩:∃b off,na=some (Aq b off):=by
    obtain⟨ao',cap',hv',_,_,hx'⟩:=HN.out;obtain⟨b,off,ha,_⟩:=hx' (by intro h;rw[h]at d0;simp at d0);simp only[Value.slice.injEq]at hv';exact⟨b,off,hv'.1.trans ha⟩
   obtain⟨lv,p0⟩:=(HN.below HR.hb).node d0 HR.hb.size;have F0:=HK j d0;obtain⟨x,hx⟩:∃x:Nat,(Fl.nth ns j).kind=(x:Int):=⟨(Fl.nth ns j).kind.toNat,by omega⟩;have G0:x<8:=(by omega);have c0:=p0.c0;rw[hx]at c0;have h3:=(HR.hr x G0).2.2;have h3':wr.cell? (Aq TB (x*4+3))=some (.func (.func (byF x)) #[] #[]):=(by simpa using h3);have H0:∀W,(callFunc (byF x) #[.pointer (some (Aq b (off+j*6)))]).run prog W=.ok (.enter (byF x) #[.pointer (some (Aq b (off+j*6)))]) W:=λW=>zpz x _ W;have HC:Hid (Cq (byF x) #[.pointer (some (Aq b (off+j*6)))] wr.drew (Uz (prem (Fl.nth ns j)) wr.drew)):=by
    rw[<-hx];exact zh7 (p0.below (dA))
   have t0:(j:Int)<(ns.length:Int):=(by omega);have S0:(x:Int)<8:=(by omega);clear p0 h3 F0 hx
   go_wp2_with fail
   go_region_with (refine(HC.out).mono ?_;rintro e w4 ⟨pv,rfl,I0,u0⟩;obtain⟨pao,pcap,rfl,_,v0,e0⟩:=I0)
   have x0:Hid (zy0 ns w w4 TB U (Fl.dQ ns j)):=HR.below (dA.trans u0);obtain⟨ps,q0⟩:=nmE (prem (Fl.nth ns j));rw[<-q0]at v0 e0⊢;have y0:=Zz q0;have j0:Hid (ym0 w4 pao ps):=⟨λJ0=>by obtain⟨b,off,ha,_,hc⟩:=e0 J0;exact⟨b,off,ha,hc⟩⟩;unfold maxLen at v0;clear e0 q0 u0 HC H0 c0 h3'
   go_wp2_with fail
   simp only[List.getElem_toArray,List.getElem_cons_succ,List.getElem_cons_zero,Act.put,List.setIfInBounds_toArray,List.set_cons_succ,List.set_cons_zero]
   go_loopw [31] (λi wz=>∃(m:Nat),m<=ps.length/\i=Iq m/\ym0 wz pao ps/\zy0 ns w wz TB U (λk=>Fl.dQ ns j k||(ps.take m).any (λp=>p==(k:Int)))) (λi _=>ps.length - (intOf i).toNat)
   case atStart=>exact⟨0,by omega,rfl,j0,x0.congr (λk _=>by simp)⟩
   case round=>
    clear x0 j0;obtain⟨m,K0,rfl,e0,hu⟩:=hrel;have j0:=Zz e0;have HU:=Zz hu;clear e0 hu
    by_cases a0:m<ps.length
    ·obtain⟨pb,po,rfl,r0⟩:=j0.hx (by intro h;rw[h]at a0;simp at a0)
     have m0:=r0 m a0;have hr:=HP j d0 (ps.getD m 0) (by rw[<-y0.out];exact nT a0);obtain⟨y,hy⟩:∃y:Nat,ps.getD m 0=(y:Int):=⟨(ps.getD m 0).toNat,by omega⟩;rw[hy]at m0;have z0:y<ns.length:=(by omega);have T0:(y:Int)<(ns.length:Int):=(by omega);have HY:=Zz hy;have uy:=HU.hm.hu y z0;have uf:=HU.hm.hf;have L0:pb≠U:=HU.hm.apart m0;have M0:(m:Int)<(ps.length:Int):=(by omega);have N0:=Zz r0;clear hr hy r0;go_wp2
     go_roundw
     case rel=>
      refine⟨m+1,by omega,by go_num,⟨λ_=>⟨pb,po,rfl,λi hi=>(Xo _ _ _ _).cell (N0 i hi) (by simpa using L0)⟩⟩,(HU.set y z0).congr (λk hk=>?_)⟩;rw[Fl.iw ps m a0,List.any_append,HY.out];simp only[List.any_cons,List.any_nil,Bool.or_false];rw[<-Bool.or_assoc]
      congr 1
      rw[Bool.eq_iff_iff,beq_iff_eq,beq_iff_eq];omega
     case measure=>simp[intOf];omega
    have HE:Hid (zy0 ns w wr TB U (Fl.dQ ns (j+1))):=HU.congr (λk _=>by rw[Fl.jU,<-y0.out,List.take_of_length_le (by omega)]);go_wp2
    go_roundw
    case rel=>exact⟨j+1,by omega,by go_num,HE⟩
    case measure=>simp[intOf];omega
  have t0:j=ns.length:=(by omega);subst t0;clear hj d0
  go_wp2_with fail
  go_loop [43] (λi=>∃m:Nat,m<=ns.length/\i=Iq m/\∀t,t<m->Fl.dQ ns ns.length t=true) (λi=>ns.length - (intOf i).toNat)
  case atStart=>exact⟨0,by omega,rfl,λt ht=>by omega⟩
  case round=>
   obtain⟨m,K0,rfl,aK⟩:=hrel;have HA:=Zz aK;clear aK
   by_cases d0:(m:Int)<(ns.length:Int) - 1
   ·have um:=HR.hm.hu m (by omega)
    have M0:(m:Int)<(ns.length:Int):=(by omega)
    cases f0:Fl.dQ ns ns.length m with
    |true=>
     rw[f0]at um;have O0:=Zz f0;clear f0;go_wp2
     go_round
     case rel=>exact⟨m+1,by omega,by go_num,λt ht=>by
      by_cases h:t<m
      ·exact HA t h
      have:t=m:=by omega
      subst this;exact O0.out⟩
     case measure=>simp[intOf];omega
    |false=>
     rw[f0]at um;have HF:Hid (Fl.bB ns=(m:Int)):=by
      show Fl.bB ns=(m:Int);unfold Fl.bB;rw[Fl.fh _ _ m (λt ht=>by rw[HA t ht];rfl) (by omega) (by rw[f0];rfl)]
     clear f0;go_wp2;go_ret;exact⟨zz8 HF.symm,HR.hb⟩
   have HF:Hid (Fl.bB ns= -1):=by
    show Fl.bB ns= -1;unfold Fl.bB;rw[Fl.dO _ _ (λk hk=>by rw[HA k (by omega)];rfl)]
   go_wp2;go_ret;exact⟨zz8 HF.symm,HR.hb⟩
namespace Fl
def fS(k:Nat)(nd:ar):Prop:=bG nd=true/\(prem nd).any (λp=>decide ((k:Int)<=p))=false
def jo(h:0<=x/\x<2147483648):cq x=true:=by simp[cq,h.1,h.2]
def lD(h:∀x∈l,0<=x/\x<2147483648)(i:Nat):cq (l.getD i 0)=true:=by
 rw[Qa]
 cases he:l[i]? with
 |none=>rfl
 |some x=>exact jo (h x (List.mem_of_getElem? he))
def lC(h:l.length<=i):l.getD i 0=0:=by
 rw[Qa,List.getElem?_eq_none h];rfl
def jm(h:∀x∈l,0<=x/\x<2147483648){f:Nat}(hl:l.length=f)(i:Nat):jd (f:Int) (i:Int) (l.getD i 0)=true:=by
 unfold jd;rw[lD h i,Bool.true_and,Bool.or_eq_true,decide_eq_true_eq,decide_eq_true_eq]
 by_cases hi:i<f
 ·left;omega
 right;exact lC (by omega)
def gf{p k:Nat}{nd:ar}{e:Int}(h:¬(cg p k nd e).2.1<0)(hs:bG nd=true):fS k (cg p k nd e).1:=by
 unfold cg at*
 split at h
 ·exact absurd (show (-1:Int)<0 by decide) h
 rename_i hn;rw[if_neg hn];exact⟨hs,by simpa using hn⟩
def kC(s:List UInt8)(p k:Nat)(hp:p<=s.length)(h:¬(one s p k).2.1<0):fS k (one s p k).1:=by
 unfold one at*
 by_cases h0:p=s.length
 ·rw[if_pos h0]at h;exact absurd (show (-1:Int)<0 by decide) h
 rw[if_neg h0]at h⊢;simp only at h⊢;have hx:(s.getD p 0).toNat<256:=(s.getD p 0).toNat_lt;generalize (s.getD p 0).toNat=x at*
 by_cases h1:aO (x:Int)= -2
 ·rw[if_pos h1]at h;exact absurd (show (-1:Int)<0 by decide) h
 rw[if_neg h1]at h⊢
 by_cases h2:(num s (p+1)).2.1<0
 ·rw[if_pos h2]at h;exact absurd (show (-1:Int)<0 by decide) h
 rw[if_neg h2]at h⊢;obtain⟨v,q,hn,_,hq,hv⟩:=zuz s (p+1) (by omega) h2;rw[hn]at h⊢;simp only[Int.toNat_natCast]at h⊢;have a0:cq (v:Int)=true:=jo ⟨by omega,by omega⟩
 by_cases h3:aO (x:Int)= -1
 ·rw[if_pos h3]at h⊢
  by_cases h4:(num s q).2.1<0
  ·rw[if_pos h4]at h;exact absurd (show (-1:Int)<0 by decide) h
  rw[if_neg h4]at h⊢
  by_cases h5:16<(num s q).1
  ·rw[if_pos h5]at h;exact absurd (show (-1:Int)<0 by decide) h
  rw[if_neg h5]at h⊢;obtain⟨m,q2,hm,_,b0,_⟩:=zuz s q hq h4;rw[hm]at h h5⊢;simp only[Int.toNat_natCast]at h h5⊢
  by_cases h6:(cZ s q2 m).2.1<0
  ·rw[if_pos h6]at h;exact absurd (show (-1:Int)<0 by decide) h
  rw[if_neg h6]at h⊢;refine gf h ?_;rcases fj s q2 m b0 with h7|⟨_,_,h8,h9⟩
  ·omega
  simp only[bG,h3,a0,h8,jd,Bool.and_eq_true,decide_eq_true_eq,Bool.or_eq_true];refine⟨by omega,by first|trivial|rfl,by omega,⟨by first|rfl|trivial,.inr (by first|rfl|trivial)⟩,⟨by first|rfl|trivial,.inr (by first|rfl|trivial)⟩,⟨by first|rfl|trivial,.inr (by first|rfl|trivial)⟩,?_,.inl (by first|trivial|rfl)⟩;rw[List.all_eq_true];intro y hy;exact jo (h9 y hy)
 rw[if_neg h3]at h⊢;have c0:=fH (x:Int);obtain⟨f,hf⟩:∃f:Nat,aO (x:Int)=(f:Int):=⟨(aO (x:Int)).toNat,by omega⟩;rw[hf]at h⊢;simp only[Int.toNat_natCast]at h⊢
 by_cases h6:(cZ s q f).2.1<0
 ·rw[if_pos h6]at h;exact absurd (show (-1:Int)<0 by decide) h
 rw[if_neg h6]at h⊢;refine gf h ?_;rcases fj s q f hq with h7|⟨_,_,h8,h9⟩
 ·omega
 have g0:=jm h9 h8 0;have g1:=jm h9 h8 1;have g2:=jm h9 h8 2;simp only[bG,hf,a0,Bool.and_eq_true,decide_eq_true_eq,Bool.or_eq_true];refine⟨by omega,by first|trivial|rfl,by simp,?_,?_,?_,by simp,.inr (by first|rfl|trivial)⟩
 ·simpa using g0
 ·simpa using g1
 simpa using g2
def ey{nd:ar}(h:bG nd=true):fits nd/\0<=nd.kind/\nd.kind<8:=by
 simp only[bG,Bool.and_eq_true,decide_eq_true_eq,jd]at h;obtain⟨h1,h2,h3,⟨h4,_⟩,⟨h5,_⟩,⟨h6,_⟩,h7,_⟩:=h
 have hk:0<=nd.kind/\nd.kind<8:=by unfold aO at h1;(repeat' split at h1)<;>omega
 exact⟨⟨jo ⟨hk.1,by omega⟩,h2,h4,h5,h6,h3,h7⟩,hk⟩
def lB{nd:ar}(h:bG nd=true):∀p∈prem nd,0<=p:=by
 obtain⟨⟨_,_,ha,hb,hc,_,hl⟩,_⟩:=ey h
 have q:∀{x:Int},cq x=true->0<=x:=λh=>by simp only[cq,Bool.and_eq_true,decide_eq_true_eq]at h;exact h.1
 intro p hp;unfold prem at hp
 repeat' split at hp
 all_goals try simp only[List.mem_cons,List.not_mem_nil,or_false]at hp
 all_goals first|(rcases hp with rfl|rfl|rfl<;>first|exact q ha|exact q hb|exact q hc)|(rcases hp with rfl|rfl<;>first|exact q ha|exact q hb|exact q hc)|(subst hp;first|exact q ha|exact q hb|exact q hc)|exact q (List.all_eq_true.1 hl p hp)|exact hp.elim
def fF(ns:List ar):Prop:=∀i,i<ns.length->fS i (nth ns i)
def jl{ns:List ar}{nd:ar}(h:fF ns)(hg:fS ns.length nd):fF (ns++[nd]):=by
 intro i hi;simp only[List.length_append,List.length_cons,List.length_nil]at hi
 by_cases h1:i<ns.length
 ·have:nth (ns++[nd]) i=nth ns i:=by simp[nth,Qa,List.getElem?_append_left h1]
  rw[this];exact h i h1
 have hi':i=ns.length:=by omega
 subst hi'
 have:nth (ns++[nd]) ns.length=nd:=by simp[nth,Qa]
 rw[this];exact hg
def jk{k:Nat}{nd:ar}(h:fS k nd){p:Int}(hp:p∈prem nd):0<=p/\p<k:=by
 refine⟨lB h.1 p hp,?_⟩;have:=h.2;rw[List.any_eq_false]at this;have:=this p hp;simp only[decide_eq_true_eq]at this;omega
def gH{ns:List ar}(h:fF ns):bh ns=if 0<=bK ns then bK ns else bB ns:=by
 have hb:∀k,k<ns.length->eh ns k=eX ns k:=λk hk=>by
  have:=h k hk;unfold eh eX;rw[this.1,this.2];rfl
 have hu:∀k,used ns k=dQ ns ns.length k:=λk=>by
  unfold used dQ;rw[Bool.eq_iff_iff,List.any_eq_true,List.any_eq_true]
  constructor
  ·rintro⟨j,hj,hh⟩;exact⟨j,hj,(Bool.and_eq_true_iff.1 hh).2⟩
  rintro⟨j,hj,hh⟩;refine⟨j,hj,?_⟩;rw[Bool.and_eq_true];refine⟨?_,hh⟩;rw[List.any_eq_true]at hh;obtain⟨p,hp,he⟩:=hh;have:=jk (h j (by simpa using hj)) hp;rw[beq_iff_eq]at he;rw[decide_eq_true_eq];omega
 have a0:(List.range ns.length).find? (eh ns)=(List.range ns.length).find? (eX ns):=by
  have:∀(l:List Nat),(∀k∈l,k<ns.length)->l.find? (eh ns)=l.find? (eX ns):=by
   intro l
   induction l with
   |nil=>intro _;rfl
   |cons x l ih=>intro hl;simp only[List.find?_cons,hb x (hl x (by simp)),ih (λk hk=>hl k (by simp[hk]))]
  exact this _ (λk hk=>by simpa using hk)
 unfold bh bK bB;rw[a0]
 cases hd:(List.range ns.length).find? (eX ns) with
 |some k=>simp only;rw[if_pos (by omega)]
 |none=>
  simp only;rw[if_neg (by decide)]
  have:(λk=> !used ns k)=(λk=> !dQ ns ns.length k):=by funext k;rw[hu]
  rw[this]
  cases (List.range (ns.length - 1)).find? (λk=> !dQ ns ns.length k)<;>rfl
end Fl
end Go.Proofs.YtfhpibppblbgcaaGreatDoor
