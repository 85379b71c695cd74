import Derived.Test.YtjekbnmnjeoagaaGreatDoorM30
import Derived.Test.YtjekbnmnjeoagaaGreatDoorM31
set_option linter.all false
set_option maxRecDepth 100000
set_option maxHeartbeats 40000000
namespace Go.Proofs.YtjekbnmnjeoagaaGreatDoor
open Go.RowKit Go.Proofs.Tryz
variable{w0 w w' W1 W2 W:World}{Xb c:Nat}{lv wv wv' lvn wv1:Value}{ls:List Int}{acc:List Fl.Node}{lvs lvs1:List Value}{e:Ending}{cs:Array Value}{t:TypeId}
def zi8{w0:World}{Pb Lq:Nat}{rb:Nat->Nat}{clv hv bv lv:Value}{p:Fl.Prog}:∀d,yz4 w0 Pb Lq rb clv hv bv p lv d
 |0=>λw ls v l u hw hs ho hp hu=>by
  obtain⟨rfl,rfl⟩:=hs
  obtain⟨la,ln,lc,rfl⟩:∃a b c,lv=.slice a b c:=by obtain⟨a,c,e,-⟩:=hw.ints;exact⟨a,_,c,e⟩
  have HW:=Zz hw;have HE:Hid (∀V,Bq w V->zn4 w0 w Pb Lq rb clv hv bv p (.slice la ln lc) (Fl.rz p 0 [] u ls) (.returned (.bool false)) V):=λV hV=>⟨rfl,HW.out.below hV,Yk.of_below hV⟩;clear hw hp ho hu HW
  go_enter func30,ntmps30
  go_wp2_with fail
  go_loopw [9,10] (λm i wr=>m=.bool false/\i=Iq 0/\Bq w wr) (λ_ _ _=>0)
  case atStart=>exact⟨rfl,rfl,bA⟩
  case round=>
   obtain⟨rfl,rfl,hb⟩:=hrel;have HB:=Zz hb;clear hb;go_wp2;go_ret;exact HE.out _ HB.out
 |d+1=>yx6 d (zi8 d)
structure Xs(w0 w:World)(Xb:Nat)(lv wv:Value)(ls:List Int)(acc:List Fl.Node)(lvs:List Value):Prop where
 x0:w0.heap.size<=Xb
 hz:Xb<w.heap.size
 c0:w.cell? (Aq Xb 0)=some lv
 c1:w.cell? (Aq Xb 1)=some wv
 fz:∀j,w.frozen? (Aq Xb j)=false
 hl:lvs.length=acc.length
 ow:w.ownsRow (Xb+1) 92 6 wv acc.length (flat acc lvs)
 li:∀p,p∈(lv,ls)::Xo acc lvs->Vh w p.1 p.2 Zq wv/\(p.2≠[]->∀b,p.1.ownBlock=some b->Xb<b/\Uk w b)
 be:Bq w0 w
section
variable{nd:Fl.Node}
def Xs.below(h:Xs w0 w Xb lv wv ls acc lvs)(hb:Bq w w'):Xs w0 w' Xb lv wv ls acc lvs:=by
 have hx:=h.hz;exact⟨h.x0,Qj hx hb.size,(hb.cell (p:=(Aq Xb 0)) hx).trans h.c0,(hb.cell (p:=(Aq Xb 1)) hx).trans h.c1,λj=>(hb.frozen (p:=(Aq Xb j)) hx).trans (h.fz j),h.hl,Je h.ow hb,λp hp=>⟨(h.li p hp).1.below hb,λhn b hbb=>⟨((h.li p hp).2 hn b hbb).1,((h.li p hp).2 hn b hbb).2.of (hb.block b ((h.li p hp).2 hn b hbb).2.lt)⟩⟩,h.be.trans (hb.mono h.be.size)⟩
def Xs.ints(h:Xs w0 w Xb lv wv ls acc lvs):Zw w.heap.size w lv ls:=(h.li (lv,ls) (by simp)).1.1
def Xs.nodes(h:Xs w0 w Xb lv wv ls acc lvs):Yu w.heap.size w wv acc:=
 Ub h.ow h.hl (λi hi=>(h.li _ (by simp only[List.mem_cons];right;exact Jx acc lvs i h.hl hi)).1.1)
def Xs.push(h:Xs w0 w Xb lv wv ls acc lvs)(hb:Bq w W1)(hi:Zw w.heap.size w lvn nd.list)(hf:nd.list≠[]->∀b,lvn.ownBlock=some b->Xb<b/\some b≠wv.ownBlock/\Uk w b)
  (ho:W2.ownsRow (Xb+1) 92 6 wv' (acc.length+1) (flat acc lvs++Yl nd lvn)) (hg:W1.grownBy W2 wv.ownBlock) (hw:wv'.ownBlock=wv.ownBlock\/wv'.ownBlock=some W1.heap.size):
  Xs w0 (W2.setCell (Aq Xb 1) wv') Xb lv wv' ls (acc++[nd]) (lvs++[lvn]):=by
 have x0:=h.x0;have hz:=h.hz;have hsz:=hb.size;have d0:=hg.size
 have b0:∀c,wv.ownBlock=some c->Xb<c/\c<w.heap.size:=λc hc=>by have:=h.ow.lt c hc;omega
 have ne:some Xb≠wv.ownBlock:=λhh=>by have:=b0 Xb hh.symm;omega
 have c0:W2.cell? (Aq Xb 0)=some lv:=hg.cell ((hb.cell (p:=(Aq Xb 0)) hz).trans h.c0) ne;have c1:W2.cell? (Aq Xb 1)=some wv:=hg.cell ((hb.cell (p:=(Aq Xb 1)) hz).trans h.c1) ne;have hk:∀p,p∈(lv,ls)::Xo (acc++[nd]) (lvs++[lvn])->Vh W2 p.1 p.2 Zq wv'/\(p.2≠[]->∀b,p.1.ownBlock=some b->Xb<b/\Uk W2 b):=by
  intro p hp;rw[Jt _ _ _ _ h.hl,<-List.cons_append,List.mem_append,List.mem_singleton]at hp;rcases hp with hp|hp
  ·obtain⟨k1,k2⟩:=h.li p hp
   exact⟨(k1.below hb).second hg hw,λhn b a0=>⟨(k2 hn b a0).1,(k2 hn b a0).2.of ((hg.block b (Qj (k2 hn b a0).2.lt hsz) (by rw[<-a0];exact(k1.2 hn).2)).trans (hb.block b (k2 hn b a0).2.lt))⟩⟩
  subst hp;refine⟨Vh.second (nv:=wv) ⟨Un hi hb,λhn=>?_⟩ hg hw,λhn b a0=>⟨(hf hn b a0).1,(hf hn b a0).2.2.of ((hg.block b (Qj (hf hn b a0).2.2.lt hsz) (hf hn b a0).2.1).trans (hb.block b (hf hn b a0).2.2.lt))⟩⟩;obtain⟨ao,cap,e,-,-,h3⟩:=hi;obtain⟨b,off,e2,-,-⟩:=h3 hn;have h5:lvn.ownBlock=some b:=(by rw[e,e2];rfl);refine⟨by rw[h5];simp[Value.ownBlock],by rw[h5];exact(hf hn b h5).2.1⟩
 refine⟨x0,by rw[Zy];omega,(Qg _ _ _ _ (by intro hh;injection hh with _ h5;omega)).trans c0,World.cell?_setCell_same' _ _ _ (by rw[c1];rfl),λj=>by rw[World.frozen?_setCell];exact(Qd (w:=W1) (hg.block Xb (by omega) ne)).trans ((hb.frozen (p:=(Aq Xb j)) hz).trans (h.fz j)),by simp[h.hl],?_,λp hp=>⟨(hk p hp).1.set (λhx hh=>by have:=((hk p hp).2 hx Xb hh).1;omega),λhn b a0=>⟨((hk p hp).2 hn b a0).1,((hk p hp).2 hn b a0).2.of (Zx _ _ _ _ _ (by have:=((hk p hp).2 hn b a0).1;omega))⟩⟩,?_⟩
 ·rw[zv9 _ _ _ _ h.hl,List.length_append,List.length_singleton];exact ownsRow_setCell_below ho (by simp) wv'
 exact((h.be.trans (hb.mono (by omega))).grown hg (by omega) (λk hk=>by have:=b0 k hk;omega)).setCell (by show w0.heap.size<=Xb;omega) _
end
def Vt(X:Value×List Int->Prop)(w0 w:World)(Xb:Nat)(lv wv:Value)(ls:List Int)(acc:List Fl.Node)(lvs:List Value)(r:Int×List Fl.Node)(e:Ending)(w':World):Prop:=e=.returned (Iq r.1)/\∃wv' lvs',Xs w0 w' Xb lv wv' ls r.2 lvs'/\Yw w w' Xb Xb wv wv'/\Xc X w acc lvs r.2 lvs'
def put1_at{nd:Fl.Node}{k:Nat}(hk:k<acc.length)(he:Fl.eqNode (Fl.nth acc k) nd=true)(hn:∀j,j<k->Fl.eqNode (Fl.nth acc j) nd=false):Fl.put1 acc nd=((k:Int),acc):=by
 unfold Fl.put1;rw[Fl.find_first (λi=>Fl.eqNode (Fl.nth acc i) nd) _ k hn hk he]
def put1_no{nd:Fl.Node}(hn:∀j,j<acc.length->Fl.eqNode (Fl.nth acc j) nd=false):Fl.put1 acc nd=((acc.length:Int),acc++[nd]):=by
 unfold Fl.put1;rw[Fl.find_none (λi=>Fl.eqNode (Fl.nth acc i) nd) _ hn]
section
variable{nd:Fl.Node}
def zt7(h:Xs w0 w Xb lv wv ls acc lvs)(hi:Zw w.heap.size w lvn nd.list)(hb:nd.list≠[]->∀b,lvn.ownBlock=some b->Xb<b/\some b≠wv.ownBlock/\Uk w b)(hn:acc.length<=100000):
  Cq 62 #[Pq Xb,ndV nd lvn] w (Vt (λp=>p=(lvn,nd.list)) w0 w Xb lv wv ls acc lvs (Fl.put1 acc nd)):=by
 have hz:=h.hz;obtain⟨la,lc,rfl,-⟩:=id hi;obtain⟨ln,K0⟩:=nmE (nd.list.length);rw[<-K0]at hi hb⊢;obtain⟨lvn,m0⟩:=nmE (Value.slice la ln lc);have i0:=Zz m0
 have HI:Hid (Zw w.heap.size w lvn nd.list):=by rw[m0];exact hi
 have n0:Hid (nd.list≠[]->∀b,lvn.ownBlock=some b->Xb<b/\some b≠wv.ownBlock/\Uk w b):=by rw[m0];exact hb
 have HH:=Zz h;obtain⟨W0,k0⟩:=nmE (w.alloc (.cells #[Iq nd.kind,Iq nd.level,Iq nd.a,Iq nd.b,Iq nd.c,.slice la ln lc] 92))
 have o0:Hid (Bq w W0):=by show Below _ _ _;rw[k0];exact bA
 have f0:w.heap.size<W0.heap.size:=by rw[k0];simp
 have x0:Hid (∀V,Bq W0 V->V.cell? (Aq w.heap.size 0)=some (Iq nd.kind)/\V.cell? (Aq w.heap.size 1)=some (Iq nd.level)/\V.cell? (Aq w.heap.size 2)=some (Iq nd.a)/\V.cell? (Aq w.heap.size 3)=some (Iq nd.b)/\V.cell? (Aq w.heap.size 4)=some (Iq nd.c)/\V.cell? (Aq w.heap.size 5)=some (.slice la ln lc)):=λV hV=>by
  have q:∀j,V.cell? (Aq w.heap.size j)=W0.cell? (Aq w.heap.size j):=λj=>hV.cell (p:=(Aq w.heap.size j)) f0;refine⟨(q 0).trans ?_,(q 1).trans ?_,(q 2).trans ?_,(q 3).trans ?_,(q 4).trans ?_,(q 5).trans ?_⟩
  all_goals rw[k0];simp
 have HX:Hid (∀V,Bq W0 V->Xs w0 V Xb lv wv ls acc lvs):=λV hV=>h.below (o0.out.trans (hV.mono (Nat.le_of_lt f0)))
 have y0:Hid (∀V,Bq W0 V->∀k,k<acc.length->∃g c lo ll lk,wv=.slice (some (Aq g 0)) acc.length c/\g<w.heap.size/\(∀V',Bq V V'->V'.cell? (Aq g (k*6))=some (Iq (Fl.nth acc k).kind)/\V'.cell? (Aq g (k*6+1))=some (Iq (Fl.nth acc k).level)/\V'.cell? (Aq g (k*6+2))=some (Iq (Fl.nth acc k).a)/\V'.cell? (Aq g (k*6+3))=some (Iq (Fl.nth acc k).b)/\V'.cell? (Aq g (k*6+4))=some (Iq (Fl.nth acc k).c)/\V'.cell? (Aq g (k*6+5))=some (.slice lo ll lk))/\∀V',Bq V V'->Cq 65 #[.agg #[Iq (Fl.nth acc k).kind,Iq (Fl.nth acc k).level,Iq (Fl.nth acc k).a,Iq (Fl.nth acc k).b,Iq (Fl.nth acc k).c,.slice lo ll lk],.agg #[Iq nd.kind,Iq nd.level,Iq nd.a,Iq nd.b,Iq nd.c,.slice la ln lc]] V' λe w'=>e=.returned (.bool (Fl.eqNode (Fl.nth acc k) nd))/\Bq V' w'):=λV hV k hk=>by
  have Z0:=HX.out V hV;obtain⟨ao,cap,e,h1,h2,h3⟩:=Z0.nodes;obtain⟨g,off,e2,hg,hc⟩:=h3 (by intro e;rw[e]at hk;cases hk);obtain⟨lv',z0,d0,d1,d2,d3,d4,d5⟩:=hc k hk;obtain⟨lo,lk,e5,-⟩:=id z0;have A0:=HH.out.ow;obtain⟨g2,c2,cur,e3,-,a1,-⟩:=A0.2.resolve_left (by rintro⟨-,h0⟩;omega);have e4:=e.symm.trans e3;rw[e2]at e4;injection e4 with e4 e6 e7;injection e4 with e4;injection e4 with e8 e9 e10;subst e9;have B0:g<w.heap.size:=(by rw[e8];exact(Array.getElem?_eq_some_iff.1 a1).1);refine⟨g,cap,lo,(Fl.nth acc k).list.length,lk,by rw[e,e2],B0,λV' hV'=>?_,λV' hV'=>?_⟩
  ·have q:∀j,V'.cell? (Aq g j)=V.cell? (Aq g j):=λj=>hV'.cell (p:=(Aq g j)) hg
   rw[e5]at d5;simp only[Nat.zero_add]at d0 d1 d2 d3 d4 d5;exact⟨(q _).trans d0,(q _).trans d1,(q _).trans d2,(q _).trans d3,(q _).trans d4,(q _).trans d5⟩
  rw[e5]at z0;have b1:Zw V.heap.size V (.slice la ln lc) nd.list:=by
   rw[<-i0.out];exact Un HI.out (o0.out.trans (hV.mono (Nat.le_of_lt f0)))
  exact zg9 (Fl.nth acc k) nd _ _ V'.heap.size V' (Nat.le_refl _) ((z0.below hV').mono hV'.size) ((b1.below hV').mono hV'.size)
 obtain⟨wa,wn,wc,C0⟩:∃a b c,wv=.slice a b c:=by obtain⟨a,c,e,-⟩:=h.nodes;exact⟨a,_,c,e⟩
 obtain⟨an,D0⟩:=nmE (acc.length)
 have f1:wn=an:=by obtain⟨a,c,e,-⟩:=h.nodes;rw[C0]at e;injection e with e1 e2 e3;rw[e2,D0]
 subst f1
 have z1:(wn:Int)<=100000:=by omega
 have g0:=Zz D0;have L0:=Zz C0
 have E0:Hid (∀V,Bq W0 V->V.cell? (Aq Xb 1)=some (.slice wa wn wc)):=λV hV=>by rw[<-L0.out];exact(HX.out V hV).c1
 clear hi hb h m0 K0 C0 D0 hn;unfold ndV
 go_enter func62,ntmps62
 go_wp2_with fail
 rw[<-k0];clear k0
 go_loopw [5] (λi wr=>Bq W0 wr/\∃k:Nat,k<=wn/\i=Iq k/\∀j,j<k->Fl.eqNode (Fl.nth acc j) nd=false) (λi _=>wn - (intOf i).toNat)
 case atStart=>exact⟨Below.refl _ _,0,Nat.zero_le _,rfl,λj hj=>by omega⟩
 case round=>
  obtain⟨M0,k,hk,rfl,hno⟩:=hrel;have b0:=Zz M0;have p0:=Zz hno;clear hno M0;have x1:=E0.out wr b0.out
  by_cases N0:k<wn
  ·have g1:(k:Int)<(wn:Int):=by omega
   obtain⟨g,c,lo,ll,lk,ewv,B0,O0,P0⟩:=y0.out wr b0.out k (by rw[<-g0.out];exact N0);have e9:=L0.out.symm.trans ewv;injection e9 with e1 e2 e3;subst e1;have HQ:=Zz P0;have Q0:=Zz O0
   have R0:Hid (∀V,Bq wr V->V.cell? (Aq Xb 1)=some (.slice (some (Aq g 0)) wn wc)/\V.cell? (Aq g (k*6))=some (Iq (Fl.nth acc k).kind)/\V.cell? (Aq g (k*6+1))=some (Iq (Fl.nth acc k).level)/\V.cell? (Aq g (k*6+2))=some (Iq (Fl.nth acc k).a)/\V.cell? (Aq g (k*6+3))=some (Iq (Fl.nth acc k).b)/\V.cell? (Aq g (k*6+4))=some (Iq (Fl.nth acc k).c)/\V.cell? (Aq g (k*6+5))=some (.slice lo ll lk)/\V.cell? (Aq w.heap.size 0)=some (Iq nd.kind)/\V.cell? (Aq w.heap.size 1)=some (Iq nd.level)/\V.cell? (Aq w.heap.size 2)=some (Iq nd.a)/\V.cell? (Aq w.heap.size 3)=some (Iq nd.b)/\V.cell? (Aq w.heap.size 4)=some (Iq nd.c)/\V.cell? (Aq w.heap.size 5)=some (.slice la ln lc)):=λV hV=>by
    obtain⟨q0,q1,q2,q3,q4,q5⟩:=Q0.out V hV;have S0:=b0.out.trans (hV.mono b0.out.size);obtain⟨r0,r1,r2,r3,r4,r5⟩:=x0.out V S0;exact⟨E0.out V S0,q0,q1,q2,q3,q4,q5,r0,r1,r2,r3,r4,r5⟩
   have T0:Hid (∀e,Fl.eqNode (Fl.nth acc k) nd=e->((e=true->Fl.put1 acc nd=((k:Int),acc))/\(e=false->∀j,j<k+1->Fl.eqNode (Fl.nth acc j) nd=false))):=λe he=>⟨λh=>put1_at (by rw[<-g0.out];exact N0) (he.trans h) p0.out,λh j hj=>by
    by_cases j1:j=k
    ·rw[j1,he,h]
    exact p0.out j (by omega)⟩
   generalize hres:Fl.eqNode (Fl.nth acc k) nd=res at*;have s0:=Zz (T0.out res rfl);generalize Fl.nth acc k=nk at*;clear O0 P0 Q0 hres ewv e2 e3 T0 y0 B0
   go_wp2_with fail
   clear x1;refine Yz R0 dA [8] [] [] (by kernel_rfl) (λc a d v w h=>by cases d<;>exact h) (λops _=>?_)
   iterate 8 refine Zs rfl (by rintro _ ⟨_,_,_,_,_,_,_,_,_,_,_,_,_⟩;go_simp<;>rfl) (by go_simp<;>rfl) ?_
   refine Zu ?_
   go_wp2_with fail
   refine(HQ.out _ dA).mono ?_;rintro e1 W1 ⟨rfl,U0⟩;have F0:Hid (Bq wr W1):=dA.trans U0;clear U0 HQ
   go_wp2_with fail
   refine⟨R0.out _ F0.out,?_⟩;refine Zs rfl (by rintro _ ⟨_,_,_,_,_,_,_,_,_,_,_,_,_⟩;go_simp<;>rfl) (by go_simp<;>rfl) ?_;refine Zl ?_;have j0:Hid (Bq w W1):=(o0.out.trans (b0.out.mono (Nat.le_of_lt f0))).trans (F0.out.mono (Nat.le_trans (Nat.le_of_lt f0) b0.out.size))
   cases res
   ·have k1:=Zz (s0.out.2 rfl)
    clear s0;go_wp2
    go_roundw
    case rel=>exact⟨b0.out.trans (F0.out.mono b0.out.size),k+1,by omega,by go_num,k1.out⟩
    case measure=>simp[intOf];omega
   have HE:Hid (Vt (λp=>p=(lvn,nd.list)) w0 w Xb lv wv ls acc lvs (Fl.put1 acc nd) (.returned (Iq (k:Int))) W1):=by
    rw[s0.out.1 rfl];exact⟨rfl,wv,lvs,HH.out.below j0.out,Yw.of_below j0.out,Xc.refl _ _ _ _⟩
   clear s0;go_wp2;go_ret;rw[i0.out]at HE;exact HE.out
  have g1:¬(k:Int)<(wn:Int):=(by omega)
  obtain rfl:k=wn:=by omega
  have u0:=Zz (HX.out wr b0.out);have hacc:acc.length<=100000:=(by rw[<-g0.out];omega);have j0:Hid (Bq w wr):=o0.out.trans (b0.out.mono (Nat.le_of_lt f0));have A1:w.heap.size<wr.heap.size:=Qj f0 b0.out.size
  have V0:some Xb≠wv.ownBlock:=λhh=>by have:=(HH.out.ow.lt Xb hh.symm).1;omega
  have l1:some w.heap.size≠wv.ownBlock:=λhh=>by have:=(HH.out.ow.lt _ hh.symm).2;omega
  have m1:Hid (∀V:World,(V.cell? (Aq Xb 1)=some wv/\V.cell? (Aq w.heap.size 0)=some (Iq nd.kind)/\V.cell? (Aq w.heap.size 1)=some (Iq nd.level)/\V.cell? (Aq w.heap.size 2)=some (Iq nd.a)/\V.cell? (Aq w.heap.size 3)=some (Iq nd.b)/\V.cell? (Aq w.heap.size 4)=some (Iq nd.c)/\V.cell? (Aq w.heap.size 5)=some (.slice la ln lc))->(V.cell? (Aq Xb 1)=some wv/\V.cell? (Aq w.heap.size 0)=some (Iq nd.kind)/\V.cell? (Aq w.heap.size 1)=some (Iq nd.level)/\V.cell? (Aq w.heap.size 2)=some (Iq nd.a)/\V.cell? (Aq w.heap.size 3)=some (Iq nd.b)/\V.cell? (Aq w.heap.size 4)=some (Iq nd.c)/\V.cell? (Aq w.heap.size 5)=some (.slice la ln lc))):=λV h=>h
  have G0:Hid (∀V:World,(∀b,b<=w.heap.size->some b≠wv.ownBlock->V.heap[b]?=wr.heap[b]?)->V.cell? (Aq Xb 1)=some wv/\V.cell? (Aq w.heap.size 0)=some (Iq nd.kind)/\V.cell? (Aq w.heap.size 1)=some (Iq nd.level)/\V.cell? (Aq w.heap.size 2)=some (Iq nd.a)/\V.cell? (Aq w.heap.size 3)=some (Iq nd.b)/\V.cell? (Aq w.heap.size 4)=some (Iq nd.c)/\V.cell? (Aq w.heap.size 5)=some (.slice la ln lc)):=λV hV=>by
   obtain⟨t0,t1,t2,t3,t4,t5⟩:=x0.out wr b0.out;have qx:=Qc (a:=(Aq Xb 1)) (hV Xb (by omega) V0);have qn:∀j,V.cell? (Aq w.heap.size j)=wr.cell? (Aq w.heap.size j):=λj=>Qc (a:=(Aq w.heap.size j)) (hV _ (Nat.le_refl _) l1);exact⟨qx.trans u0.out.c1,(qn 0).trans t0,(qn 1).trans t1,(qn 2).trans t2,(qn 3).trans t3,(qn 4).trans t4,(qn 5).trans t5⟩
  have H0:Hid (Fl.put1 acc nd=((acc.length:Int),acc++[nd])):=put1_no (by rw[<-g0.out];exact p0.out);clear y0 p0 E0 x0
  go_wp2_with fail
  clear x1;refine Yz m1 (G0.out _ (λb _ _=>rfl)) [6,7,8] [10] [] (by kernel_rfl) (λc a d v w h=>by cases d<;>exact h) (λops _=>?_)
  iterate 6 refine Zs rfl (by rintro _ ⟨_,_,_,_,_,_,_⟩;go_simp<;>rfl) (by go_simp<;>rfl) ?_
  refine Zu ?_
  go_wp2_with fail
  obtain⟨W3,l0⟩:=nmE ((wr.alloc (.cells #[Iq nd.kind,Iq nd.level,Iq nd.a,Iq nd.b,Iq nd.c,.slice la ln lc] 92)).drew);rw[<-l0];have c0:Hid (Bq wr W3):=(by show Below _ _ _;rw[l0];exact bA.drew);have tc:∀j u,(Yl nd (.slice la ln lc))[j]?=some u->W3.cell? (((Aq wr.heap.size 0):Addr).add j)=some u:=(by rw[l0];exact zsx (w:=wr) (l:=Yl nd (.slice la ln lc)));have B1:wr.heap.size+1=W3.heap.size:=(by rw[l0];simp);have X0:=G0.out W3 (λb hb _=>c0.out.block b (by omega));have Y0:Hid (W3.ownsRow (Xb+1) 92 6 wv acc.length (flat acc lvs)):=Je u0.out.ow c0.out;obtain⟨i1,n1,o1,p1,s1⟩:=info_parts Tryz.infoNodeW;clear l0;refine⟨X0,?_⟩;refine Zu ?_
  go_wp2_with (at_builtin;refine Zn _ rfl (.tmp 31) (.tmp 33) 28 rfl (Xb+1) 92 i1 (.agg #[Iq 0,Iq 0,Iq 0,Iq 0,Iq 0,Zq]) 6 64 underlying28 n1 o1 p1 s1 rfl (by decide) _ _ _ rfl Y0.out (Aq wr.heap.size 0) 1 1 (Yl nd (.slice la ln lc)) rfl rfl (by decide) tc (by intro u hu;simp[Yl]at hu;rcases hu with rfl|rfl|rfl|rfl|rfl|rfl<;>rfl) (by unfold maxLen;omega) (by omega) (by omega) ?_)
  intro v' W4 a0 e0 I0;rw[<-g0.out]at a0;obtain⟨g4,k4,rfl⟩:∃g4 k4,v'=.slice (some (Aq g4 0)) (k+1) k4:=by
   rcases a0.2 with⟨h1,h2⟩|⟨g4,cp,cur,h1,_⟩
   ·omega
   exact⟨g4,cp,h1⟩
  have J0:=G0.out W4 (λb hb u1=>(e0.block b (by omega) u1).trans (c0.out.block b (by omega)));have HE:Hid (Vt (λp=>p=(lvn,nd.list)) w0 w Xb lv wv ls acc lvs (Fl.put1 acc nd) (.returned (Iq (k:Int))) (W4.setCell (Aq Xb 1) (.slice (some (Aq g4 0)) (k+1) k4))):=by
   rw[H0.out];have v1:Zw wr.heap.size wr (.slice la ln lc) nd.list:=(by rw[<-i0.out];exact Un HI.out j0.out);refine⟨by rw[<-g0.out],_,lvs++[.slice la ln lc],Xs.push u0.out c0.out v1 (by rw[<-i0.out];exact λhn b v0=>⟨(n0.out hn b v0).1,(n0.out hn b v0).2.1,(n0.out hn b v0).2.2.of (j0.out.block b (n0.out hn b v0).2.2.lt)⟩) (by rw[<-g0.out];exact a0) e0 I0,?_⟩;have y1:Yw wr (W4.setCell (Aq Xb 1) (.slice (some (Aq g4 0)) (k+1) k4)) Xb Xb wv (.slice (some (Aq g4 0)) (k+1) k4):=by
    refine⟨e0.os.trans c0.out.os,e0.tape.trans c0.out.tape,e0.output.trans c0.out.output,by rw[Zy];exact Nat.le_trans c0.out.size e0.size,λc h1 h2 h3 h4=>?_,?_⟩
    ·exact(Zx _ _ _ _ _ h2).trans ((e0.block c (by omega) h4).trans (c0.out.block c h1))
    rcases I0 with e|e
    ·exact .inl e
    exact .inr ⟨_,e,c0.out.size⟩
   refine⟨(Yw.of_below j0.out).trans y1,λp hp=>?_⟩;rw[Jt _ _ _ _ HH.out.hl,List.mem_append,List.mem_singleton]at hp;rcases hp with hp|hp
   ·exact .inl hp
   exact .inr (.inl (by rw[hp,i0.out]))
  have fzx:W4.frozen? (Aq Xb 1)=false:=(Qd (w:=wr) ((e0.block Xb (by omega) V0).trans (c0.out.block Xb (by omega)))).trans (u0.out.fz 1);have cx1:=J0.1;clear a0 e0 I0 Y0 tc X0
  go_wp2_with fail
  refine⟨J0,?_⟩;refine Zu ?_
  go_wp2_with fail
  refine⟨J0,?_⟩;refine Zs rfl (by rintro _ ⟨_,_,_,_,_,_,_⟩;go_simp<;>rfl) (by go_simp<;>rfl) ?_;refine Ye ?_
  go_wp2_with fail
  refine Zl ?_;go_wp2;go_ret;rw[i0.out]at HE;exact HE.out
end
def At.wstep{W W':World}{Xb:Nat}{wv wv':Value}(h:Yw W W' Xb Xb wv wv'):∀{l:List (Addr×Value)},(∀q∈l,q.1.block≠Xb/\some q.1.block≠wv.ownBlock)->At W l->At W' l
 |[],_,_=>trivial
 |q::l,hl,⟨⟨h1,h2⟩,h3⟩=>⟨⟨Qj h1 h.sz,(Qc (a:=q.1) (h.bl _ h1 (hl q (by simp)).1 (hl q (by simp)).1 (hl q (by simp)).2)).trans h2⟩,At.wstep h (λq hq=>hl q (by simp[hq])) h3⟩
def Yw.off{W':World}(h:Yw W W' Xb Xb wv wv')(hc:c<W.heap.size)(hn:some c≠wv.ownBlock):some c≠wv'.ownBlock:=by
 rcases h.ow with e|⟨g,e,hg⟩
 ·rw[e];exact hn
 rw[e];intro hh;injection hh with hh;omega
def Vt.up{X:Value×List Int->Prop}{r:Int×List Fl.Node}(hb:Bq w W)(h:Vt X w0 W Xb lv wv ls acc lvs r e w')(hX:∀p,X p->p.2=[]):Vt (λ_=>False) w0 w Xb lv wv ls acc lvs r e w':=by
 obtain⟨h1,wv',lvs',h2,h3,h4⟩:=h;refine⟨h1,wv',lvs',h2,(Yw.of_below hb).trans h3,λp hp=>?_⟩;rcases h4 p hp with h5|h5|h5|h5
 ·exact .inl h5
 ·exact .inr (.inr (.inl (hX p h5)))
 ·exact .inr (.inr (.inl h5))
 exact .inr (.inr (.inr λb hb'=>Nat.le_trans hb.size (h5 b hb')))
section
variable{Pb Lq:Nat}{rb:Nat->Nat}{clv hv bv:Value}{p:Fl.Prog}
def zd3(hp:zy2 w0 Pb Lq rb clv hv bv p)(h:Xs w0 w Xb lv wv ls acc lvs)(h4:ls.length<=4){a:Fl.Atom}(ho:zy5 (Fl.vars p ls) a)(hn:acc.length<=1000):
  Cq 90 #[Pq Pb,Pq Xb,.agg #[.bool a.var,Iq a.v]] w (Vt (λ_=>False) w0 w Xb lv wv ls acc lvs (Fl.wAtom p (Fl.vars p ls) acc a)):=by
 obtain⟨la,ln,lc,i0⟩:∃a b c,lv=.slice a b c:=by obtain⟨a,c,e,-⟩:=h.ints;exact⟨a,_,c,e⟩
 obtain⟨wa,wn,wc,j0⟩:∃a b c,wv=.slice a b c:=by obtain⟨a,c,e,-⟩:=h.nodes;exact⟨a,_,c,e⟩
 subst i0 j0;have HH:=Zz h;have hz:=h.hz;obtain⟨W0,b0⟩:=nmE (w.alloc (.cells #[.bool a.var,Iq a.v] 115))
 have g0:Hid (Bq w W0):=by show Below _ _ _;rw[b0];exact bA
 have e0:w.heap.size<W0.heap.size:=by rw[b0];simp
 have HX:Hid (∀V,Bq W0 V->Xs w0 V Xb (.slice la ln lc) (.slice wa wn wc) ls acc lvs):=λV hV=>h.below (g0.out.trans (hV.mono (Nat.le_of_lt e0)))
 have HS:Hid (∀V,Bq W0 V->V.cell? (Aq Xb 0)=some (.slice la ln lc)/\V.cell? (Aq Xb 1)=some (.slice wa wn wc)/\V.cell? (Aq w.heap.size 0)=some (.bool a.var)/\V.cell? (Aq w.heap.size 1)=some (Iq a.v)):=λV hV=>by
  have q:∀j,V.cell? (Aq w.heap.size j)=W0.cell? (Aq w.heap.size j):=λj=>hV.cell (p:=(Aq w.heap.size j)) e0;exact⟨(HX.out V hV).c0,(HX.out V hV).c1,(q 0).trans (by rw[b0];simp),(q 1).trans (by rw[b0];simp)⟩
 have HL:Hid (∀V,Bq W0 V->Cq 89 #[Pq Pb,.agg #[.slice la ln lc,.slice wa wn wc],.agg #[.bool a.var,Iq a.v]] V λe w'=>e=.returned (Iq (Fl.atomLv p (Fl.vars p ls) a))/\Bq V w'):=λV hV=>zr8 (hp.below (HX.out V hV).be) (HX.out V hV).ints wa wn wc h4 ho
 have HP:Hid (∀V,Bq W0 V->∀k,k=(if a.var then 1 else 0)->Cq 62 #[Pq Xb,.agg #[Iq k,Iq (Fl.atomLv p (Fl.vars p ls) a),Iq a.v,Iq 0,Iq 0,Zq]] V (Vt (λ_=>False) w0 w Xb (.slice la ln lc) (.slice wa wn wc) ls acc lvs (Fl.wAtom p (Fl.vars p ls) acc a))):=λV hV k hk=>by
  rw[hk];exact(zt7 (nd:=⟨if a.var then 1 else 0,Fl.atomLv p (Fl.vars p ls) a,a.v,0,0,[]⟩) (lvn:=Zq) (HX.out V hV) (Zw.nil _ _) (λhn=>absurd rfl hn) (by omega)).mono λe w' he=>he.up (g0.out.trans (hV.mono (Nat.le_of_lt e0))) (λq hq=>by rw[hq])
 generalize Fl.atomLv p (Fl.vars p ls) a=al at*;clear h hp ho
 go_enter func90,ntmps90
 go_wp2_with fail
 rw[<-b0];clear b0;refine Yz HS dA [5] [] [] (by kernel_rfl) (λc a d v w h=>by cases d<;>exact h) (λops _=>?_)
 iterate 5 refine Zs rfl (by rintro _ ⟨_,_,_,_⟩;go_simp<;>rfl) (by go_simp<;>rfl) ?_
 refine Zu ?_
 go_wp2_with fail
 refine(HL.out _ dA).mono ?_;rintro e1 W1 ⟨rfl,h0⟩;have a0:Hid (Bq W0 W1):=dA.trans h0;clear h0 HL
 go_wp2_with fail
 refine⟨HS.out _ a0.out,?_⟩;refine Zs rfl (by rintro _ ⟨_,_,_,_⟩;go_simp<;>rfl) (by go_simp<;>rfl) ?_;refine Zl ?_;obtain⟨-,-,c0,c1⟩:=HS.out _ a0.out;have k0:w.heap.size<W1.heap.size:=Qj e0 a0.out.size
 cases f0:a.var
 ·rw[f0]at c0
  have d0:=Zz λV hV=>HP.out V hV 0 (by rw[f0];rfl);clear HP
  go_wp2_with fail
  refine(d0.out _ (a0.out.alloc a0.out.size _)).mono ?_;rintro e2 W2 he;obtain⟨x,rfl⟩:∃x,e2=.returned x:=⟨_,he.1⟩;have HE:=Zz he;clear he d0;go_wp2;go_ret;exact HE.out
 rw[f0]at c0;have d0:=Zz λV hV=>HP.out V hV 1 (by rw[f0];rfl);clear HP
 go_wp2_with fail
 refine(d0.out _ (a0.out.alloc a0.out.size _)).mono ?_;rintro e2 W2 he;obtain⟨x,rfl⟩:∃x,e2=.returned x:=⟨_,he.1⟩;have HE:=Zz he;clear he d0;go_wp2;go_ret;exact HE.out
def Vt.then_{w1 w2:World}{r r1:Int×List Fl.Node}(hs:Yw w w1 Xb Xb wv wv1)(hl:Xc (λ_=>False) w acc lvs r1.2 lvs1)(h:Vt (λ_=>False) w0 w1 Xb lv wv1 ls r1.2 lvs1 r e w2):Vt (λ_=>False) w0 w Xb lv wv ls acc lvs r e w2:=by
 obtain⟨h1,wv',lvs',h2,h3,h4⟩:=h;exact⟨h1,wv',lvs',h2,hs.trans h3,hl.trans hs.sz h4⟩
def Xs.own(h:Xs w0 w Xb lv wv ls acc lvs)(hc:w.heap.size<=c):c≠Xb/\some c≠wv.ownBlock:=⟨by have:=h.hz;omega,λhh=>by have:=(h.ow.lt c hh.symm).2;omega⟩
def Xs.sl(h:Xs w0 w Xb lv wv ls acc lvs):(∃a b c,lv=.slice a b c)/\∃a b c,wv=.slice a b c:=by
 obtain⟨a,c,e,-⟩:=h.ints;obtain⟨a',c',e',-⟩:=h.nodes;exact⟨⟨a,_,c,e⟩,a',_,c',e'⟩
def zd4(hp:zy2 w0 Pb Lq rb clv hv bv p)(h:Xs w0 w Xb lv wv ls acc lvs)(h4:ls.length<=4)(ok:Fl.LvOk p (Fl.vars p ls)){e:Fl.Expr}(ho:Fl.ExprOk (Fl.vars p ls).length e)(hn:acc.length<=900):
  Cq 60 #[Pq Pb,Pq Xb,.agg #[Iq e.op,.bool e.a.var,Iq e.a.v,.bool e.b.var,Iq e.b.v]] w (Vt (λ_=>False) w0 w Xb lv wv ls acc lvs (Fl.wVal p (Fl.vars p ls) acc e)):=by
 obtain⟨⟨la,ln,lc,L0⟩,-⟩:=h.sl;subst L0;have hi:=zwz ho;have hz:=h.hz;obtain⟨W0,b0⟩:=nmE (w.alloc (.cells #[Iq e.op,.bool e.a.var,Iq e.a.v,.bool e.b.var,Iq e.b.v] 117))
 have g0:Hid (Bq w W0):=by show Below _ _ _;rw[b0];exact bA
 have t0:w.heap.size<W0.heap.size:=by rw[b0];simp
 have u0:Hid (At W0 [((Aq w.heap.size 0),Iq e.op),((Aq w.heap.size 1),.bool e.a.var),((Aq w.heap.size 2),Iq e.a.v),((Aq w.heap.size 3),.bool e.b.var),((Aq w.heap.size 4),Iq e.b.v)]):=by rw[b0];exact⟨⟨by simp,by simp⟩,⟨by simp,by simp⟩,⟨by simp,by simp⟩,⟨by simp,by simp⟩,⟨by simp,by simp⟩,trivial⟩
 have i0:=Zz (h.own (Nat.le_refl w.heap.size));have j0:Hid (∀V wv' acc' lvs' a,Xs w0 V Xb (.slice la ln lc) wv' ls acc' lvs'->zy5 (Fl.vars p ls) a->acc'.length<=1000->Cq 90 #[Pq Pb,Pq Xb,.agg #[.bool a.var,Iq a.v]] V (Vt (λ_=>False) w0 V Xb (.slice la ln lc) wv' ls acc' lvs' (Fl.wAtom p (Fl.vars p ls) acc' a))):=λV wv' acc' lvs' a hV ha hl=>zd3 hp hV h4 ha hl;have m0:Hid (∀V na nn nc,Zw V.heap.size V (.slice la ln lc) ls->Bq w0 V->Cq 58 #[Pq Pb,.agg #[.slice la ln lc,.slice na nn nc],.agg #[Iq e.op,.bool e.a.var,Iq e.a.v,.bool e.b.var,Iq e.b.v]] V λr w'=>r=.returned (Iq (Fl.valLv p (Fl.vars p ls) e))/\Bq V w'):=λV na nn nc hV hb=>zv4 (hp.below hb) hV na nn nc h4 ok ho;have HR:Hid (Fl.wVal p (Fl.vars p ls) acc e=if e.op<0 then Fl.wAtom p (Fl.vars p ls) acc e.a else Fl.put1 (Fl.wAtom p (Fl.vars p ls) (Fl.wAtom p (Fl.vars p ls) acc e.a).2 e.b).2 ⟨2,Fl.valLv p (Fl.vars p ls) e,e.op,(Fl.wAtom p (Fl.vars p ls) acc e.a).1,(Fl.wAtom p (Fl.vars p ls) (Fl.wAtom p (Fl.vars p ls) acc e.a).2 e.b).1,[]⟩):=rfl;have k0:Hid (∀(ac:List Fl.Node) a,(Fl.wAtom p (Fl.vars p ls) ac a).2.length<=ac.length+1):=λac a=>Fl.zput_len _ _;have HI:=Zz hi;generalize Fl.wVal p (Fl.vars p ls) acc e=res at*;generalize Fl.vars p ls=vs at*;have v0:=Zz (j0.out W0 _ _ _ e.a (h.below g0.out) HI.out.1 (by omega));clear h hp ho hi ok
 go_enter func60,ntmps60
 go_wp2_with fail
 rw[<-b0];clear b0;refine v0.out.mono ?_;rintro e1 W1 x0;have n0:=Zz x0;obtain⟨rfl,wv1,lvs1,y0,d0,z0⟩:=x0;have A0:=Zz y0;have B0:=Zz d0;have C0:Hid (Xc (λ_=>False) w acc lvs (Fl.wAtom p vs acc e.a).2 lvs1):=(Xc.refl _ _ _ _).trans g0.out.size z0
 have o0:Hid _:=At.wstep d0 (λq hq=>by
  simp only[List.mem_cons,List.not_mem_nil,or_false]at hq
  rcases hq with rfl|rfl|rfl|rfl|rfl<;>exact i0.out) u0.out
 have e0:Hid (w.heap.size≠Xb/\some w.heap.size≠wv1.ownBlock):=⟨i0.out.1,d0.off t0 i0.out.2⟩;have M0:w.heap.size<W1.heap.size:=Qj t0 d0.sz;obtain⟨⟨-,c0⟩,-,-,⟨-,c3⟩,⟨-,c4⟩,-⟩:=o0.out;clear y0 d0 z0 v0 u0
 by_cases D0:e.op<0
 ·have HE:Hid (Vt (λ_=>False) w0 w Xb (.slice la ln lc) wv ls acc lvs res (.returned (Iq (Fl.wAtom p vs acc e.a).1)) W1):=by
   rw[HR.out,if_pos D0];exact n0.out.up g0.out (λ_ h=>h.elim)
  clear n0 j0 m0 HR k0;go_wp2;go_ret;exact HE.out
 have h0:0<=e.op:=by omega
 have N0:=k0.out acc e.a;have E0:=Zz (HR.out.trans (if_neg D0));have a0:Hid (Yw w W1 Xb Xb wv wv1):=(Yw.of_below g0.out).trans B0.out;generalize Fl.wAtom p vs acc e.a=r1 at*;have O0:=k0.out r1.2 e.b;have F0:=Zz (j0.out W1 _ _ _ e.b A0.out (HI.out.2 h0) (by omega));generalize Fl.wAtom p vs r1.2 e.b=r2 at*;clear n0 j0 HR k0 B0
 go_wp2_with fail
 refine F0.out.mono ?_;rintro e2 W2 ⟨rfl,wv2,lvs2,p0,l0,G0⟩;obtain⟨-,wa,wn,wc,rfl⟩:=p0.sl;have f0:=Zz p0;have r0:Hid (Yw w W2 Xb Xb wv (.slice wa wn wc)):=a0.out.trans l0;have P0:Hid (Xc (λ_=>False) w acc lvs r2.2 lvs2):=C0.out.trans a0.out.sz G0
 have H0:=Zz (At.wstep l0 (λq hq=>by
  simp only[List.mem_cons,List.not_mem_nil,or_false]at hq
  rcases hq with rfl|rfl|rfl|rfl|rfl<;>exact e0.out) o0.out)
 have Q0:w.heap.size<W2.heap.size:=Qj M0 l0.sz;clear p0 l0 G0 F0 C0 a0 A0 o0 c0 c3 c4 i0 e0 HI
 have HS:Hid (∀V,Bq W2 V->V.cell? (Aq Xb 0)=some (.slice la ln lc)/\V.cell? (Aq Xb 1)=some (.slice wa wn wc)/\V.cell? (Aq w.heap.size 0)=some (Iq e.op)/\V.cell? (Aq w.heap.size 1)=some (.bool e.a.var)/\V.cell? (Aq w.heap.size 2)=some (Iq e.a.v)/\V.cell? (Aq w.heap.size 3)=some (.bool e.b.var)/\V.cell? (Aq w.heap.size 4)=some (Iq e.b.v)):=λV hV=>by
  obtain⟨⟨-,q0⟩,⟨-,q1⟩,⟨-,q2⟩,⟨-,q3⟩,⟨-,q4⟩,-⟩:=H0.out.below hV;exact⟨(f0.out.below hV).c0,(f0.out.below hV).c1,q0,q1,q2,q3,q4⟩
 have I0:=Zz λV (hV:Bq W2 V)=>m0.out V wa wn wc (f0.out.below hV).ints (f0.out.below hV).be
 have J0:Hid (∀V,Bq W2 V->Cq 62 #[Pq Xb,.agg #[Iq 2,Iq (Fl.valLv p vs e),Iq e.op,Iq r1.1,Iq r2.1,Zq]] V (Vt (λ_=>False) w0 w Xb (.slice la ln lc) wv ls acc lvs res)):=λV hV=>by
  rw[E0.out];refine(zt7 (nd:=⟨2,Fl.valLv p vs e,e.op,r1.1,r2.1,[]⟩) (lvn:=Zq) (f0.out.below hV) (Zw.nil _ _) (λhn=>absurd rfl hn) (by omega)).mono λe' w' he=>?_;exact Vt.then_ (r1:=r2) r0.out P0.out (he.up hV (λq hq=>by rw[hq]))
 generalize Fl.valLv p vs e=ev at*;clear m0 E0 H0
 go_wp2_with fail
 refine Yz HS dA [5] [] [] (by kernel_rfl) (λc a d v w h=>by cases d<;>exact h) (λops _=>?_)
 iterate 5 refine Zs rfl (by rintro _ ⟨_,_,_,_,_,_,_⟩;go_simp<;>rfl) (by go_simp<;>rfl) ?_
 refine Zu ?_
 go_wp2_with fail
 refine(I0.out _ dA).mono ?_;rintro e3 W3 ⟨rfl,K0⟩;have s0:Hid (Bq W2 W3):=dA.trans K0;clear K0 I0
 go_wp2_with fail
 refine⟨HS.out _ s0.out,?_⟩;refine Zs rfl (by rintro _ ⟨_,_,_,_,_,_,_⟩;go_simp<;>rfl) (by go_simp<;>rfl) ?_;refine Zl ?_;obtain⟨-,-,c0,-⟩:=HS.out _ s0.out
 go_wp2_with fail
 refine(J0.out _ s0.out).mono ?_;rintro e4 W4 he;obtain⟨x,rfl⟩:∃x,e4=.returned x:=⟨_,he.1⟩;have HE:=Zz he;clear he J0;go_wp2;go_ret;exact HE.out
end
structure Pv(Xb:Nat)(V:World)(wv:Value)(c:Nat)(o:Obj):Prop where
 x:Xb<c
 n:some c≠wv.ownBlock
 h:V.heap[c]?=some o
section
variable{V V' W3:World}{nb:Nat}{l5 v':Value}{ns:List Int}{u m:Int}{ac ac1:List Fl.Node}{lvs':List Value}{o:Obj}
def Pv.lt(h:Pv Xb V wv c o):c<V.heap.size:=by
 rcases Nat.lt_or_ge c V.heap.size with h'|h'
 ·exact h'
 have h5:=h.h;rw[Array.getElem?_eq_none h']at h5;cases h5
def Pv.below(h:Pv Xb V wv c o)(hb:Bq V V'):Pv Xb V' wv c o:=⟨h.x,h.n,(hb.block c h.lt).trans h.h⟩
def Pv.step(h:Pv Xb V wv c o)(hs:Yw V V' Xb Xb wv wv'):Pv Xb V' wv' c o:=⟨h.x,hs.off h.lt h.n,(hs.bl c h.lt (by have:=h.x;omega) (by have:=h.x;omega) h.n).trans h.h⟩
def Pv.other(h:Pv Xb V wv c o){b:Nat}(hb:c≠b)(j:Nat)(v:Value):Pv Xb (V.setCell (Aq b j) v) wv c o:=⟨h.x,h.n,(Zx _ _ _ _ _ hb).trans h.h⟩
def Pv.set{cs':Array Value}(h:Pv Xb V wv c (.cells cs t (0,0)))(j:Nat)(v:Value)(he:cs.setIfInBounds j v=cs'):Pv Xb (V.setCell (Aq c j) v) wv c (.cells cs' t (0,0)):=⟨h.x,h.n,by rw[<-he];exact zz0 h.h j v⟩
def Pv.cell{cs:Array Value}{t:TypeId}{fr:Nat×Nat}(h:Pv Xb V wv c (.cells cs t fr)){j:Nat}{v:Value}(hj:cs[j]?=some v):V.cell? (Aq c j)=some v:=by
 simp only[World.cell?,h.h];exact hj
def Pv.free(h:Pv Xb V wv c (.cells cs t (0,0)))(j:Nat):V.frozen? (Aq c j)=false:=by simp[World.frozen?,h.h]
def Xs.priv(h:Xs w0 w Xb lv wv ls acc lvs)(hp:Pv Xb w wv c (.cells cs 92 (0,0)))(j:Nat)(v:Value):Xs w0 (w.setCell (Aq c j) v) Xb lv wv ls acc lvs:=by
 have x0:=h.x0;have hx:=hp.x;have gs:w.grownBy (w.setCell (Aq c j) v) (some c):=⟨rfl,rfl,rfl,by rw[Zy];exact Nat.le_refl _,λk hk hn=>Zx _ _ _ _ _ (λe=>hn (by rw[e]))⟩
 have b0:some Xb≠some c:=by simp;omega
 have d0:∀p,p∈(lv,ls)::Xo acc lvs->p.2≠[]->∀b,p.1.ownBlock=some b->b≠c:=λp hp' a0 b hb e=>by
  obtain⟨cs',fr',h5⟩:=((h.li p hp').2 a0 b hb).2;rw[e,hp.h]at h5;injection h5 with h5;injection h5 with _ h6;exact absurd h6 (by decide)
 exact⟨h.x0,by rw[Zy];exact h.hz,gs.cell h.c0 b0,gs.cell h.c1 b0,λi=>by rw[World.frozen?_setCell];exact h.fz i,h.hl,h.ow.kept gs (.inr (λhh=>hp.n hh.symm)),λp hp'=>⟨(h.li p hp').1.set (λa0 hh=>d0 p hp' a0 c hh rfl),λa0 b hb=>⟨((h.li p hp').2 a0 b hb).1,((h.li p hp').2 a0 b hb).2.of (Zx _ _ _ _ _ (d0 p hp' a0 b hb))⟩⟩,h.be.setCell (by show w0.heap.size<=c;omega) _⟩
def Xs.other(h:Xs w0 w Xb lv wv ls acc lvs){row:Option Nat}(hg:w.grownBy V row)(hr:∀c,row=some c->Xb<c/\wv.ownBlock≠some c/\∀p,p∈(lv,ls)::Xo acc lvs->p.2≠[]->p.1.ownBlock≠some c):Xs w0 V Xb lv wv ls acc lvs:=by
 have x0:=h.x0
 have ne:some Xb≠row:=λhh=>by have:=(hr Xb hh.symm).1;omega
 have a0:wv.ownBlock=none\/wv.ownBlock≠row:=by
  cases hw:wv.ownBlock with
  |none=>exact .inl rfl
  |some g=>exact .inr (λhh=>(hr g hh.symm).2.1 hw)
 refine⟨h.x0,Qj h.hz hg.size,hg.cell h.c0 ne,hg.cell h.c1 ne,λj=>(Qd (w:=w) (hg.block Xb h.hz ne)).trans (h.fz j),h.hl,h.ow.kept hg a0,λp hp=>?_,h.be.grown hg (by have:=h.hz;omega) (λk hk=>by have:=(hr k hk).1;omega)⟩;obtain⟨k1,k2⟩:=h.li p hp;have hn:p.2≠[]->∀b,p.1.ownBlock=some b->some b≠row:=λh1 b hb hh=>(hr b hh.symm).2.2 p hp h1 hb;exact⟨⟨zq2 k1.1 hg hn,k1.2⟩,λh1 b hb=>⟨(k2 h1 b hb).1,(k2 h1 b hb).2.of (hg.block b (k2 h1 b hb).2.lt (hn h1 b hb))⟩⟩
structure zz6(w0 w V:World)(Xb nb:Nat)(lv wv wv':Value)(ls:List Int)(u:Int)(acc:List Fl.Node)(lvs:List Value)(ns:List Int)(ac:List Fl.Node)(lvs':List Value)(l5:Value):Prop where
 wi:Xs w0 V Xb lv wv' ls ac lvs'
 st:Yw w V Xb Xb wv wv'
 lo:Xc (λ_=>False) w acc lvs ac lvs'
 ll:∀p,p∈Xo ac lvs'->p.2≠[]->∀b,p.1.ownBlock=some b->l5.ownBlock≠some b
 lk:ls≠[]->∀b,lv.ownBlock=some b->b<nb
 nw:w.heap.size<=nb
 ow:V.ownsRow (nb+1) 3 1 l5 ns.length (ns.map (Value.int .i64))
 nd:Pv Xb V wv' nb (.cells #[Iq 7,Iq u,Iq 0,Iq 0,Iq 0,l5] 92 (0,0))
def zz6.below(h:zz6 w0 w V Xb nb lv wv wv' ls u acc lvs ns ac lvs' l5)(hb:Bq V V'):zz6 w0 w V' Xb nb lv wv wv' ls u acc lvs ns ac lvs' l5:=
 ⟨h.wi.below hb,h.st.trans (Yw.of_below hb),h.lo,h.ll,h.lk,h.nw,Je h.ow hb,h.nd.below hb⟩
def zz6.call(h:zz6 w0 w V Xb nb lv wv wv' ls u acc lvs ns ac lvs' l5)(h1:Xs w0 V' Xb lv wv1 ls ac1 lvs1)(hs:Yw V V' Xb Xb wv' wv1)(hl:Xc (λ_=>False) V ac lvs' ac1 lvs1):zz6 w0 w V' Xb nb lv wv wv1 ls u acc lvs ns ac1 lvs1 l5:=by
 have hx:=h.nd.x;refine⟨h1,h.st.trans hs,h.lo.trans h.st.sz hl,λp hp hn b hb hh=>?_,h.lk,h.nw,zl2 h.ow (λg hg=>hs.bl g (h.ow.lt g hg).2 (by have:=(h.ow.lt g hg).1;omega) (by have:=(h.ow.lt g hg).1;omega) (λhh=>zxw h.wi.ow g hh.symm (Vp h.ow g hg).2)),h.nd.step hs⟩;rcases hl p hp with h5|h5|h5|h5
 ·exact h.ll p h5 hn b hb hh
 ·exact h5
 ·exact hn h5
 have:=h5 b hb;have:=(h.ow.lt b hh).2;omega
def zz6.set{cs:Array Value}(h:zz6 w0 w V Xb nb lv wv wv' ls u acc lvs ns ac lvs' l5)(hp:Pv Xb V wv' c (.cells cs 92 (0,0)))(hc:nb<c)(j:Nat)(v:Value):zz6 w0 w (V.setCell (Aq c j) v) Xb nb lv wv wv' ls u acc lvs ns ac lvs' l5:=
 ⟨h.wi.priv hp j v,h.st.set (by have:=h.nw;omega) j v,h.lo,h.ll,h.lk,h.nw,zl2 h.ow (λg hg=>Zx _ _ _ _ _ (λe=>by
  obtain⟨cs',fr',h5⟩:=(Vp h.ow g hg).2;rw[e,hp.h]at h5;injection h5 with h5;injection h5 with _ h6
  exact absurd h6 (by decide))),h.nd.other (by omega) j v⟩
def zz6.next(h:zz6 w0 w V Xb nb lv wv wv' ls u acc lvs ns ac lvs' l5)(hb:Bq V W2)(ho:W3.ownsRow (nb+1) 3 1 v' (ns.length+1) (ns.map (Value.int .i64)++[Iq m]))(hg:W2.grownBy W3 l5.ownBlock)(hw:v'.ownBlock=l5.ownBlock\/v'.ownBlock=some W2.heap.size):
  zz6 w0 w (W3.setCell (Aq nb 5) v') Xb nb lv wv wv' ls u acc lvs (ns++[m]) ac lvs' v':=by
 have hx:=h.nd.x;have h2:=h.below hb;have hsz:=hb.size
 have a0:∀g,l5.ownBlock=some g->nb<g/\g<V.heap.size:=λg hh=>by have:=h.ow.lt g hh;omega
 have b0:Pv Xb W3 wv' nb (.cells #[Iq 7,Iq u,Iq 0,Iq 0,Iq 0,l5] 92 (0,0)):=⟨hx,h.nd.n,(hg.block nb h2.nd.lt (λhh=>by have:=a0 nb hh.symm;omega)).trans h2.nd.h⟩
 have c0:Xs w0 W3 Xb lv wv' ls ac lvs':=h2.wi.other hg (λc hc=>⟨by have:=a0 c hc;omega,λhh=>zxw h.wi.ow c hh (Vp h.ow c hc).2,λp hp hn hh=>by
  rcases List.mem_cons.1 hp with rfl|hp
  ·have:=h.lk hn c hh;have:=a0 c hc;omega
  exact h.ll p hp hn c hh hc⟩)
 refine⟨c0.priv b0 5 v',(h2.st.grown hg (λc hc=>by have:=a0 c hc;have:=h.nw;omega)).set h.nw 5 v',h.lo,λp hp hn b hb2 hh=>?_,h.lk,h.nw,?_,b0.set 5 v' (by simp)⟩
 ·rcases hw with e|e
  ·exact h.ll p hp hn b hb2 (e.symm.trans hh)
  rw[e]at hh;injection hh with hh;have:=((h.wi.li p (List.mem_cons_of_mem _ hp)).2 hn b hb2).2.lt;omega
 have h5:(W3.setCell (Aq nb 5) v').ownsRow (nb+1) 3 1 v' (ns.length+1) (ns.map (Value.int .i64)++[Iq m]):=ownsRow_setCell_below ho (by simp) v';rw[List.length_append,List.map_append];exact h5
end
def zvv(w0 w:World)(Xb:Nat)(lv wv:Value)(ls:List Int)(acc:List Fl.Node)(lvs:List Value)(F:Option (Fl.Stmt×Int))(r:Int×List Fl.Node)(e:Ending)(w':World):Prop:=
 ∃wv' ac lvs',Xs w0 w' Xb lv wv' ls ac lvs'/\Yw w w' Xb Xb wv wv'/\((∃m,F=some m/\e=.returned (.tuple #[Iq 0,Iq m.1.line]))\/(F=none/\ac=r.2/\e=.returned (.tuple #[Iq r.1,Iq 0])/\Xc (λ_=>False) w acc lvs ac lvs'))
def Xm(p:Fl.Prog)(vs:List Int)(m:Fl.Stmt×Int):Bool:= !Fl.fitsM p vs m
def zi9(w0:World)(Pb Xb:Nat)(lv:Value)(ls:List Int)(p:Fl.Prog)(d:Nat):Prop:=
 ∀(V:World) (wv:Value) (acc:List Fl.Node) (lvs:List Value) (v:Value) (l:List Fl.Stmt) (u:Int),Xs w0 V Xb lv wv ls acc lvs->Zf d (λb=>b<w0.heap.size) w0 v l->Fl.StmtsOk (Fl.vars p ls).length p.chans.length d l->Fl.LPos d l->(0<=u/\u<p.n)->acc.length+6*Fl.cnt d l+1<=200->
  Cq 31 #[Pq Pb,Pq Xb,v,Iq u] V (zvv w0 V Xb lv wv ls acc lvs ((Fl.moves p (Fl.vars p ls) d l u).find? (Xm p (Fl.vars p ls))) (Fl.wBlock p (Fl.vars p ls) d acc l u))
end Go.Proofs.YtjekbnmnjeoagaaGreatDoor
