import Derived.Test.YtjekbnmnjeoagaaGreatDoorM08
import Derived.Deep.DeepCutAuto
set_option linter.all false
set_option maxRecDepth 100000
set_option maxHeartbeats 40000000
namespace Go.Proofs.YtjekbnmnjeoagaaGreatDoor
open Go.RowKit Go.Proofs.Tryz
variable{w w' w0:World}{acc:List Fl.Node}{lvs lvs' xs:List Value}{Xb T B Fb Pb Lb nb base n:Nat}{wv clv chv bv vv v wv' lv:Value}{P:Program}{ops:Array Oper}{Q:Exit->Act->World->Prop}{S:World->Prop}{o:Oper}{a:Act}{p:Fl.Prog}{vs ns:List Int}{cs:Array Value}{t:TypeId}
def Xc(X:Value×List Int->Prop)(w:World)(acc:List Fl.Node)(lvs:List Value)(acc':List Fl.Node)(lvs':List Value):Prop:=∀p,p∈Xo acc' lvs'->p∈Xo acc lvs\/X p\/p.2=[]\/∀b,p.1.ownBlock=some b->w.heap.size<=b
def Xc.refl(X:Value×List Int->Prop)(w:World)(acc:List Fl.Node)(lvs:List Value):Xc X w acc lvs acc lvs:=λ_ h=> .inl h
def Xc.trans{acc' acc'':List Fl.Node}{lvs'':List Value}(h:Xc (λ_=>False) w acc lvs acc' lvs')(hw:w.heap.size<=w'.heap.size)(h':Xc (λ_=>False) w' acc' lvs' acc'' lvs''):Xc (λ_=>False) w acc lvs acc'' lvs'':=λp hp=>by
 rcases h' p hp with h1|h1|h1|h1
 ·exact h p h1
 ·exact h1.elim
 ·exact .inr (.inr (.inl h1))
 exact .inr (.inr (.inr λb hb=>Nat.le_trans hw (h1 b hb)))
def Vy(X:Value×List Int->Prop)(w0 w:World)(Xb T B Fb:Nat)(wv:Value)(acc:List Fl.Node)(lvs:List Value)(r:Int×List Fl.Node)(e:Ending)(w':World):Prop:=e=.returned (Iq r.1)/\∃wv' lvs',Yh w0 w' Xb T B Fb wv' r.2 lvs'/\Yw w w' Xb B wv wv'/\Xc X w acc lvs r.2 lvs'
def ndV(nd:Fl.Node)(lv:Value):Value:=.agg #[Iq nd.kind,Iq nd.level,Iq nd.a,Iq nd.b,Iq nd.c,lv]
section
variable{lvn:Value}{nd:Fl.Node}
def zv5(h:Yh w0 w Xb T B Fb wv acc lvs)(hf:Fl.fits nd)(hi:Zw w.heap.size w lvn nd.list)(hb:nd.list≠[]->∀b,lvn.ownBlock=some b->Xb<b/\some b≠wv.ownBlock/\Uk w b)(hn:acc.length<=100000000):
  Cq 203 #[Pq Xb,ndV nd lvn] w (Vy (λp=>p=(lvn,nd.list)) w0 w Xb T B Fb wv acc lvs (Fl.put1 acc nd)):=by
 obtain⟨x1,x2,x3⟩:=h.x0;have hz:=h.hz;obtain⟨la,lc,rfl,-⟩:=id hi;obtain⟨ln,D0⟩:=nmE (nd.list.length);rw[<-D0]at hi hb⊢;obtain⟨lvn,s0⟩:=nmE (Value.slice la ln lc);rw[<-s0]at hi hb⊢;obtain⟨W0,j0⟩:=nmE (w.alloc (.cells #[Iq nd.kind,Iq nd.level,Iq nd.a,Iq nd.b,Iq nd.c,lvn] 92))
 have p0:Hid (Bq w W0):=by show Below _ _ _;rw[j0];exact bA
 have a1:w.heap.size+1=W0.heap.size:=by rw[j0];simp
 have ND0:Vm W0 w.heap.size 0 nd lvn:=by
  rw[j0];exact⟨by simp,by simp,by simp,by simp,by simp,by simp,by rw[<-j0];exact Un hi p0.out⟩
 have q0:Hid (∀V,Bq W0 V->Vm V w.heap.size 0 nd lvn):=λV hV=>ND0.below hV;have HC:Hid (∀V,Bq W0 V->Cq 145 #[Pq w.heap.size] V λe w'=>e=.returned (.agg (Yo nd).toArray)/\Bq V w'):=λV hV=>zp2 (q0.out V hV) hf.2.2.2.2.2.1;have HX:Hid (∀V,Bq W0 V->Yh w0 V Xb T B Fb wv acc lvs):=λV hV=>h.below (p0.out.trans (hV.mono (by omega)));have L0:Hid (∀V:World,V.cell? (Aq Xb 2)=some (Pq T)/\True->V.cell? (Aq Xb 2)=some (Pq T)/\True):=λV h=>h;have HN:Hid (∀V,Bq W0 V->Cq 144 #[Pq T,.agg (Yo nd).toArray] V λe w'=>((∃(i:Nat) (hi:i<acc.length),acc[i]=nd/\e=.returned (.tuple #[Iq (i:Int),.bool false])/\Uf w' T B acc)\/(nd ∉ acc/\e=.returned (.tuple #[Iq (acc.length:Int),.bool true])/\Uf w' T B (acc++[nd])))/\V.grownBy w' (some B)):=λV hV=>yq8 (HX.out V hV).se hf hn;have HI:=Zz hi;have g0:=Zz hb;have HF:=Zz hf;generalize hcl:(Yo nd).toArray=cl at*;have r0:=Zz s0;clear ND0 hi hb hf hcl D0 s0;unfold ndV
 go_enter func203,ntmps203
 go_wp2_with fail
 rw[<-j0];clear j0;refine Yz L0 ⟨(HX.out _ dA).c2,trivial⟩ [4,5] [] [] (by kernel_rfl) (λc a d v w h=>by cases d<;>exact h) (λops _=>?_)
 iterate 4 refine Zs rfl (by rintro _ ⟨_,_⟩;go_simp<;>rfl) (by go_simp<;>rfl) ?_
 refine Zu ?_
 go_wp2_with fail
 refine(HC.out _ dA).mono ?_;rintro e1 W1 ⟨rfl,E0⟩;have h0:Hid (Bq W0 W1):=dA.trans E0;clear E0
 go_wp2_with fail
 refine⟨⟨(HX.out _ h0.out).c2,trivial⟩,?_⟩;refine Zu ?_
 go_wp2_with fail
 refine(HN.out _ h0.out).mono ?_;rintro e2 W2 ⟨M0,a0⟩;have k0:Hid (Yh w0 W1 Xb T B Fb wv acc lvs):=HX.out _ h0.out;have u0:=Zz a0
 have F0:some Xb≠some B:=by simp;omega
 have c22:W2.cell? (Aq Xb 2)=some (Pq T):=a0.cell k0.out.c2 F0;have b1:=h0.out.size;have v0:Hid (Yw w W2 Xb B wv wv):=by
  have l0:Bq w W1:=p0.out.trans (h0.out.mono (by omega));exact⟨a0.os.trans l0.os,a0.tape.trans l0.tape,a0.output.trans l0.output,Nat.le_trans l0.size a0.size,λc h1 _ h3 _=>(a0.block c (Qj h1 l0.size) (by simpa using h3)).trans (l0.block c h1),.inl rfl⟩
 rcases M0 with⟨i,G0,H0,rfl,m0⟩|⟨hno,rfl,m0⟩
 ·have HE:Hid (Vy (λp=>p=(lvn,nd.list)) w0 w Xb T B Fb wv acc lvs (Fl.put1 acc nd) (.returned (Iq (i:Int))) W2):=by
   have e9:Fl.put1 acc nd=((i:Int),acc):=yu2 G0 H0 (λj hj he=>m0.once G0 hj (by rw[he,H0]));rw[e9];exact⟨rfl,wv,lvs,k0.out.seen a0 m0,v0.out,Xc.refl _ _ _ _⟩
  clear m0 a0 HC HN q0
  go_wp2_with fail
  refine⟨⟨c22,trivial⟩,?_⟩
  iterate 5 refine Zs rfl (by rintro _ ⟨_,_⟩;go_simp<;>rfl) (by go_simp<;>rfl) ?_
  refine Zl ?_;go_wp2;go_ret;exact HE.out
 go_wp2_with fail
 refine⟨⟨c22,trivial⟩,?_⟩
 iterate 5 refine Zs rfl (by rintro _ ⟨_,_⟩;go_simp<;>rfl) (by go_simp<;>rfl) ?_
 refine Zl ?_
 have f0:some w.heap.size≠some B:=by simp;omega
 have i0:=q0.out _ h0.out;have t0:=a0.cell i0.c0 f0;have t1:=a0.cell i0.c1 f0;have t2:=a0.cell i0.c2 f0;have t3:=a0.cell i0.c3 f0;have t4:=a0.cell i0.c4 f0;have t5:=a0.cell i0.c5 f0;simp only[Nat.zero_add]at t0 t1 t2 t3 t4 t5;have c21:W2.cell? (Aq Xb 1)=some wv:=a0.cell k0.out.c1 F0;have N0:=Zz m0;have O0:=Zz hno;have I0:Hid (zj3 w0 W2 Xb T B Fb wv acc lvs):=k0.out.pre a0;have P0:Hid (W2.ownsRow (Xb+1) 92 6 wv acc.length (flat acc lvs)):=k0.out.ow.kept a0 (.inr (λhh=>by have:=(k0.out.ow.lt B hh).1;omega));rw[r0.out]at t5;clear i0 m0 hno a0 HC HN q0 c22
 go_wp2_with fail
 have Q0:Hid (∀V:World,(V.cell? (Aq Xb 1)=some wv/\V.cell? (Aq w.heap.size 0)=some (Iq nd.kind)/\V.cell? (Aq w.heap.size 1)=some (Iq nd.level)/\V.cell? (Aq w.heap.size 2)=some (Iq nd.a)/\V.cell? (Aq w.heap.size 3)=some (Iq nd.b)/\V.cell? (Aq w.heap.size 4)=some (Iq nd.c)/\V.cell? (Aq w.heap.size 5)=some (.slice la ln lc))->(V.cell? (Aq Xb 1)=some wv/\V.cell? (Aq w.heap.size 0)=some (Iq nd.kind)/\V.cell? (Aq w.heap.size 1)=some (Iq nd.level)/\V.cell? (Aq w.heap.size 2)=some (Iq nd.a)/\V.cell? (Aq w.heap.size 3)=some (Iq nd.b)/\V.cell? (Aq w.heap.size 4)=some (Iq nd.c)/\V.cell? (Aq w.heap.size 5)=some (.slice la ln lc))):=λV h=>h
 have y0:Hid (∀V:World,(∀b,b<=w.heap.size->some b≠wv.ownBlock->V.heap[b]?=W2.heap[b]?)->V.cell? (Aq Xb 1)=some wv/\V.cell? (Aq w.heap.size 0)=some (Iq nd.kind)/\V.cell? (Aq w.heap.size 1)=some (Iq nd.level)/\V.cell? (Aq w.heap.size 2)=some (Iq nd.a)/\V.cell? (Aq w.heap.size 3)=some (Iq nd.b)/\V.cell? (Aq w.heap.size 4)=some (Iq nd.c)/\V.cell? (Aq w.heap.size 5)=some (.slice la ln lc)):=λV hV=>by
  have z0:some Xb≠wv.ownBlock:=λhh=>by have:=(h.ow.lt Xb hh.symm).1;omega
  have R0:some w.heap.size≠wv.ownBlock:=λhh=>by have:=(h.ow.lt _ hh.symm).2;omega
  have qx:=Qc (a:=(Aq Xb 1)) (hV Xb (by omega) z0);have qn:∀j,V.cell? (Aq w.heap.size j)=W2.cell? (Aq w.heap.size j):=λj=>Qc (a:=(Aq w.heap.size j)) (hV _ (Nat.le_refl _) R0);exact⟨qx.trans c21,(qn 0).trans t0,(qn 1).trans t1,(qn 2).trans t2,(qn 3).trans t3,(qn 4).trans t4,(qn 5).trans t5⟩
 have d1:=v0.out.sz;have S0:=u0.out.size;refine Yz Q0 (y0.out _ (λb _ _=>rfl)) [6,7,8] [10] [] (by kernel_rfl) (λc a d v w h=>by cases d<;>exact h) (λops _=>?_)
 iterate 6 refine Zs rfl (by rintro _ ⟨_,_,_,_,_,_,_⟩;go_simp<;>rfl) (by go_simp<;>rfl) ?_
 refine Zu ?_
 go_wp2_with fail
 obtain⟨W3,o0⟩:=nmE ((W2.alloc (.cells #[Iq nd.kind,Iq nd.level,Iq nd.a,Iq nd.b,Iq nd.c,.slice la ln lc] 92)).drew);rw[<-o0]
 have b0:Hid (Bq W2 W3):=by show Below _ _ _;rw[o0];exact bA.drew
 have tc:∀j u,(Yl nd (.slice la ln lc))[j]?=some u->W3.cell? (((Aq W2.heap.size 0):Addr).add j)=some u:=by rw[o0];exact zsx (w:=W2) (l:=Yl nd (.slice la ln lc))
 have f1:W2.heap.size+1=W3.heap.size:=by rw[o0];simp
 have J0:=y0.out W3 (λb hb _=>b0.out.block b (by omega));have K0:Hid (W3.ownsRow (Xb+1) 92 6 wv acc.length (flat acc lvs)):=Je P0.out b0.out;obtain⟨i1,T0,U0,V0,X0⟩:=info_parts Tryz.infoNodeW;clear o0;refine⟨J0,?_⟩;refine Zu ?_
 go_wp2_with (at_builtin;refine Zn _ rfl (.tmp 21) (.tmp 23) 28 rfl (Xb+1) 92 i1 (.agg #[Iq 0,Iq 0,Iq 0,Iq 0,Iq 0,Zq]) 6 64 underlying28 T0 U0 V0 X0 rfl (by decide) _ _ _ rfl K0.out (Aq W2.heap.size 0) 1 1 (Yl nd (.slice la ln lc)) rfl rfl (by decide) tc (by intro u hu;simp[Yl]at hu;rcases hu with rfl|rfl|rfl|rfl|rfl|rfl<;>rfl) (by unfold maxLen;omega) (by omega) (by omega) ?_)
 intro v' W4 d0 e0 A0;obtain⟨g4,k4,rfl⟩:∃g4 k4,v'=.slice (some (Aq g4 0)) (acc.length+1) k4:=by
  rcases d0.2 with⟨h1,h2⟩|⟨g4,cp,cur,h1,_⟩
  ·omega
  exact⟨g4,cp,h1⟩
 have B0:=y0.out W4 (λb hb f0=>(e0.block b (by omega) f0).trans (b0.out.block b (by omega)));have HE:Hid (Vy (λp=>p=(lvn,nd.list)) w0 w Xb T B Fb wv acc lvs (Fl.put1 acc nd) (.returned (Iq (acc.length:Int))) (W4.setCell (Aq Xb 1) (.slice (some (Aq g4 0)) (acc.length+1) k4))):=by
  rw[ym7 O0.out];have C0:Bq w W1:=p0.out.trans (h0.out.mono (by omega));have Y0:Zw W2.heap.size W2 (.slice la ln lc) nd.list:=by
   rw[<-r0.out];exact zq2 (Un HI.out C0) u0.out (λhn b hb=>by have:=(g0.out hn b hb).1;simp;omega)
  refine⟨rfl,_,lvs++[.slice la ln lc],zj3.push I0.out N0.out b0.out Y0 (by rw[<-r0.out];exact λhn b n0=>⟨(g0.out hn b n0).1,(g0.out hn b n0).2.1,(g0.out hn b n0).2.2.of ((u0.out.block b (Qj (g0.out hn b n0).2.2.lt C0.size) (by have:=(g0.out hn b n0).1;simp;omega)).trans (C0.block b (g0.out hn b n0).2.2.lt))⟩) d0 e0 A0,?_⟩;have Z0:Yw W2 (W4.setCell (Aq Xb 1) (.slice (some (Aq g4 0)) (acc.length+1) k4)) Xb B wv (.slice (some (Aq g4 0)) (acc.length+1) k4):=by
   refine⟨e0.os.trans b0.out.os,e0.tape.trans b0.out.tape,e0.output.trans b0.out.output,by rw[Zy];exact Nat.le_trans b0.out.size e0.size,λc h1 h2 h3 h4=>?_,?_⟩
   ·exact(Zx _ _ _ _ _ h2).trans ((e0.block c (by omega) h4).trans (b0.out.block c h1))
   rcases A0 with e|e
   ·exact .inl e
   exact .inr ⟨_,e,b0.out.size⟩
  refine⟨v0.out.trans Z0,λp hp=>?_⟩;rw[Jt _ _ _ _ h.hl,List.mem_append,List.mem_singleton]at hp;rcases hp with hp|hp
  ·exact .inl hp
  exact .inr (.inl (by rw[hp,r0.out]))
 have fzx:W4.frozen? (Aq Xb 1)=false:=by
  have z0:some Xb≠wv.ownBlock:=λhh=>by have:=(h.ow.lt Xb hh.symm).1;omega
  exact(Qd (w:=W2) ((e0.block Xb (by omega) z0).trans (b0.out.block Xb (by omega)))).trans (I0.out.fz 1)
 have cx1:=B0.1;clear d0 e0 A0 K0 tc J0
 go_wp2_with fail
 refine⟨B0,?_⟩;refine Zu ?_
 go_wp2_with fail
 refine⟨B0,?_⟩;refine Zs rfl (by rintro _ ⟨_,_,_,_,_,_,_⟩;go_simp<;>rfl) (by go_simp<;>rfl) ?_;refine Ye ?_
 go_wp2_with fail
 refine Zl ?_;go_wp2;go_ret;exact HE.out
end
def Uj(P:Program)(ops:Array Oper)(S:World->Prop)(Q:Exit->Act->World->Prop)(E:Act->World->Prop):List (Nat×Oper)->Act->World->Prop
 |[],a,w=>S w/\E a w
 |(0,o)::l,a,w=>∃v,YieldsIf P ops S o v a/\Uj P ops S Q E l (a.put o.dst v) w
 |(_+1,o)::l,a,w=>wpList P ops (Exit.then (λa1 w1=>S w1/\Uj P ops S Q E l a1 w1) Q) [o] a w
def zv6(ops:Array Oper):List Nat->List (Nat×Nat)->Bool
 |_,[]=>true
 |pre,(0,i)::l=>Region.free .any ops (Zi ops.size pre) i && ((Region.ready .any ops (Zi ops.size pre)).contains i && zv6 ops (pre++[i]) l)
 |pre,(_+1,i)::l=>decide (Region.ready .any ops (Zi ops.size pre)=[i]) && zv6 ops (pre++[i]) l
section
variable{E:Act->World->Prop}
def Yd{l:List (Nat×Oper)}(hg:o.guard=none)
  (h:∀K:Act->Prop,(∀a',Uj P ops S Q E l a' w->K a')->∃v,(∀w,S w->(execOp a.eval o).run P w=.ok (.value v) w)/\K (a.put o.dst v)):Uj P ops S Q E ((0,o)::l) a w:=by
 obtain⟨v,h1,h2⟩:=h (λa'=>Uj P ops S Q E l a' w) (λ_ h=>h);exact⟨v,.inl ⟨by simp[Region.wanted,hg],h1⟩,h2⟩
def Vb{l:List (Nat×Oper)}(h:wpList P ops (Exit.then (λa1 w1=>S w1/\Uj P ops S Q E l a1 w1) Q) [o] a w):Uj P ops S Q E ((1,o)::l) a w:=h
def Uz(h:S w/\E a w):Uj P ops S Q E [] a w:=h
def zt5(f:Nat)(hs:Region.noSelect ops=true)(hQ:∀c a d v w,Q (.panic c) (Act.put a d v) w->Q (.panic c) a w):
  ∀(st:List (Nat×Nat)) (so:List (Nat×Oper)) (pre:List Nat) (a:Act) (w:World),S w->st.map (λp=>(p.1,ops[p.2]?))=so.map (λp=>(p.1,some p.2))->zv6 ops pre st=true->
  (∀a w,E a w->S w->Ud P ops Q S [] f (Zi ops.size (pre++st.map (·.2))) a w)->
  Uj P ops S Q E so a w->Ud P ops Q S [] (f+st.length) (Zi ops.size pre) a w
 |[],so,pre,a,w,hS,a0,hB,hE,h=>by
  have:so=[]:=by cases so with|nil=>rfl|cons o so=>simp at a0
  subst this;have:=hE a w h.2 h.1;simpa using this
 |(0,i)::st,so,pre,a,w,hS,a0,hB,hE,h=>by
  cases so with
  |nil=>simp at a0
  |cons p so=>
   obtain⟨c,o⟩:=p;simp only[List.map_cons,List.cons.injEq,Prod.mk.injEq]at a0;obtain⟨⟨rfl,ho⟩,a0⟩:=a0;simp only[zv6,Bool.and_eq_true]at hB;obtain⟨v,h1,h2⟩:=h;have ih:=zt5 f hs hQ st so (pre++[i]) (a.put o.dst v) w hS a0 hB.2.2 (λa w hE' hS'=>by have:=hE a w hE' hS';simpa using this) h2;rw[Yg]at ih;have:=zuv ho (Region.noSelect_spec hs) (λc a w h=>hQ c a _ _ w h) (by simp) (f+st.length) _ a w (Region.free_spec ho hB.1) (by simpa using hB.2.1) h1 hS ih;simpa [Nat.add_assoc] using this
 |(k+1,i)::st,so,pre,a,w,hS,a0,hB,hE,h=>by
  cases so with
  |nil=>simp at a0
  |cons p so=>
   obtain⟨c,o⟩:=p;simp only[List.map_cons,List.cons.injEq,Prod.mk.injEq]at a0;obtain⟨⟨rfl,ho⟩,a0⟩:=a0;simp only[zv6,Bool.and_eq_true,decide_eq_true_eq]at hB;rw[List.length_cons,<-Nat.add_assoc];refine⟨λh0=>(by rw[hB.1]at h0;cases h0),λx hx=>?_⟩;rw[hB.1]at hx;simp only[List.mem_singleton]at hx;subst hx;refine wpOp_mono (λa1 w1 hk=>⟨λ_=>hk.1,?_⟩) (Jg ho h);have ih:=zt5 f hs hQ st so (pre++[x]) a1 w1 hk.1 a0 hB.2 (λa w hE' hS'=>by have:=hE a w hE' hS';simpa using this) hk.2
   rwa [Yg]at ih
end
section
variable{E:Act->World->Prop}
end
section
def zq3(P:Program)(ops:Array Oper)(S:World->Prop)(Q:Exit->Act->World->Prop)(so:List (Nat×Oper))(ox:Oper)(a:Act)(w:World):Prop:=
 wpList P ops (Exit.then (λa1 w1=>S w1/\Uj P ops S Q (λa3 w3=>Q .normal a3 w3) so a1 w1) Q) [ox] a w
def zr0{id:Nat}{l:List Oper}(S:World->Prop)(st:List (Nat×Nat))(i j:Nat)(sti stj:List (Nat×Nat))(hm:P.follows .mixedOrders=true)
  (hB:(Region.noSelect l.toArray && (zv6 l.toArray [] st && (decide (Region.ready .any l.toArray (Zi l.toArray.size (st.map (·.2)))=[i,j]) && (zv6 l.toArray (st.map (·.2)++[i]) sti && (zv6 l.toArray (st.map (·.2)++[j]) stj && (decide (Region.ready .any l.toArray (Zi l.toArray.size (st.map (·.2)++[i]++sti.map (·.2)))=[]) && decide (Region.ready .any l.toArray (Zi l.toArray.size (st.map (·.2)++[j]++stj.map (·.2)))=[])))))))=true)
  (hlen:l.length=sti.length+1+st.length) (hlen':stj.length=sti.length) (so soi soj:List (Nat×Oper)) (oi oj:Oper) (d0:st.map (λp=>(p.1,l.toArray[p.2]?))=so.map (λp=>(p.1,some p.2))) (a0:sti.map (λp=>(p.1,l.toArray[p.2]?))=soi.map (λp=>(p.1,some p.2))) (b0:stj.map (λp=>(p.1,l.toArray[p.2]?))=soj.map (λp=>(p.1,some p.2))) (hi:l.toArray[i]?=some oi) (hj:l.toArray[j]?=some oj)
  (hQ:∀c a d v w,Q (.panic c) (Act.put a d v) w->Q (.panic c) a w) (hS:S w.drew)
  (h:∀ops:Array Oper,Uj P ops S Q (λa' w'=>zq3 P ops S Q soi oi a' w'/\zq3 P ops S Q soj oj a' w') so a w.drew):(Code.region id l.toArray true).wp P Q a w:=by
 simp only[Bool.and_eq_true,decide_eq_true_eq]at hB;obtain⟨hs,hh,r0,t1,t2,e1,e2⟩:=hB;have key:=zt5 (P:=P) (Q:=Q) (S:=S) (ops:=l.toArray) (sti.length+1) hs hQ st so [] a w.drew hS d0 hh ?_ (h l.toArray)
 ·refine wp_region_any hm (zx5 (S:=S) (late:=[]) _ _ _ _ ?_)
  have e:l.toArray.size=sti.length+1+st.length:=(by simp[hlen]);rw[<-e]at key;simpa [Zi] using key
 intro a' w' hE hS'
 have step:∀(x:Nat) (ox:Oper) (stx:List (Nat×Nat)) (sox:List (Nat×Oper)),l.toArray[x]?=some ox->stx.length=sti.length->stx.map (λp=>(p.1,l.toArray[p.2]?))=sox.map (λp=>(p.1,some p.2))->zv6 l.toArray (st.map (·.2)++[x]) stx=true->Region.ready .any l.toArray (Zi l.toArray.size (st.map (·.2)++[x]++stx.map (·.2)))=[]->
   zq3 P l.toArray S Q sox ox a' w'->wpOp P l.toArray Q x (λa1 w1=>(x ∉ ([]:List Nat)->S w1)/\Ud P l.toArray Q S [] sti.length ((Zi l.toArray.size ([]++st.map (·.2))).setIfInBounds x true) a1 w1) a' w':=by
  intro x ox stx sox hx hl c0 h2 h3 hw;refine wpOp_mono (λa1 w1 hk=>⟨λ_=>hk.1,?_⟩) (Jg hx hw);have e1:(Zi l.toArray.size ([]++st.map (·.2))).setIfInBounds x true=Zi l.toArray.size (st.map (·.2)++[x]):=(by rw[Yg];rfl);rw[e1];have:=zt5 (P:=P) (Q:=Q) (S:=S) (ops:=l.toArray) (E:=λa3 w3=>Q .normal a3 w3) 0 hs hQ stx sox (st.map (·.2)++[x]) a1 w1 hk.1 c0 h2 (λa3 w3 hE3 _=>⟨h3,hE3⟩) hk.2;rw[<-hl];simpa using this
 refine⟨λh0=>?_,λz hz=>?_⟩
 ·simp only[List.nil_append]at h0;rw[r0]at h0;cases h0
 simp only[List.nil_append]at hz;rw[r0]at hz;simp only[List.mem_cons,List.not_mem_nil,or_false]at hz;rcases hz with rfl|rfl
 ·exact step _ oi sti soi hi rfl a0 t1 e1 hE.1
 exact step _ oj stj soj hj hlen' b0 t2 e2 hE.2
end
def Tryz.infoNode6:(Tryz.prog.info? 92).map (·.size)=some 6:=by kernel_rfl
section
variable{S:Nat->Prop}
def zs4(h:Yh w0 w Xb T B Fb wv acc lvs)(hF:Vo w0 Fb Pb Lb clv chv bv vv S p vs){a:Fl.Atom}(ha:Xn S w0 v a)(ho:Fl.AtomOk vs.length a)(hv:vs.length<=100)(hn:acc.length<=100000000):
  Cq 242 #[Pq Xb,v] w (Vy (λ_=>False) w0 w Xb T B Fb wv acc lvs (Fl.wAtom p vs acc a)):=by
 have p0:zy5 vs a:=λhv=>by unfold Fl.AtomOk at ho;rwa [if_pos hv]at ho
 obtain⟨al,H0,eal⟩:=zzy hF.lv.lv hF.ok.2 p0;have r0:zw9 S w0 v ⟨-1,a,a⟩:=.inl ⟨rfl,ha⟩;have t0:Fl.ExprOk vs.length ⟨-1,a,a⟩:=⟨by show (-1:Int)<= -1;decide,by show (-1:Int)<=4;decide,ho,ho⟩
 have evl:Fl.valLv p vs ⟨-1,a,a⟩=(al:Int):=by unfold Fl.valLv;rw[if_pos (by show (-1:Int)<0;decide)];exact eal
 obtain⟨vb,rfl,C0,hc⟩:=ha;have u0:vb<w0.heap.size:=hF.hS vb C0;have be:=h.be;have hbz:=be.size;have hX:=h.hz
 have HS:Hid (∀V,Bq w V->V.cell? (Aq vb 0)=some (Iq (if a.var then 1 else 0))/\V.cell? (Aq vb 1)=some (Iq a.v)/\V.cell? (Aq Xb 0)=some (Pq Fb)):=λV hV=>by
  have h0:Bq w0 V:=be.trans (hV.mono hbz);exact⟨(h0.cell (p:=(Aq vb 0)) u0).trans (hc.c 0 (by omega)),(h0.cell (p:=(Aq vb 1)) u0).trans (hc.c 1 (by omega)),(h.below hV).c0⟩
 have v0:Hid (∀V,Bq w V->Cq 241 #[Pq Fb,Pq vb] V λr w'=>r=.returned (Iq (al:Nat))/\Bq V w'):=λV hV=>by
  have h0:Bq w0 V:=be.trans (hV.mono hbz);have h5:=zu7 (hF.below h0) (r0.kept (λ_ h=>h) (λb hb=>h0.block b (hF.hS b hb))) t0;rw[evl]at h5;exact h5
 obtain⟨kd,e0⟩:=nmE (α:=Int) (if a.var then 1 else 0)
 have D0:(kd==2)=false:=by rw[e0];cases a.var<;>decide
 obtain⟨nd,i0⟩:=nmE (α:=Fl.Node) (⟨if a.var then 1 else 0,Fl.atomLv p vs a,a.v,0,0,[]⟩);have j0:Fl.fits nd:=by
  have h6:=hF.lv.lv.n6
  have I0:a.v<=999999999:=by unfold Fl.AtomOk at ho;split at ho<;>omega
  have k0:kd=0\/kd=1:=by rw[e0];cases a.var<;>simp
  have hR:∀z:Int,0<=z->z<=999999999->Fl.inR z=true:=λz h1 h2=>by simp only[Fl.inR,Bool.and_eq_true,decide_eq_true_eq];omega
  rw[i0,eal,<-e0];exact⟨hR _ (by rcases k0 with h|h<;>(show 0<=kd;omega)) (by rcases k0 with h|h<;>(show kd<=_;omega)),hR _ (by show (0:Int)<=(al:Int);omega) (by show (al:Int)<=_;omega),hR _ (by show (0:Int)<=(a.v:Int);omega) (by show (a.v:Int)<=_;omega),hR _ (by show (0:Int)<=0;decide) (by show (0:Int)<=_;decide),hR _ (by show (0:Int)<=0;decide) (by show (0:Int)<=_;decide),by simp,by simp⟩
 have E0:Hid (∀V,Bq w V->Cq 203 #[Pq Xb,.agg #[Iq kd,Iq al,Iq a.v,Iq 0,Iq 0,Zq]] V (Vy (λp=>p.2=[]) w0 V Xb T B Fb wv acc lvs (Fl.wAtom p vs acc a))):=λV hV=>by
  have h5:=zv5 (lvn:=Zq) (h.below hV) j0 (by rw[i0];exact⟨none,0,rfl,by simp,by simp[maxLen],λhh=>absurd rfl hh⟩) (λhh=>by rw[i0]at hh;exact absurd rfl hh) hn;unfold ndV at h5;rw[i0]at h5;simp only at h5;rw[<-e0,eal]at h5;unfold Fl.wAtom;rw[<-e0,eal];refine h5.mono ?_;rintro e W ⟨h6,wv',lvs',h7,h8,h9⟩;refine⟨h6,wv',lvs',h7,h8,λp hp=>?_⟩;rcases h9 p hp with h1|h1|h1|h1
  ·exact .inl h1
  ·exact .inr (.inl (by rw[h1]))
  ·exact .inr (.inr (.inl h1))
  exact .inr (.inr (.inr h1))
 rw[<-e0]at HS;generalize Fl.wAtom p vs acc a=res at*;generalize a.v=av at*;clear p0 eal r0 t0 evl hc ho e0 i0 j0;unfold ptr
 go_enter func242,ntmps242
 go_wp2_with fail
 go_cut [5] (λq wc=>∃nb,q=Pq nb/\Bq w wc/\nb<wc.heap.size/\wc.heap[nb]?=some (.cells #[Iq kd,Iq al,Iq av,Iq 0,Iq 0,Zq] 92 (0,0)))
 case first=>
  refine zr0 (λV=>Bq w V/\V.cell? (Aq vb 0)=some (Iq kd)/\V.cell? (Aq vb 1)=some (Iq av)/\V.cell? (Aq Xb 0)=some (Pq Fb)) [(0,0),(0,1),(0,2),(0,3),(0,4),(0,5),(0,6),(0,7),(0,8),(0,10),(0,11),(0,12),(0,13)] 9 15 [(0,14),(1,15),(1,16)] [(1,9),(0,14),(1,16)] (by kernel_rfl) (by kernel_rfl) rfl rfl [(_,_),(_,_),(_,_),(_,_),(_,_),(_,_),(_,_),(_,_),(_,_),(_,_),(_,_),(_,_),(_,_)] [(_,_),(_,_),(_,_)] [(_,_),(_,_),(_,_)] _ _ rfl rfl rfl rfl rfl (λc a d v w h=>by cases d<;>exact h) ⟨dA,HS.out _ dA⟩ (λops=>?_);simp only[List.getElem_toArray,List.getElem_cons_succ,List.getElem_cons_zero]
  iterate 13 refine Yd rfl (kE (by rintro _ ⟨_,_,_,_⟩;go_simp<;>rfl) (by go_simp<;>rfl) ?_)
  refine Uz ⟨⟨dA,HS.out _ dA⟩,?_,?_⟩
  ·unfold zq3
   go_wp2_with fail
   refine(v0.out _ dA).mono ?_;rintro e1 W1 ⟨rfl,f0⟩;have a0:Hid (Bq w W1):=dA.trans f0;clear f0
   go_wp2_with fail
   refine⟨⟨a0.out,HS.out _ a0.out⟩,?_⟩;refine Yd rfl (kE (by rintro _ ⟨_,_,_,_⟩;go_simp<;>rfl) (by go_simp<;>rfl) ?_);refine Vb ?_
   go_wp2_with fail
   refine⟨⟨a0.out.alloc a0.out.size _,HS.out _ (a0.out.alloc a0.out.size _)⟩,?_⟩;refine Vb ?_
   go_wp2_with fail
   refine⟨⟨a0.out.alloc a0.out.size _,HS.out _ (a0.out.alloc a0.out.size _)⟩,?_⟩;refine Uz ⟨⟨a0.out.alloc a0.out.size _,HS.out _ (a0.out.alloc a0.out.size _)⟩,?_⟩;rename_i b0;refine b0 _ _ ?_
   go_meet
   case rel=>exact⟨_,rfl,a0.out.alloc a0.out.size _,by simp,heap_alloc_last _ _⟩
  unfold zq3;obtain⟨W0,l0⟩:=nmE ((w.alloc (.cells #[Iq 0,Iq 0,Iq 0,Iq 0,Iq 0,Zq] 92)).drew);have g0:Hid (Bq w W0):=(by show Below _ _ _;rw[l0];exact bA.drew);have x0:Hid (W0.heap[w.heap.size]?=some (.cells #[Iq 0,Iq 0,Iq 0,Iq 0,Iq 0,Zq] 92 (0,0))):=(by show _=_;rw[l0];exact heap_alloc_last w _);have y0:w.heap.size<W0.heap.size:=(by rw[l0];simp)
  go_wp2_with fail
  rw[<-l0];clear l0;refine⟨⟨g0.out,HS.out _ g0.out⟩,?_⟩;refine Vb ?_
  go_wp2_with fail
  refine(v0.out _ g0.out).mono ?_;rintro e1 W1 ⟨rfl,f0⟩;have a0:Hid (Bq w W1):=g0.out.trans (f0.mono g0.out.size);have z0:Hid (W1.heap[w.heap.size]?=some (.cells #[Iq 0,Iq 0,Iq 0,Iq 0,Iq 0,Zq] 92 (0,0))):=(f0.block _ y0).trans x0.out;have J0:w.heap.size<W1.heap.size:=Qj y0 f0.size;clear f0 x0 g0
  go_wp2_with fail
  refine⟨⟨a0.out,HS.out _ a0.out⟩,?_⟩;refine Yd rfl (kE (by rintro _ ⟨_,_,_,_⟩;go_simp<;>rfl) (by go_simp<;>rfl) ?_);refine Vb ?_;refine Xy rfl (.tmp 5) (.tmp 20) 92 rfl w.heap.size rfl _ #[Iq kd,Iq al,Iq av,Iq 0,Iq 0,Zq] rfl 92 z0.out Tryz.infoNode6 rfl (by simp[Value.oneCell']) ?_;have d0:=setRow_heap W1 w.heap.size _ #[Iq kd,Iq al,Iq av,Iq 0,Iq 0,Zq] _ _ z0.out;have A0:=below_setRow a0.out (Nat.le_refl _) #[Iq kd,Iq al,Iq av,Iq 0,Iq 0,Zq];generalize W1.setRow w.heap.size #[Iq kd,Iq al,Iq av,Iq 0,Iq 0,Zq]=W2 at*;have F0:=Zz d0;have m0:=Zz A0;have G0:w.heap.size<W2.heap.size:=by
   rcases Nat.lt_or_ge w.heap.size W2.heap.size with h|h
   ·exact h
   rw[Array.getElem?_eq_none h]at d0;cases d0
  clear d0 A0
  go_wp2_with fail
  refine⟨⟨m0.out,HS.out _ m0.out⟩,?_⟩;refine Uz ⟨⟨m0.out,HS.out _ m0.out⟩,?_⟩;rename_i b0;refine b0 _ _ ?_
  go_meet
  case rel=>exact⟨_,rfl,m0.out,G0,F0.out⟩
 case rest=>
  obtain⟨nb,rfl,n0,K0,B0⟩:=hcut;obtain⟨s0,s1,s2⟩:=HS.out _ n0;have o0:=Zz n0
  have q:∀j u,(#[Value.int .i64 kd,Iq al,Iq av,Iq 0,Iq 0,Zq]:Array Value)[j]?=some u->wc.cell? (Aq nb j)=some u:=λj u hj=>by simp only[World.cell?,B0];exact hj
  have q0:=q 0 _ rfl;have q1:=q 1 _ rfl;have q2:=q 2 _ rfl;have q3:=q 3 _ rfl;have q4:=q 4 _ rfl;have q5:=q 5 _ rfl;clear q B0 n0
  go_wp2_with fail
  refine(E0.out _ o0.out).mono ?_;rintro e W2 ⟨rfl,wv',lvs',h1,h2,h3⟩
  have HE:Hid (Vy (λ_=>False) w0 w Xb T B Fb wv acc lvs res (.returned (Iq res.1)) W2):=⟨rfl,wv',lvs',h1,(Yw.of_below o0.out).trans h2,λp hp=>by
   rcases h3 p hp with h|h|h|h
   ·exact .inl h
   ·exact .inr (.inr (.inl h))
   ·exact .inr (.inr (.inl h))
   exact .inr (.inr (.inr λb hb=>Nat.le_trans o0.out.size (h b hb)))⟩
  clear h1 h2 h3;go_wp2;go_ret;exact HE.out
end
def Yh.priv(h:Yh w0 w Xb T B Fb wv acc lvs)(hx:Xb<nb){fr:Nat×Nat}(hn:w.heap[nb]?=some (.cells cs 92 fr))(ho:some nb≠wv.ownBlock)(j:Nat)(v:Value):Yh w0 (w.setCell (Aq nb j) v) Xb T B Fb wv acc lvs:=by
 obtain⟨x1,x2,x3⟩:=h.x0;have gs:w.grownBy (w.setCell (Aq nb j) v) (some nb):=⟨rfl,rfl,rfl,by rw[Zy];exact Nat.le_refl _,λk hk hn=>Zx _ _ _ _ _ (λe=>hn (by rw[e]))⟩
 have b0:∀c,c<=Xb->some c≠some nb:=λc hc=>by simp;omega
 have d0:∀p,p∈Xo acc lvs->p.2≠[]->∀b,p.1.ownBlock=some b->b≠nb:=λp hp a0 b hb e=>by
  obtain⟨cs',fr',h5⟩:=((h.li p hp).2 a0 b hb).2;rw[e,hn]at h5;injection h5 with h5;injection h5 with _ h6;exact absurd h6 (by decide)
 refine⟨h.x0,by rw[Zy];exact h.hz,gs.cell h.c0 (b0 Xb (Nat.le_refl _)),gs.cell h.c1 (b0 Xb (Nat.le_refl _)),gs.cell h.c2 (b0 Xb (Nat.le_refl _)),λi=>by rw[World.frozen?_setCell];exact h.fz i,h.se.kept gs (b0 T (by omega)) (b0 B (by omega)),h.hl,h.ow.kept gs (.inr (λhh=>ho hh.symm)),λp hp=>⟨(h.li p hp).1.set (λa0 hh=>d0 p hp a0 nb hh rfl),λa0 b hb=>⟨((h.li p hp).2 a0 b hb).1,((h.li p hp).2 a0 b hb).2.of (Zx _ _ _ _ _ (d0 p hp a0 b hb))⟩⟩,h.be.setCell (by show w0.heap.size<=nb;omega) _⟩
def zcw{fr:Nat×Nat}(h:w.heap[nb]?=some (.cells cs t fr))(j:Nat)(v:Value):∃cs',(w.setCell (Aq nb j) v).heap[nb]?=some (.cells cs' t fr):=by
 have hl:nb<w.heap.size:=by
  rcases Nat.lt_or_ge nb w.heap.size with h'|h'
  ·exact h'
  rw[Array.getElem?_eq_none h']at h;cases h
 have h2:w.heap[nb]=.cells cs t fr:=by rw[Array.getElem?_eq_getElem hl]at h;injection h
 refine⟨cs.setIfInBounds j v,?_⟩
 have a0:nb<(w.setCell (Aq nb j) v).heap.size:=by rw[Zy];exact hl
 rw[Array.getElem?_eq_getElem a0];simp only[World.setCell];rw[Array.getElem_modify];simp[h2]
def Yw.set(h:Yw w w' Xb B wv wv')(hn:w.heap.size<=nb)(j:Nat)(v:Value):Yw w (w'.setCell (Aq nb j) v) Xb B wv wv':=
 ⟨h.os,h.tp,h.ou,by rw[Zy];exact h.sz,λc h1 h2 h3 h4=>(Zx _ _ _ _ _ (by omega)).trans (h.bl c h1 h2 h3 h4),h.ow⟩
def zl0(acc:List Fl.Node)(nd:Fl.Node):acc.length<=(Fl.put1 acc nd).2.length/\(Fl.put1 acc nd).2.length<=acc.length+1/\0<=(Fl.put1 acc nd).1/\(Fl.put1 acc nd).1<=acc.length:=by
 unfold Fl.put1
 split
 ·rename_i i hi
  have:=List.mem_of_find?_eq_some hi;rw[List.mem_range]at this;simp only;omega
 simp
section
variable{S:Nat->Prop}
def yu3(h:Yh w0 w Xb T B Fb wv acc lvs)(hF:Vo w0 Fb Pb Lb clv chv bv vv S p vs){e:Fl.Expr}(he:zw9 S w0 v e)(ho:Fl.ExprOk vs.length e)(hv:vs.length<=100)(hn:acc.length<=50000000):
  Cq 242 #[Pq Xb,v] w (Vy (λ_=>False) w0 w Xb T B Fb wv acc lvs (Fl.wVal p vs acc e)):=by
 have O0:=he;rcases he with⟨h1,h2⟩|⟨h1,vb,x,y,rfl,t1,hc,h5,h6⟩
 ·have e1:Fl.wVal p vs acc e=Fl.wAtom p vs acc e.a:=by unfold Fl.wVal;rw[if_pos (by omega)]
  rw[e1];exact zs4 h hF h2 ho.2.2.1 hv (by omega)
 obtain⟨al,u1,eal⟩:=zwy hF.lv.lv hF.ok ho;have D0:vb<w0.heap.size:=hF.hS vb t1;have be:=h.be;have hbz:=be.size;have hX:=h.hz
 have HS:Hid (∀V,Bq w V->V.cell? (Aq vb 0)=some (Iq 2)/\V.cell? (Aq vb 1)=some (Iq e.op)/\V.cell? (Aq Xb 0)=some (Pq Fb)):=λV hV=>by
  have n0:Bq w0 V:=be.trans (hV.mono hbz);exact⟨(n0.cell (p:=(Aq vb 0)) D0).trans (hc.c 0 (by omega)),(n0.cell (p:=(Aq vb 1)) D0).trans (hc.c 1 (by omega)),(h.below hV).c0⟩
 have E0:Hid (∀V,Bq w0 V->V.cell? (Aq vb 2)=some x/\V.cell? (Aq vb 3)=some y):=λV hV=>⟨(hV.cell (p:=(Aq vb 2)) D0).trans (hc.c 2 (by omega)),(hV.cell (p:=(Aq vb 3)) D0).trans (hc.c 3 (by omega))⟩
 have P0:Hid (∀V,Bq w V->Cq 241 #[Pq Fb,Pq vb] V λr w'=>r=.returned (Iq (al:Nat))/\Bq V w'):=λV hV=>by
  have n0:Bq w0 V:=be.trans (hV.mono hbz);have h5:=zu7 (hF.below n0) (O0.kept (λ_ h=>h) (λb hb=>n0.block b (hF.hS b hb))) ho;rw[eal]at h5;exact h5
 have I0:Hid (∀V wv' lvs',Yh w0 V Xb T B Fb wv' acc lvs'->Cq 242 #[Pq Xb,x] V (Vy (λ_=>False) w0 V Xb T B Fb wv' acc lvs' (Fl.wAtom p vs acc e.a))):=λV wv' lvs' hV=>zs4 hV hF h5 ho.2.2.1 hv (by omega);obtain⟨ra,F0⟩:=nmE (Fl.wAtom p vs acc e.a)
 have v1:ra.2.length<=acc.length+1/\0<=ra.1/\ra.1<=acc.length:=by rw[F0];unfold Fl.wAtom;exact(zl0 _ _).2
 have J0:Hid (∀V wv' lvs',Yh w0 V Xb T B Fb wv' ra.2 lvs'->Cq 242 #[Pq Xb,y] V (Vy (λ_=>False) w0 V Xb T B Fb wv' ra.2 lvs' (Fl.wAtom p vs ra.2 e.b))):=λV wv' lvs' hV=>zs4 hV hF h6 ho.2.2.2 hv (by omega);obtain⟨rb,h0⟩:=nmE (Fl.wAtom p vs ra.2 e.b)
 have hlb:rb.2.length<=ra.2.length+1/\0<=rb.1/\rb.1<=ra.2.length:=by rw[h0];unfold Fl.wAtom;exact(zl0 _ _).2
 obtain⟨nd,j0⟩:=nmE (α:=Fl.Node) (⟨2,(al:Int),e.op,ra.1,rb.1,[]⟩);have o0:Hid (Fl.wVal p vs acc e=Fl.put1 rb.2 nd):=by
  show _=_;unfold Fl.wVal;rw[if_neg (by omega),<-F0,<-h0,eal,j0]
 have t0:Fl.fits nd:=by
  have h6:=hF.lv.lv.n6;have C1:=ho.2.1
  have hR:∀z:Int,0<=z->z<=999999999->Fl.inR z=true:=λz h1 h2=>by simp only[Fl.inR,Bool.and_eq_true,decide_eq_true_eq];omega
  rw[j0];exact⟨hR _ (by show (0:Int)<=2;decide) (by show (2:Int)<=_;decide),hR _ (by show (0:Int)<=(al:Int);omega) (by show (al:Int)<=_;omega),hR _ (by show (0:Int)<=e.op;omega) (by show e.op<=_;omega),hR _ (by show (0:Int)<=ra.1;omega) (by show ra.1<=_;omega),hR _ (by show (0:Int)<=rb.1;omega) (by show rb.1<=_;omega),by simp,by simp⟩
 have K0:Hid (∀V wv' lvs',Yh w0 V Xb T B Fb wv' rb.2 lvs'->Cq 203 #[Pq Xb,.agg #[Iq 2,Iq al,Iq e.op,Iq ra.1,Iq rb.1,Zq]] V (Vy (λp=>p.2=[]) w0 V Xb T B Fb wv' rb.2 lvs' (Fl.put1 rb.2 nd))):=λV wv' lvs' hV=>by
  have h5:=zv5 (lvn:=Zq) hV t0 (by rw[j0];exact⟨none,0,rfl,by simp,by simp[maxLen],λhh=>absurd rfl hh⟩) (λhh=>by rw[j0]at hh;exact absurd rfl hh) (by omega);unfold ndV at h5;rw[j0]at h5⊢;refine h5.mono ?_;rintro e W ⟨h6,wv',lvs',h7,h8,h9⟩;refine⟨h6,wv',lvs',h7,h8,λp hp=>?_⟩;rcases h9 p hp with h1|h1|h1|h1
  ·exact .inl h1
  ·exact .inr (.inl (by rw[h1]))
  ·exact .inr (.inr (.inl h1))
  exact .inr (.inr (.inr h1))
 rw[o0.out];generalize Fl.put1 rb.2 nd=res at*;rw[<-F0]at I0;rw[<-h0]at J0;obtain⟨av,Q0⟩:=nmE (e.op);rw[<-Q0]at HS K0;obtain⟨na,ac1⟩:=ra;obtain⟨nb2,ac2⟩:=rb;simp only at J0 K0 I0;have HW:=Zz h;clear O0 hc h5 h6 eal F0 h0 j0 t0 o0 Q0 ho v1 hlb h1 u1;unfold ptr
 go_enter func242,ntmps242
 go_wp2_with fail
 go_cut [5] (λq wc=>∃nb,q=Pq nb/\Bq w wc/\nb<wc.heap.size/\w.heap.size<=nb/\wc.heap[nb]?=some (.cells #[Iq 2,Iq al,Iq av,Iq 0,Iq 0,Zq] 92 (0,0)))
 case first=>
  refine zr0 (λV=>Bq w V/\V.cell? (Aq vb 0)=some (Iq 2)/\V.cell? (Aq vb 1)=some (Iq av)/\V.cell? (Aq Xb 0)=some (Pq Fb)) [(0,0),(0,1),(0,2),(0,3),(0,4),(0,5),(0,6),(0,7),(0,8),(0,10),(0,11),(0,12),(0,13)] 9 15 [(0,14),(1,15),(1,16)] [(1,9),(0,14),(1,16)] (by kernel_rfl) (by kernel_rfl) rfl rfl [(_,_),(_,_),(_,_),(_,_),(_,_),(_,_),(_,_),(_,_),(_,_),(_,_),(_,_),(_,_),(_,_)] [(_,_),(_,_),(_,_)] [(_,_),(_,_),(_,_)] _ _ rfl rfl rfl rfl rfl (λc a d v w h=>by cases d<;>exact h) ⟨dA,HS.out _ dA⟩ (λops=>?_);simp only[List.getElem_toArray,List.getElem_cons_succ,List.getElem_cons_zero]
  iterate 13 refine Yd rfl (kE (by rintro _ ⟨_,_,_,_⟩;go_simp<;>rfl) (by go_simp<;>rfl) ?_)
  refine Uz ⟨⟨dA,HS.out _ dA⟩,?_,?_⟩
  ·unfold zq3
   go_wp2_with fail
   refine(P0.out _ dA).mono ?_;rintro e1 W1 ⟨rfl,i0⟩;have a0:Hid (Bq w W1):=dA.trans i0;clear i0
   go_wp2_with fail
   refine⟨⟨a0.out,HS.out _ a0.out⟩,?_⟩;refine Yd rfl (kE (by rintro _ ⟨_,_,_,_⟩;go_simp<;>rfl) (by go_simp<;>rfl) ?_);refine Vb ?_
   go_wp2_with fail
   refine⟨⟨a0.out.alloc a0.out.size _,HS.out _ (a0.out.alloc a0.out.size _)⟩,?_⟩;refine Vb ?_
   go_wp2_with fail
   refine⟨⟨a0.out.alloc a0.out.size _,HS.out _ (a0.out.alloc a0.out.size _)⟩,?_⟩;refine Uz ⟨⟨a0.out.alloc a0.out.size _,HS.out _ (a0.out.alloc a0.out.size _)⟩,?_⟩;rename_i b0;refine b0 _ _ ?_
   go_meet
   case rel=>exact⟨_,rfl,a0.out.alloc a0.out.size _,by simp,a0.out.size,heap_alloc_last _ _⟩
  unfold zq3;obtain⟨W0,u0⟩:=nmE ((w.alloc (.cells #[Iq 0,Iq 0,Iq 0,Iq 0,Iq 0,Zq] 92)).drew);have k0:Hid (Bq w W0):=(by show Below _ _ _;rw[u0];exact bA.drew);have R0:Hid (W0.heap[w.heap.size]?=some (.cells #[Iq 0,Iq 0,Iq 0,Iq 0,Iq 0,Zq] 92 (0,0))):=(by show _=_;rw[u0];exact heap_alloc_last w _);have S0:w.heap.size<W0.heap.size:=(by rw[u0];simp)
  go_wp2_with fail
  rw[<-u0];clear u0;refine⟨⟨k0.out,HS.out _ k0.out⟩,?_⟩;refine Vb ?_
  go_wp2_with fail
  refine(P0.out _ k0.out).mono ?_;rintro e1 W1 ⟨rfl,i0⟩;have a0:Hid (Bq w W1):=k0.out.trans (i0.mono k0.out.size);have G0:Hid (W1.heap[w.heap.size]?=some (.cells #[Iq 0,Iq 0,Iq 0,Iq 0,Iq 0,Zq] 92 (0,0))):=(i0.block _ S0).trans R0.out;have T0:w.heap.size<W1.heap.size:=Qj S0 i0.size;clear i0 R0 k0
  go_wp2_with fail
  refine⟨⟨a0.out,HS.out _ a0.out⟩,?_⟩;refine Yd rfl (kE (by rintro _ ⟨_,_,_,_⟩;go_simp<;>rfl) (by go_simp<;>rfl) ?_);refine Vb ?_;refine Xy rfl (.tmp 5) (.tmp 20) 92 rfl w.heap.size rfl _ #[Iq 2,Iq al,Iq av,Iq 0,Iq 0,Zq] rfl 92 G0.out Tryz.infoNode6 rfl (by simp[Value.oneCell']) ?_;have e0:=setRow_heap W1 w.heap.size _ #[Iq 2,Iq al,Iq av,Iq 0,Iq 0,Zq] _ _ G0.out;have h0:=below_setRow a0.out (Nat.le_refl _) #[Iq 2,Iq al,Iq av,Iq 0,Iq 0,Zq];generalize W1.setRow w.heap.size #[Iq 2,Iq al,Iq av,Iq 0,Iq 0,Zq]=W2 at*;have l0:=Zz e0;have v0:=Zz h0;have x1:w.heap.size<W2.heap.size:=by
   rcases Nat.lt_or_ge w.heap.size W2.heap.size with h|h
   ·exact h
   rw[Array.getElem?_eq_none h]at e0;cases e0
  clear e0 h0
  go_wp2_with fail
  refine⟨⟨v0.out,HS.out _ v0.out⟩,?_⟩;refine Uz ⟨⟨v0.out,HS.out _ v0.out⟩,?_⟩;rename_i b0;refine b0 _ _ ?_
  go_meet
  case rel=>exact⟨_,rfl,v0.out,x1,Nat.le_refl _,l0.out⟩
 case rest=>
  obtain⟨nb,rfl,H0,U0,V0,X0⟩:=hcut;obtain⟨s0,s1,s2⟩:=HS.out _ H0;have Y0:=Zz H0;have L0:Hid (Yh w0 wc.drew Xb T B Fb wv acc lvs):=HW.out.below H0.drew;have Z0:=Zz X0;have y0:∀c,wv.ownBlock=some c->c<w.heap.size:=λc hc=>(HW.out.ow.lt c hc).2
  have a1:Hid (some nb≠wv.ownBlock):=λhh=>by have:=y0 nb hh.symm;omega
  clear X0 H0 y0
  go_wp2_with fail
  refine zw2 E0 L0.out.be [(0,0),(0,1),(0,2),(0,3),(0,4),(0,6),(0,7),(0,8),(0,9),(0,10),(1,5),(0,12),(1,11),(1,13),(0,14),(2,15)] [15] [] (by kernel_rfl) (λc a d v w h=>by cases d<;>exact h) (λops _=>?_)
  iterate 10 refine Zs rfl (by rintro _ ⟨_,_⟩;go_simp<;>rfl) (by go_simp<;>rfl) ?_
  refine Zu ?_
  go_wp2_with fail
  refine(I0.out _ _ _ L0.out).mono ?_;rintro e1 W1 ⟨rfl,wv1,lvs1,b1,z0,A0⟩;have y1:=Zz A0;have c1:=Zz b1;have d0:Hid (Yw wc W1 Xb B wv wv1):=(Yw.of_below dA).trans z0
  have d1:Hid (some nb≠wv1.ownBlock):=λhh=>by
   rcases d0.out.ow with e|⟨g,e,hg⟩
   ·exact a1.out (hh.trans e)
   rw[e]at hh;injection hh with hh;omega
  have f1:nb≠Xb:=(by omega);have g1:nb≠B:=(by have:=HW.out.x0;omega);have G0:Hid (W1.heap[nb]?=some (.cells #[Iq 2,Iq al,Iq av,Iq 0,Iq 0,Zq] 92 (0,0))):=(d0.out.bl nb U0 f1 g1 a1.out).trans Z0.out;have T0:nb<W1.heap.size:=Qj U0 d0.out.sz;clear b1 z0 A0 Z0 L0
  go_wp2_with fail
  refine⟨E0.out _ c1.out.be,?_⟩;refine Zs rfl (by rintro _ ⟨_,_⟩;go_simp<;>rfl) (by go_simp<;>rfl) ?_;refine Zu ?_
  go_wp2_with fail
  refine(J0.out _ _ _ c1.out).mono ?_;rintro e2 W2 ⟨rfl,wv2,lvs2,i1,f0,B0⟩;have z1:Hid (Xc (λ_=>False) wc acc lvs ac2 lvs2):=y1.out.trans d0.out.sz B0;have j1:=Zz i1;have M0:Hid (Yw w W2 Xb B wv wv2):=((Yw.of_below Y0.out).trans d0.out).trans f0
  have k1:Hid (some nb≠wv2.ownBlock):=λhh=>by
   rcases f0.ow with e|⟨g,e,hg⟩
   ·exact d1.out (hh.trans e)
   rw[e]at hh;injection hh with hh;omega
  have l0:Hid (W2.heap[nb]?=some (.cells #[Iq 2,Iq al,Iq av,Iq 0,Iq 0,Zq] 92 (0,0))):=(f0.bl nb T0 f1 g1 d1.out).trans G0.out
  have q:∀j u,(#[Value.int .i64 2,Iq al,Iq av,Iq 0,Iq 0,Zq]:Array Value)[j]?=some u->W2.cell? (Aq nb j)=some u:=λj u hj=>by simp only[World.cell?,l0.out];exact hj
  have fq:∀j,W2.frozen? (Aq nb j)=false:=λj=>by simp[World.frozen?,l0.out]
  have q0:=q 0 _ rfl;have q1:=q 1 _ rfl;have q2:=q 2 _ rfl;have q3:=q 3 _ rfl;have q4:=q 4 _ rfl;have q5:=q 5 _ rfl;have f3:=fq 3;obtain⟨W3,g0⟩:=nmE (W2.setCell (Aq nb 3) (Iq na));have l1:Hid (Yh w0 W3 Xb T B Fb wv2 ac2 lvs2):=(by show Yh _ _ _ _ _ _ _ _ _;rw[g0];exact j1.out.priv (by omega) l0.out k1.out 3 _)
  have qo:∀j,j≠3->W3.cell? (Aq nb j)=W2.cell? (Aq nb j):=λj hj=>by rw[g0];exact Qg _ _ _ _ (by intro hh;injection hh with _ h5;omega)
  have r3:W3.cell? (Aq nb 3)=some (Iq na):=(by rw[g0];exact World.cell?_setCell_same' _ _ _ (by rw[q3];rfl));have r0:=(qo 0 (by decide)).trans q0;have r1:=(qo 1 (by decide)).trans q1;have r2:=(qo 2 (by decide)).trans q2;have r4:=(qo 4 (by decide)).trans q4;have r5:=(qo 5 (by decide)).trans q5;have f4:W3.frozen? (Aq nb 4)=false:=(by rw[g0,World.frozen?_setCell];exact fq 4);have N0:Hid (Yw w W3 Xb B wv wv2):=(by show Yw _ _ _ _ _ _;rw[g0];exact M0.out.set V0 3 _);have m1:Hid (∃cs,W3.heap[nb]?=some (.cells cs 92 (0,0))):=(by rw[g0];exact zcw l0.out 3 _);have n1:=Zz g0;obtain⟨W4,m0⟩:=nmE (W3.setCell (Aq nb 4) (Iq nb2));have A1:Hid (Yh w0 W4 Xb T B Fb wv2 ac2 lvs2):=by
   obtain⟨cs,B1⟩:=m1.out;show Yh _ _ _ _ _ _ _ _ _;rw[m0];exact l1.out.priv (by omega) B1 k1.out 4 _
  have po:∀j,j≠4->W4.cell? (Aq nb j)=W3.cell? (Aq nb j):=λj hj=>by rw[m0];exact Qg _ _ _ _ (by intro hh;injection hh with _ h5;omega)
  have p4:W4.cell? (Aq nb 4)=some (Iq nb2):=(by rw[m0];exact World.cell?_setCell_same' _ _ _ (by rw[r4];rfl));have p0:=(po 0 (by decide)).trans r0;have p1:=(po 1 (by decide)).trans r1;have p2:=(po 2 (by decide)).trans r2;have p3:=(po 3 (by decide)).trans r3;have p5:=(po 5 (by decide)).trans r5;have C0:Hid (Yw w W4 Xb B wv wv2):=(by show Yw _ _ _ _ _ _;rw[m0];exact N0.out.set V0 4 _);have o1:=Zz m0;clear q fq i1 f0 B0 q0 q1 q2 q4 q5 qo g0 m0 po r0 r1 r2 r3 r5 m1
  go_wp2_with fail
  refine⟨E0.out _ j1.out.be,?_⟩;refine Zu ?_
  go_wp2_with fail
  rw[<-n1.out];clear n1 q3 f3;refine⟨E0.out _ l1.out.be,?_⟩;refine Zs rfl (by rintro _ ⟨_,_⟩;go_simp<;>rfl) (by go_simp<;>rfl) ?_;refine Ye ?_
  go_wp2_with fail
  rw[<-o1.out];clear o1 r4 f4;refine Zl ?_
  go_wp2_with fail
  refine(K0.out _ _ _ A1.out).mono ?_;rintro e3 W5 ⟨rfl,wv5,lvs5,h1,h2,h3⟩
  have HE:Hid (Vy (λ_=>False) w0 w Xb T B Fb wv acc lvs res (.returned (Iq res.1)) W5):=⟨rfl,wv5,lvs5,h1,C0.out.trans h2,λp hp=>by
   rcases h3 p hp with h|h|h|h
   ·rcases z1.out p h with h|h|h|h
    ·exact .inl h
    ·exact h.elim
    ·exact .inr (.inr (.inl h))
    exact .inr (.inr (.inr λb hb=>Nat.le_trans Y0.out.size (h b hb)))
   ·exact .inr (.inr (.inl h))
   ·exact .inr (.inr (.inl h))
   exact .inr (.inr (.inr λb hb=>Nat.le_trans C0.out.sz (h b hb)))⟩
  clear h1 h2 h3;go_wp2;go_ret;exact HE.out
end
def Tryz.infoIntW:(Tryz.prog.info? 3).map (λi=>(i.zero,i.size,i.bytes))=some (some (Iq 0),1,8):=by kernel_rfl
namespace Fl
def wAll_snoc(W:List Node->Stmt->Int×List Node)(s:Stmt):∀(l:List Stmt) (ws:List Node),wAll W ws (l++[s])=((wAll W ws l).1++[(W (wAll W ws l).2 s).1],(W (wAll W ws l).2 s).2)
 |[],_=>rfl
 |a::l,ws=>by simp only[List.cons_append,wAll,wAll_snoc W s l]
def wAll_len(W:List Node->Stmt->Int×List Node):∀(l:List Stmt) (ws:List Node),(wAll W ws l).1.length=l.length
 |[],_=>rfl
 |a::l,ws=>by simp only[wAll,List.length_cons,wAll_len W l]
end Fl
def zl1(h:w.ownsRow base 3 1 lv ns.length (ns.map (Value.int .i64))):Zw w.heap.size w lv ns:=by
 rcases id h.2 with⟨rfl,h0⟩|⟨g,cap,cur,rfl,hb,hg,b0,c0,d0,ht⟩
 ·exact⟨none,0,by rw[h0],by omega,by rw[h0];simp[maxLen],λa0=>absurd (Qi h0) a0⟩
 refine⟨_,cap,rfl,by omega,by omega,λ_=>⟨g,0,rfl,(h.lt g rfl).2,λi hi=>?_⟩⟩;have h4:=h.cells (g:=g) rfl i (Iq (ns.getD i 0)) (by rw[List.getElem?_map,Qa,Qb hi];rfl)
 have h5:((Aq g 0):Addr).add i=(Aq g i):=by unfold Addr.add;split<;>simp_all
 rw[h5]at h4;rw[Nat.zero_add];exact h4
def Vp(h:w.ownsRow base 3 1 lv ns.length (ns.map (Value.int .i64))):∀b,lv.ownBlock=some b->base<=b/\Uk w b:=λb hb=>by
 refine⟨(h.lt b hb).1,?_⟩;rcases id h.2 with⟨rfl,h0⟩|⟨g,cap,cur,rfl,a0,hg,-⟩
 ·cases hb
 injection hb with hb;subst hb;exact⟨cur,_,hg⟩
def zl2{e:TypeId}{k:Nat}(h:w.ownsRow base e k v n xs)(hv:∀g,v.ownBlock=some g->w'.heap[g]?=w.heap[g]?):w'.ownsRow base e k v n xs:=by
 refine⟨h.1,?_⟩;rcases h.2 with⟨rfl,h0⟩|⟨g,cap,cur,rfl,hb,hg,hr⟩
 ·exact .inl ⟨rfl,h0⟩
 exact .inr ⟨g,cap,cur,rfl,hb,by rw[hv g rfl];exact hg,hr⟩
def zxw(h:w.ownsRow base 92 6 v n xs):∀b,v.ownBlock=some b->¬Uk w b:=λb hb hl=>by
 rcases id h.2 with⟨rfl,h0⟩|⟨g,cap,cur,rfl,a0,hg,-⟩
 ·cases hb
 injection hb with hb;subst hb;obtain⟨cs,fr,h5⟩:=hl;rw[hg]at h5;injection h5 with h5;injection h5 with _ h6;exact absurd h6 (by decide)
def zz0{fr:Nat×Nat}(h:w.heap[nb]?=some (.cells cs t fr))(j:Nat)(v:Value):(w.setCell (Aq nb j) v).heap[nb]?=some (.cells (cs.setIfInBounds j v) t fr):=by
 have hl:nb<w.heap.size:=by
  rcases Nat.lt_or_ge nb w.heap.size with h'|h'
  ·exact h'
  rw[Array.getElem?_eq_none h']at h;cases h
 have h2:w.heap[nb]=.cells cs t fr:=by rw[Array.getElem?_eq_getElem hl]at h;injection h
 have a0:nb<(w.setCell (Aq nb j) v).heap.size:=by rw[Zy];exact hl
 rw[Array.getElem?_eq_getElem a0];simp only[World.setCell];rw[Array.getElem_modify];simp[h2]
def Yh.other(h:Yh w0 w Xb T B Fb wv acc lvs){row:Option Nat}(hg:w.grownBy w' row)(hr:∀c,row=some c->Xb<c/\wv.ownBlock≠some c/\∀p,p∈Xo acc lvs->p.2≠[]->p.1.ownBlock≠some c):Yh w0 w' Xb T B Fb wv acc lvs:=by
 obtain⟨x1,x2,x3⟩:=h.x0
 have ne:∀c,c<=Xb->some c≠row:=λc hc hh=>by have:=(hr c hh.symm).1;omega
 have a0:wv.ownBlock=none\/wv.ownBlock≠row:=by
  cases hw:wv.ownBlock with
  |none=>exact .inl rfl
  |some g=>exact .inr (λhh=>(hr g hh.symm).2.1 hw)
 refine⟨h.x0,Qj h.hz hg.size,hg.cell h.c0 (ne Xb (Nat.le_refl _)),hg.cell h.c1 (ne Xb (Nat.le_refl _)),hg.cell h.c2 (ne Xb (Nat.le_refl _)),λj=>(Qd (w:=w) (hg.block Xb h.hz (ne Xb (Nat.le_refl _)))).trans (h.fz j),h.se.kept hg (ne T (by omega)) (ne B (by omega)),h.hl,h.ow.kept hg a0,λp hp=>?_,h.be.grown hg (by have:=h.hz;omega) (λk hk=>by have:=(hr k hk).1;omega)⟩;obtain⟨k1,k2⟩:=h.li p hp;have hn:p.2≠[]->∀b,p.1.ownBlock=some b->some b≠row:=λh1 b hb hh=>(hr b hh.symm).2.2 p hp h1 hb;exact⟨⟨zq2 k1.1 hg hn,k1.2⟩,λh1 b hb=>⟨(k2 h1 b hb).1,(k2 h1 b hb).2.of (hg.block b (k2 h1 b hb).2.lt (hn h1 b hb))⟩⟩
def Yw.grown{w'':World}(h:Yw w w' Xb B wv wv'){row:Option Nat}(hg:w'.grownBy w'' row)(hr:∀c,row=some c->w.heap.size<=c):Yw w w'' Xb B wv wv':=
 ⟨hg.os.trans h.os,hg.tape.trans h.tp,hg.output.trans h.ou,Nat.le_trans h.sz hg.size,λc h1 h2 h3 h4=>(hg.block c (Qj h1 h.sz) (λhh=>by have:=hr c hh.symm;omega)).trans (h.bl c h1 h2 h3 h4),h.ow⟩
structure zq4(w0 w wr:World)(Xb T B Fb nb:Nat)(wv wv':Value)(u:Nat)(acc:List Fl.Node)(lvs:List Value)(ns:List Int)(ac:List Fl.Node)(lvs':List Value)(lv:Value):Prop where
 wi:Yh w0 wr Xb T B Fb wv' ac lvs'
 st:Yw w wr Xb B wv wv'
 ne:some nb≠wv'.ownBlock
 lo:Xc (λ_=>False) w acc lvs ac lvs'
 ll:∀p,p∈Xo ac lvs'->p.2≠[]->∀b,p.1.ownBlock=some b->lv.ownBlock≠some b
 ow:wr.ownsRow (nb+1) 3 1 lv ns.length (ns.map (Value.int .i64))
 nd:wr.heap[nb]?=some (.cells #[Iq 7,Iq u,Iq 0,Iq 0,Iq 0,lv] 92 (0,0))
def zq4.next{wr W1 W2 W3:World}{wv1:Value}{u:Nat}{ac ac1:List Fl.Node}{lvs1:List Value}{v':Value}{m:Int}(h:zq4 w0 w wr Xb T B Fb nb wv wv' u acc lvs ns ac lvs' lv)(f0:w.heap.size<=nb)(hX:Xb<nb)(hB:nb≠B)
  (h1:Yh w0 W1 Xb T B Fb wv1 ac1 lvs1) (hs:Yw wr W1 Xb B wv' wv1) (hl:Xc (λ_=>False) wr ac lvs' ac1 lvs1) (hb:Bq W1 W2) (ho:W3.ownsRow (nb+1) 3 1 v' (ns.length+1) (ns.map (Value.int .i64)++[Iq m])) (hg:W2.grownBy W3 lv.ownBlock) (hw:v'.ownBlock=lv.ownBlock\/v'.ownBlock=some W2.heap.size):
  zq4 w0 w (W3.setCell (Aq nb 5) v') Xb T B Fb nb wv wv1 u acc lvs (ns++[m]) ac1 lvs1 v':=by
 have k0:=h.wi.x0;have g0:nb<wr.heap.size:=by
  rcases Nat.lt_or_ge nb wr.heap.size with h'|h'
  ·exact h'
  have h5:=h.nd;rw[Array.getElem?_eq_none h']at h5;cases h5
 have hsz:=hs.sz;have l0:=hb.size;have m0:=hg.size
 have a0:∀g,lv.ownBlock=some g->nb<g/\g<wr.heap.size:=λg hh=>by have:=h.ow.lt g hh;omega
 have b0:some nb≠wv1.ownBlock:=λhh=>by
  rcases hs.ow with e|⟨g,e,h0⟩
  ·exact h.ne (hh.trans e)
  rw[e]at hh;injection hh with hh;omega
 have ll1:∀p,p∈Xo ac1 lvs1->p.2≠[]->∀b,p.1.ownBlock=some b->lv.ownBlock≠some b:=λp hp hn b c0 hh=>by
  rcases hl p hp with h5|h5|h5|h5
  ·exact h.ll p h5 hn b c0 hh
  ·exact h5
  ·exact hn h5
  have:=h5 b c0;have:=a0 b hh;omega
 have i0:=h1.below hb
 have d0:∀c,lv.ownBlock=some c->wv1.ownBlock≠some c:=λc hc hh=>by
  rcases hs.ow with e|⟨g,e,h0⟩
  ·exact zxw h.wi.ow c (e.symm.trans hh) (Vp h.ow c hc).2
  rw[e]at hh;injection hh with hh;have:=a0 c hc;omega
 have j0:Yh w0 W3 Xb T B Fb wv1 ac1 lvs1:=i0.other hg (λc hc=>⟨by have:=a0 c hc;omega,d0 c hc,λp hp hn hh=>ll1 p hp hn c hh hc⟩);have e0:W3.heap[nb]?=some (.cells #[Iq 7,Iq u,Iq 0,Iq 0,Iq 0,lv] 92 (0,0)):=by
  refine(hg.block nb (by omega) (λhh=>by have:=a0 nb hh.symm;omega)).trans ((hb.block nb (by omega)).trans ((hs.bl nb g0 (by omega) hB h.ne).trans h.nd))
 have hst:Yw w W3 Xb B wv wv1:=(((h.st.trans hs).trans (Yw.of_below hb)).grown hg (λc hc=>by have:=a0 c hc;omega));refine⟨j0.priv hX e0 b0 5 v',hst.set f0 5 v',b0,h.lo.trans h.st.sz hl,λp hp hn b c0 hh=>?_,?_,?_⟩
 ·rcases hw with e|e
  ·exact ll1 p hp hn b c0 (e.symm.trans hh)
  rw[e]at hh;injection hh with hh;have:=((h1.li p hp).2 hn b c0).2.lt;omega
 ·have h5:(W3.setCell (Aq nb 5) v').ownsRow (nb+1) 3 1 v' (ns.length+1) (ns.map (Value.int .i64)++[Iq m]):=ownsRow_setCell_below ho (by simp) v'
  rw[List.length_append,List.map_append];exact h5
 exact zz0 e0 5 v'
section
variable{S:Nat->Prop}
def zm3(N:Nat)(hN:N<=20000000)(d:Nat)(St:List Fl.Node->Fl.Stmt->Int×List Fl.Node)(u:Nat)(hu:u<=6)(v:Value)(l:List Fl.Stmt)(hF:Vo w0 Fb Pb Lb clv chv bv vv S p vs)(hl:Zg (d+1) S w0 v l)
  (hst:∀V wv' acc' lvs' pv s,s∈l->zzz (Zg d) S w0 pv s->Yh w0 V Xb T B Fb wv' acc' lvs'->acc'.length<=N->Cq 202 #[Pq Xb,pv,Iq u] V (Vy (λ_=>False) w0 V Xb T B Fb wv' acc' lvs' (St acc' s)))
  (I0:∀k,k<=l.length->(Fl.wAll St acc (l.take k)).2.length<=N/\∀n∈(Fl.wAll St acc (l.take k)).1,0<=n/\n<=20000000) (h:Yh w0 w Xb T B Fb wv acc lvs):
  Cq 140 #[Pq Xb,v,Iq u] w (Vy (λ_=>False) w0 w Xb T B Fb wv acc lvs (Fl.put1 (Fl.wAll St acc l).2 ⟨7,(u:Int),0,0,0,(Fl.wAll St acc l).1⟩)):=by
 obtain⟨ao,cap,rfl,Y0,Z0,x1,l0⟩:=id hl;have A0:=Zz l0;have a1:=Zz hst;have J0:=Zz I0;have HH:=Zz h;have b1:=Zz hF.hS;obtain⟨nb,hnb⟩:=nmE (w.heap.size);obtain⟨W0,r0⟩:=nmE (w.alloc (.cells #[Iq 7,Iq u,Iq 0,Iq 0,Iq 0,Zq] 92));have B0:Hid (zq4 w0 w W0 Xb T B Fb nb wv wv u acc lvs [] acc lvs Zq):=by
  have hb:Bq w W0:=(by rw[r0];exact bA);refine⟨h.below hb,Yw.of_below hb,λhh=>?_,Xc.refl _ _ _ _,λp hp hn b hb2 hh=>(by cases hh),World.ownsRow_nil _ _ _ _,by rw[r0,hnb];exact heap_alloc_last _ _⟩;have:=(h.ow.lt nb hh.symm).2;omega
 have c1:Xb<nb:=by rw[hnb];exact h.hz
 have K0:Hid (nb≠B):=by have:=h.x0;show nb≠B;omega
 have y1:(l.length:Int)<=16:=by omega
 have L0:=Zz hnb;unfold maxLen at Z0;obtain⟨RES,k0⟩:=nmE (Fl.put1 (Fl.wAll St acc l).2 ⟨7,(u:Int),0,0,0,(Fl.wAll St acc l).1⟩);rw[<-k0];have M0:=Zz k0;clear hl l0 hst I0 h hF k0
 go_enter func140,ntmps140
 go_wp2;rw[<-r0,<-hnb];clear r0 hnb
 go_loopw [14] (λi wr=>∃(k:Nat) (lv wv':Value) (lvs':List Value),k<=l.length/\i=Iq k/\zq4 w0 w wr Xb T B Fb nb wv wv' u acc lvs (Fl.wAll St acc (l.take k)).1 (Fl.wAll St acc (l.take k)).2 lvs' lv) (λi _=>l.length - (intOf i).toNat)
 case atStart=>exact⟨0,_,_,_,by omega,rfl,B0.out⟩
 case round=>
  obtain⟨k,lv,wv',lvs',hk,rfl,a0⟩:=hrel
  by_cases e0:k<l.length
  ·obtain⟨b,off,rfl,N0,g0⟩:=A0.out (by intro e;rw[e]at e0;cases e0)
   obtain⟨pv,O0,s0⟩:=g0 k e0;obtain⟨s,hs⟩:=nmE (l.getD k noS);have C0:s=l[k]:=(by rw[hs,Qa,Qb e0];rfl);have hmem:s∈l:=(by rw[C0];exact List.getElem_mem e0);rw[<-hs]at s0;obtain⟨la,lc,i0⟩:∃la lc,lv=.slice la (Fl.wAll St acc (l.take k)).1.length lc:=by
    rcases id a0.ow.2 with⟨rfl,h0⟩|⟨g,cp,cur,rfl,-⟩
    ·exact⟨none,0,by rw[h0]⟩
    exact⟨_,cp,rfl⟩
   have t0:Hid (Fl.wAll St acc (l.take (k+1))=((Fl.wAll St acc (l.take k)).1++[(St (Fl.wAll St acc (l.take k)).2 s).1],(St (Fl.wAll St acc (l.take k)).2 s).2)):=by
    show _=_;rw[List.take_succ_eq_append_getElem e0,<-C0,Fl.wAll_snoc]
   have P0:=(J0.out k hk).1;have d1:(Fl.wAll St acc (l.take k)).1.length<=16:=(by rw[Fl.wAll_len,List.length_take];omega);generalize hE:Fl.wAll St acc (l.take k)=E at*;obtain⟨ns,ac⟩:=E;simp only at a0 i0 t0 P0 d1;have j0:Hid (Cq 202 #[Pq Xb,pv,Iq u] wr.drew (Vy (λ_=>False) w0 wr.drew Xb T B Fb wv' ac lvs' (St ac s))):=a1.out _ _ _ _ _ _ hmem s0 (a0.wi.below dA) P0;obtain⟨rr,Q0⟩:=nmE (St ac s);obtain⟨m,ac1⟩:=rr;have hR:=Q0.symm;clear Q0;have hbz:b<w0.heap.size:=b1.out b N0;have f0:wr.cell? (Aq b (off+k))=some pv:=(a0.wi.be.cell (p:=(Aq b (off+k))) hbz).trans O0;have f1:∃sb,pv=Pq sb:=(by obtain⟨sb,-,-,-,e,-⟩:=s0;exact⟨sb,e⟩);obtain⟨sb,rfl⟩:=f1;have b0:=Zz a0;have g1:nb<wr.heap.size:=by
    rcases Nat.lt_or_ge nb wr.heap.size with h'|h'
    ·exact h'
    have h5:=a0.nd;rw[Array.getElem?_eq_none h']at h5;cases h5
   have u0:Hid (∀V:World,V.heap[nb]?=wr.heap[nb]?->V.cell? (Aq nb 5)=some (.slice la ns.length lc)/\V.cell? (Aq nb 0)=some (Iq 7)):=λV hV=>by
    have h5:=hV.trans b0.out.nd;rw[i0]at h5;exact⟨by simp only[World.cell?,h5];rfl,by simp only[World.cell?,h5];rfl⟩
   have j1:Hid (∀V:World,(V.cell? (Aq nb 5)=some (.slice la ns.length lc)/\V.cell? (Aq nb 0)=some (Iq 7))->(V.cell? (Aq nb 5)=some (.slice la ns.length lc)/\V.cell? (Aq nb 0)=some (Iq 7))):=λ_ h=>h;have D0:=Zz i0;have k1:(k:Int)<(l.length:Int):=(by omega);have l1:=Zz e0;have z1:=Zz hE;have A1:=Zz hR;rw[hR]at j0 t0;simp only at t0;clear g0 O0 N0 hmem C0 hs s0 a0 hE hR e0 i0
   go_wp2_with fail
   refine Yz j1 (u0.out _ rfl) [5,6,7] [9] [] (by kernel_rfl) (λc a d v w h=>by cases d<;>exact h) (λops _=>?_)
   iterate 5 refine Zs rfl (by rintro _ ⟨_,_⟩;go_simp<;>rfl) (by go_simp<;>rfl) ?_
   refine Zu ?_
   go_wp2_with fail
   refine j0.out.mono ?_;rintro e1 W1 ⟨rfl,wv1,lvs1,R0,m0,n0⟩;have m1:=Zz R0;have v0:Hid (Yw wr W1 Xb B wv' wv1):=(Yw.of_below dA).trans m0;have n1:=Zz n0;have S0:W1.heap[nb]?=wr.heap[nb]?:=v0.out.bl nb g1 (by omega) K0.out b0.out.ne;have o1:Hid (W1.ownsRow (nb+1) 3 1 (.slice la ns.length lc) ns.length (ns.map (Value.int .i64))):=by
    rw[<-D0.out];refine zl2 b0.out.ow (λg hg=>v0.out.bl g (b0.out.ow.lt g hg).2 (by have:=(b0.out.ow.lt g hg).1;omega) (λe=>?_) (λhh=>zxw b0.out.wi.ow g hh.symm (Vp b0.out.ow g hg).2));have h5:=(b0.out.ow.lt g hg).1;have h6:=b0.out.wi.x0;omega
   have B1:=v0.out.sz;have E0:=Zz S0;clear R0 m0 n0 S0
   go_wp2_with fail
   refine⟨u0.out _ E0.out,?_⟩;refine Zu ?_
   go_wp2_with fail
   obtain⟨W2,o0⟩:=nmE (W1.alloc (.cells #[Iq m] 3));rw[<-o0];have y0:Hid (Bq W1 W2):=(by show Below _ _ _;rw[o0];exact bA);have tc:∀j u,([Iq m]:List Value)[j]?=some u->W2.cell? (((Aq W1.heap.size 0):Addr).add j)=some u:=(by rw[o0];exact zsx (w:=W1) (l:=[Iq m]));have C1:W1.heap.size+1=W2.heap.size:=(by rw[o0];simp);have T0:Hid (W2.ownsRow (nb+1) 3 1 (.slice la ns.length lc) ns.length (ns.map (Value.int .i64))):=Je o1.out y0.out;obtain⟨i1,p1,r1,s1,t1⟩:=info_parts Tryz.infoIntW;have U0:=u0.out W2 ((y0.out.block nb (by omega)).trans E0.out);clear o0;refine⟨U0,?_⟩;refine Zu ?_
   go_wp2_with (at_builtin;refine Zn _ rfl (.tmp 19) (.tmp 24) 27 rfl (nb+1) 3 i1 (Iq 0) 1 8 underlying27 p1 r1 s1 t1 rfl (by decide) _ _ _ rfl T0.out (Aq W1.heap.size 0) 1 1 [Iq m] rfl rfl (by decide) tc (by intro u hu;simp at hu;subst hu;rfl) (by unfold maxLen;omega) (by omega) (by omega) ?_)
   intro v' W3 d0 F0 V0;obtain⟨g3,k3,rfl⟩:∃g3 k3,v'=.slice (some (Aq g3 0)) (ns.length+1) k3:=by
    rcases d0.2 with⟨h1,h2⟩|⟨g3,cp,cur,h1,_⟩
    ·omega
    exact⟨g3,cp,h1⟩
   have G0:Hid (zq4 w0 w (W3.setCell (Aq nb 5) (.slice (some (Aq g3 0)) (ns.length+1) k3)) Xb T B Fb nb wv wv1 u acc lvs (ns++[m]) ac1 lvs1 (.slice (some (Aq g3 0)) (ns.length+1) k3)):=zq4.next b0.out (by rw[L0.out];exact Nat.le_refl _) c1 K0.out m1.out v0.out n1.out y0.out d0 (by rw[D0.out];exact F0) (by rw[D0.out];exact V0);have H0:W3.heap[nb]?=wr.heap[nb]?:=(F0.block nb (by omega) (λhh=>by have:=(T0.out.lt nb hh.symm).1;omega)).trans ((y0.out.block nb (by omega)).trans E0.out);have X0:=u0.out W3 H0;have c3:=X0.1;have f3:W3.frozen? (Aq nb 5)=false:=(by have h5:=H0.trans b0.out.nd;simp[World.frozen?,h5]);clear d0 F0 V0 H0 tc U0
   go_wp2_with fail
   refine⟨X0,?_⟩;refine Zs rfl (by rintro _ ⟨_,_⟩;go_simp<;>rfl) (by go_simp<;>rfl) ?_;refine Ye ?_
   go_wp2_with fail
   refine Zl ?_;go_wp2
   go_roundw
   case rel=>exact⟨k+1,_,wv1,lvs1,by have:=l1.out;omega,by go_num,by rw[t0.out];exact G0.out⟩
   case measure=>simp[intOf];omega
  have u1:k=l.length:=(by omega);subst u1;rw[List.take_length]at a0;have c0:=J0.out l.length (Nat.le_refl _);rw[List.take_length]at c0;have hlen:=Fl.wAll_len St l acc;generalize Fl.wAll St acc l=E at*;obtain⟨ns,ac⟩:=E;simp only at a0 c0 hlen M0;obtain⟨la,lc,i0⟩:∃la lc,lv=.slice la ns.length lc:=by
   rcases id a0.ow.2 with⟨rfl,h0⟩|⟨g,cp,cur,rfl,-⟩
   ·exact⟨none,0,by rw[h0]⟩
   exact⟨_,cp,rfl⟩
  obtain⟨nd,z0⟩:=nmE (α:=Fl.Node) (⟨7,(u:Int),0,0,0,ns⟩);have p0:Fl.fits nd:=by
   have hR:∀z:Int,0<=z->z<=999999999->Fl.inR z=true:=λz h1 h2=>by simp only[Fl.inR,Bool.and_eq_true,decide_eq_true_eq];omega
   rw[z0];refine⟨hR _ (by show (0:Int)<=7;decide) (by show (7:Int)<=_;decide),hR _ (by show (0:Int)<=(u:Int);omega) (by show (u:Int)<=_;omega),hR _ (by show (0:Int)<=0;decide) (by show (0:Int)<=_;decide),hR _ (by show (0:Int)<=0;decide) (by show (0:Int)<=_;decide),hR _ (by show (0:Int)<=0;decide) (by show (0:Int)<=_;decide),by show ns.length<=16;omega,?_⟩;show ns.all Fl.inR=true;rw[List.all_eq_true];exact λz hz=>hR z (c0.2 z hz).1 (by have:=(c0.2 z hz).2;omega)
  have v1:Hid (Cq 203 #[Pq Xb,.agg #[Iq 7,Iq u,Iq 0,Iq 0,Iq 0,.slice la ns.length lc]] wr (Vy (λp=>p=(lv,ns)) w0 wr Xb T B Fb wv' ac lvs' RES)):=by
   have h5:=zv5 (lvn:=lv) a0.wi p0 (by rw[z0];exact zl1 a0.ow) (λ_ b hb=>⟨by have:=(Vp a0.ow b hb).1;omega,λhh=>zxw a0.wi.ow b hh.symm (Vp a0.ow b hb).2,(Vp a0.ow b hb).2⟩) (by have:=c0.1;omega);unfold ndV at h5;rw[z0]at h5;simp only at h5;rw[M0.out];rw[i0]at h5⊢;exact h5
  have b0:=Zz a0;have h5:=a0.nd;rw[i0]at h5
  have q:∀j u',(#[Value.int .i64 7,Iq u,Iq 0,Iq 0,Iq 0,.slice la ns.length lc]:Array Value)[j]?=some u'->wr.cell? (Aq nb j)=some u':=λj u' hj=>by simp only[World.cell?,h5];exact hj
  have q0:=q 0 _ rfl;have q1:=q 1 _ rfl;have q2:=q 2 _ rfl;have q3:=q 3 _ rfl;have q4:=q 4 _ rfl;have q5:=q 5 _ rfl;clear q h5 a0 p0 z0 c0 hlen i0
  go_wp2_with fail
  refine v1.out.mono ?_;rintro e W2 ⟨rfl,wv2,lvs2,h1,h2,h3⟩
  have HE:Hid (Vy (λ_=>False) w0 w Xb T B Fb wv acc lvs RES (.returned (Iq RES.1)) W2):=⟨rfl,wv2,lvs2,h1,b0.out.st.trans h2,λp hp=>by
   rcases h3 p hp with h|h|h|h
   ·exact b0.out.lo p h
   ·refine .inr (.inr (.inr λb hb=>?_))
    rw[h]at hb;have:=(Vp b0.out.ow b hb).1;have:=L0.out;omega
   ·exact .inr (.inr (.inl h))
   exact .inr (.inr (.inr λb hb=>Nat.le_trans b0.out.st.sz (h b hb)))⟩
  clear h1 h2 h3;go_wp2;go_ret;exact HE.out
end
end Go.Proofs.YtjekbnmnjeoagaaGreatDoor
