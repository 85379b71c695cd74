import Derived.Test.YtfhpibppblbgcaaGreatDoorM08
import Derived.Deep.DeepCutAuto
set_option linter.all false
set_option maxRecDepth 100000
set_option maxHeartbeats 40000000
namespace Go.Proofs.YtfhpibppblbgcaaGreatDoor
open Go.RowKit Go.Proofs.Tryz
variable{w w' w0:World}{acc:List Fl.ar}{lvs:List Value}{Xb T B Fb j Pb Lb nb:Nat}{wv bD bF bv vv v:Value}{P:Program}{ops:Array Oper}{Q:Exit->Act->World->Prop}{S:World->Prop}{o:Oper}{a:Act}{b c:Bool}{l:List Oper}{p:Fl.aS}{vs:List Int}{cs:Array Value}
def Jh(X:Value×List Int->Prop)(w:World)(acc:List Fl.ar)(lvs:List Value)(acc':List Fl.ar)(lvs':List Value):Prop:=∀p,p∈Vu acc' lvs'->p∈Vu acc lvs\/X p\/p.2=[]\/∀b,p.1.ownBlock=some b->w.heap.size<=b
def Jh.refl(X:Value×List Int->Prop)(w:World)(acc:List Fl.ar)(lvs:List Value):Jh X w acc lvs acc lvs:=λ_ h=> .inl h
def Jh.trans{acc' acc'':List Fl.ar}{lvs' lvs'':List Value}(h:Jh (λ_=>False) w acc lvs acc' lvs')(hw:w.heap.size<=w'.heap.size)(h':Jh (λ_=>False) w' acc' lvs' acc'' lvs''):Jh (λ_=>False) w acc lvs acc'' lvs'':=λp hp=>by
 rcases h' p hp with h1|h1|h1|h1
 ·exact h p h1
 ·exact h1.elim
 ·exact .inr (.inr (.inl h1))
 exact .inr (.inr (.inr λb hb=>Nat.le_trans hw (h1 b hb)))
def Vk(X:Value×List Int->Prop)(w0 w:World)(Xb T B Fb:Nat)(wv:Value)(acc:List Fl.ar)(lvs:List Value)(r:Int×List Fl.ar)(e:Ending)(w':World):Prop:=e=.returned (Iq r.1)/\∃wv' lvs',Ya w0 w' Xb T B Fb wv' r.2 lvs'/\Xz w w' Xb B wv wv'/\Jh X w acc lvs r.2 lvs'
def ndV(nd:Fl.ar)(lv:Value):Value:=.agg #[Iq nd.kind,Iq nd.ag,Iq nd.a,Iq nd.b,Iq nd.c,lv]
section
variable{lvn:Value}{nd:Fl.ar}
def zu3(h:Ya w0 w Xb T B Fb wv acc lvs)(hf:Fl.fits nd)(hi:Zv w.heap.size w lvn nd.aU)(hb:nd.aU≠[]->∀b,lvn.ownBlock=some b->Xb<b/\some b≠wv.ownBlock/\zw0 w b)(hn:acc.length<=100000000):
  Cq 122 #[Pq Xb,ndV nd lvn] w (Vk (λp=>p=(lvn,nd.aU)) w0 w Xb T B Fb wv acc lvs (Fl.cO acc nd)):=by
 obtain⟨x1,x2,x3⟩:=h.x0;have hz:=h.hz;obtain⟨la,lc,rfl,-⟩:=id hi;obtain⟨ln,D0⟩:=nmE (nd.aU.length);rw[<-D0]at hi hb⊢;obtain⟨lvn,s0⟩:=nmE (Value.slice la ln lc);rw[<-s0]at hi hb⊢;obtain⟨W0,j0⟩:=nmE (w.alloc (.cells #[Iq nd.kind,Iq nd.ag,Iq nd.a,Iq nd.b,Iq nd.c,lvn] 176))
 have p0:Hid (Bq w W0):=by show Below _ _ _;rw[j0];exact bA
 have a1:w.heap.size+1=W0.heap.size:=by rw[j0];simp
 have ND0:Vg W0 w.heap.size 0 nd lvn:=by
  rw[j0];exact⟨by simp,by simp,by simp,by simp,by simp,by simp,by rw[<-j0];exact zx0 hi p0⟩
 have q0:Hid (∀V,Bq W0 V->Vg V w.heap.size 0 nd lvn):=λV hV=>ND0.below hV;have HC:Hid (∀V,Bq W0 V->Cq 74 #[Pq w.heap.size] V λe w'=>e=.returned (.agg (Ym nd).toArray)/\Bq V w'):=λV hV=>zux (q0 V hV) hf.2.2.2.2.2.1;have HX:Hid (∀V,Bq W0 V->Ya w0 V Xb T B Fb wv acc lvs):=λV hV=>h.below (p0.trans (hV.mono (by omega)));have L0:Hid (∀V:World,Cl V Xb 2 (Pq T)/\True->Cl V Xb 2 (Pq T)/\True):=λV h=>h;have HN:Hid (∀V,Bq W0 V->Cq 73 #[Pq T,.agg (Ym nd).toArray] V λe w'=>((∃(i:Nat) (hi:i<acc.length),acc[i]=nd/\e=.returned (.tuple #[Iq (i:Int),.bool false])/\Ju w' T B acc)\/(nd ∉ acc/\e=.returned (.tuple #[Iq (acc.length:Int),.bool true])/\Ju w' T B (acc++[nd])))/\V.grownBy w' (some B)):=λV hV=>ynv (HX V hV).se hf hn;have HI:=Zz hi;have g0:=Zz hb;have HF:=Zz hf;generalize hcl:(Ym nd).toArray=cl at*;have r0:=Zz s0;clear ND0 hi hb hf hcl D0 s0;unfold ndV
 go_enter func122,ntmps122
 go_wp2_with fail
 rw[<-j0];clear j0;refine Zp L0 ⟨(HX _ dA).c2,trivial⟩ [4,5] [] [] (by kernel_rfl) (λc a d v w h=>by cases d<;>exact h) (λops _=>?_)
 iterate 4 refine Zw rfl (by rintro _ ⟨_,_⟩;go_simp<;>rfl) (by go_simp<;>rfl) ?_
 refine Zt ?_
 go_wp2_with fail
 refine(HC _ dA).mono ?_;rintro e1 W1 ⟨rfl,E0⟩;have h0:Hid (Bq W0 W1):=dA.trans E0;clear E0
 go_wp2_with fail
 refine⟨⟨(HX _ h0).c2,trivial⟩,?_⟩;refine Zt ?_
 go_wp2_with fail
 refine(HN _ h0).mono ?_;rintro e2 W2 ⟨M0,a0⟩;have k0:Hid (Ya w0 W1 Xb T B Fb wv acc lvs):=HX _ h0.out;have u0:=Zz a0
 have F0:some Xb≠some B:=by simp;omega
 have c22:Cl W2 Xb 2 (Pq T):=a0.cell k0.c2 F0;have b1:=h0.size;have v0:Hid (Xz w W2 Xb B wv wv):=by
  have l0:Bq w W1:=p0.trans (h0.mono (by omega));exact⟨a0.os.trans l0.os,a0.tape.trans l0.tape,a0.output.trans l0.output,Nat.le_trans l0.size a0.size,λc h1 _ h3 _=>(a0.block c (Qj h1 l0.size) (by simpa using h3)).trans (l0.block c h1),.inl rfl⟩
 rcases M0 with⟨i,G0,H0,rfl,m0⟩|⟨du,rfl,m0⟩
 ·have HE:Hid (Vk (λp=>p=(lvn,nd.aU)) w0 w Xb T B Fb wv acc lvs (Fl.cO acc nd) (.returned (Iq (i:Int))) W2):=by
   have e9:Fl.cO acc nd=((i:Int),acc):=yrz G0 H0 (λj hj he=>m0.oX G0 hj (by rw[he,H0]));rw[e9];exact⟨rfl,wv,lvs,k0.cA a0 m0,v0,Jh.refl _ _ _ _⟩
  clear m0 a0 HC HN q0
  go_wp2_with fail
  refine⟨⟨c22,trivial⟩,?_⟩
  iterate 5 refine Zw rfl (by rintro _ ⟨_,_⟩;go_simp<;>rfl) (by go_simp<;>rfl) ?_
  refine Zu ?_;go_wp2;go_ret;exact HE
 go_wp2_with fail
 refine⟨⟨c22,trivial⟩,?_⟩
 iterate 5 refine Zw rfl (by rintro _ ⟨_,_⟩;go_simp<;>rfl) (by go_simp<;>rfl) ?_
 refine Zu ?_
 have f0:some w.heap.size≠some B:=by simp;omega
 have i0:=q0 _ h0.out;have t0:=a0.cell i0.c0 f0;have t1:=a0.cell i0.c1 f0;have t2:=a0.cell i0.c2 f0;have t3:=a0.cell i0.c3 f0;have t4:=a0.cell i0.c4 f0;have t5:=a0.cell i0.c5 f0;simp only[Nat.zero_add]at t0 t1 t2 t3 t4 t5;have c21:Cl W2 Xb 1 wv:=a0.cell k0.c1 F0;have N0:=Zz m0;have O0:=Zz du;have I0:Hid (zhz w0 W2 Xb T B Fb wv acc lvs):=k0.pre a0;have P0:Hid (W2.ownsRow (Xb+1) 176 6 wv acc.length (flat acc lvs)):=k0.ow.kept a0 (.inr (λhh=>by have:=(k0.ow.lt B hh).1;omega));rw[r0.out]at t5;clear i0 m0 du a0 HC HN q0 c22
 go_wp2_with fail
 have Q0:Hid (∀V:World,(Cl V Xb 1 wv/\Cl V w.heap.size 0 (Iq nd.kind)/\Cl V w.heap.size 1 (Iq nd.ag)/\Cl V w.heap.size 2 (Iq nd.a)/\Cl V w.heap.size 3 (Iq nd.b)/\Cl V w.heap.size 4 (Iq nd.c)/\Cl V w.heap.size 5 (.slice la ln lc))->(Cl V Xb 1 wv/\Cl V w.heap.size 0 (Iq nd.kind)/\Cl V w.heap.size 1 (Iq nd.ag)/\Cl V w.heap.size 2 (Iq nd.a)/\Cl V w.heap.size 3 (Iq nd.b)/\Cl V w.heap.size 4 (Iq nd.c)/\Cl V w.heap.size 5 (.slice la ln lc))):=λV h=>h
 have y0:Hid (∀V:World,(∀b,b<=w.heap.size->some b≠wv.ownBlock->V.heap[b]?=W2.heap[b]?)->Cl V Xb 1 wv/\Cl V w.heap.size 0 (Iq nd.kind)/\Cl V w.heap.size 1 (Iq nd.ag)/\Cl V w.heap.size 2 (Iq nd.a)/\Cl V w.heap.size 3 (Iq nd.b)/\Cl V w.heap.size 4 (Iq nd.c)/\Cl V w.heap.size 5 (.slice la ln lc)):=λV hV=>by
  have z0:some Xb≠wv.ownBlock:=λhh=>by have:=(h.ow.lt Xb hh.symm).1;omega
  have R0:some w.heap.size≠wv.ownBlock:=λhh=>by have:=(h.ow.lt _ hh.symm).2;omega
  have qx:=Qc (a:=(Aq Xb 1)) (hV Xb (by omega) z0);have qn:∀j,V.cell? (Aq w.heap.size j)=W2.cell? (Aq w.heap.size j):=λj=>Qc (a:=(Aq w.heap.size j)) (hV _ (Nat.le_refl _) R0);exact⟨qx.trans c21,(qn 0).trans t0,(qn 1).trans t1,(qn 2).trans t2,(qn 3).trans t3,(qn 4).trans t4,(qn 5).trans t5⟩
 have d1:=v0.sz;have S0:=u0.size;refine Zp Q0 (y0 _ (λb _ _=>rfl)) [6,7,8] [10] [] (by kernel_rfl) (λc a d v w h=>by cases d<;>exact h) (λops _=>?_)
 iterate 6 refine Zw rfl (by rintro _ ⟨_,_,_,_,_,_,_⟩;go_simp<;>rfl) (by go_simp<;>rfl) ?_
 refine Zt ?_
 go_wp2_with fail
 obtain⟨W3,o0⟩:=nmE ((W2.alloc (.cells #[Iq nd.kind,Iq nd.ag,Iq nd.a,Iq nd.b,Iq nd.c,.slice la ln lc] 176)).drew);rw[<-o0]
 have b0:Hid (Bq W2 W3):=by show Below _ _ _;rw[o0];exact bA.drew
 have tc:∀j u,(Yh nd (.slice la ln lc))[j]?=some u->W3.cell? (((Aq W2.heap.size 0):Addr).add j)=some u:=by rw[o0];exact yz5 (w:=W2) (l:=Yh nd (.slice la ln lc))
 have f1:W2.heap.size+1=W3.heap.size:=by rw[o0];simp
 have J0:=y0 W3 (λb hb _=>b0.block b (by omega));have K0:Hid (W3.ownsRow (Xb+1) 176 6 wv acc.length (flat acc lvs)):=zl7 P0 b0.out;obtain⟨i1,T0,U0,V0,X0⟩:=info_parts Tryz.infoNodeW;clear o0;refine⟨J0,?_⟩;refine Zt ?_
 go_wp2_with (at_builtin;refine Zj _ rfl (.tmp 21) (.tmp 23) 67 rfl (Xb+1) 176 i1 (.agg #[Iq 0,Iq 0,Iq 0,Iq 0,Iq 0,Zq]) 6 64 underlying67 T0 U0 V0 X0 rfl (by decide) _ _ _ rfl K0 (Aq W2.heap.size 0) 1 1 (Yh nd (.slice la ln lc)) rfl rfl (by decide) tc (by intro u hu;simp[Yh]at hu;rcases hu with rfl|rfl|rfl|rfl|rfl|rfl<;>rfl) (by unfold maxLen;omega) (by omega) (by omega) ?_)
 intro v' W4 d0 e0 A0;obtain⟨g4,k4,rfl⟩:∃g4 k4,v'=.slice (some (Aq g4 0)) (acc.length+1) k4:=by
  rcases d0.2 with⟨h1,h2⟩|⟨g4,cp,cur,h1,_⟩
  ·omega
  exact⟨g4,cp,h1⟩
 have B0:=y0 W4 (λb hb f0=>(e0.block b (by omega) f0).trans (b0.block b (by omega)));have HE:Hid (Vk (λp=>p=(lvn,nd.aU)) w0 w Xb T B Fb wv acc lvs (Fl.cO acc nd) (.returned (Iq (acc.length:Int))) (W4.setCell (Aq Xb 1) (.slice (some (Aq g4 0)) (acc.length+1) k4))):=by
  rw[yi0 O0.out];have C0:Bq w W1:=p0.trans (h0.mono (by omega));have Y0:Zv W2.heap.size W2 (.slice la ln lc) nd.aU:=by
   rw[<-r0.out];exact zj2 (zx0 HI C0) u0 (λhn b hb=>by have:=(g0 hn b hb).1;simp;omega)
  refine⟨rfl,_,lvs++[.slice la ln lc],zhz.push I0 N0 b0 Y0 (by rw[<-r0.out];exact λhn b n0=>⟨(g0 hn b n0).1,(g0 hn b n0).2.1,(g0 hn b n0).2.2.of ((u0.block b (Qj (g0 hn b n0).2.2.lt C0.size) (by have:=(g0 hn b n0).1;simp;omega)).trans (C0.block b (g0 hn b n0).2.2.lt))⟩) d0 e0 A0,?_⟩;have Z0:Xz W2 (W4.setCell (Aq Xb 1) (.slice (some (Aq g4 0)) (acc.length+1) k4)) Xb B wv (.slice (some (Aq g4 0)) (acc.length+1) k4):=by
   refine⟨e0.os.trans b0.os,e0.tape.trans b0.tape,e0.output.trans b0.out.output,by rw[Zy];exact Nat.le_trans b0.size e0.size,λc h1 h2 h3 h4=>?_,?_⟩
   ·exact(Zx _ _ _ _ _ h2).trans ((e0.block c (by omega) h4).trans (b0.block c h1))
   rcases A0 with e|e
   ·exact .inl e
   exact .inr ⟨_,e,b0.size⟩
  refine⟨v0.trans Z0,λp hp=>?_⟩;rw[zv1 _ _ _ _ h.hl,List.mem_append,List.mem_singleton]at hp;rcases hp with hp|hp
  ·exact .inl hp
  exact .inr (.inl (by rw[hp,r0.out]))
 have fzx:W4.frozen? (Aq Xb 1)=false:=by
  have z0:some Xb≠wv.ownBlock:=λhh=>by have:=(h.ow.lt Xb hh.symm).1;omega
  exact(Qd (w:=W2) ((e0.block Xb (by omega) z0).trans (b0.block Xb (by omega)))).trans (I0.fz 1)
 have cx1:=B0.1;clear d0 e0 A0 K0 tc J0
 go_wp2_with fail
 refine⟨B0,?_⟩;refine Zt ?_
 go_wp2_with fail
 refine⟨B0,?_⟩;refine Zw rfl (by rintro _ ⟨_,_,_,_,_,_,_⟩;go_simp<;>rfl) (by go_simp<;>rfl) ?_;refine Xp ?_
 go_wp2_with fail
 refine Zu ?_;go_wp2;go_ret;exact HE
end
def Xj(P:Program)(ops:Array Oper)(S:World->Prop)(Q:Exit->Act->World->Prop)(E:Act->World->Prop):List (Nat×Oper)->Act->World->Prop
 |[],a,w=>S w/\E a w
 |(0,o)::l,a,w=>∃v,YieldsIf P ops S o v a/\Xj P ops S Q E l (a.put o.dst v) w
 |(_+1,o)::l,a,w=>wpList P ops (Exit.then (λa1 w1=>S w1/\Xj P ops S Q E l a1 w1) Q) [o] a w
def zzv(ops:Array Oper):List Nat->List (Nat×Nat)->Bool
 |_,[]=>true
 |pre,(0,i)::l=>Region.free .any ops (Zo ops.size pre) i && ((Region.ready .any ops (Zo ops.size pre)).contains i && zzv ops (pre++[i]) l)
 |pre,(_+1,i)::l=>decide (Region.ready .any ops (Zo ops.size pre)=[i]) && zzv ops (pre++[i]) l
section
variable{E:Act->World->Prop}
def Yq{l:List (Nat×Oper)}(hg:o.guard=none)
  (h:∀K:Act->Prop,(∀a',Xj P ops S Q E l a' w->K a')->∃v,(∀w,S w->(execOp a.eval o).run P w=.ok (.value v) w)/\K (a.put o.dst v)):Xj P ops S Q E ((0,o)::l) a w:=by
 obtain⟨v,h1,h2⟩:=h (λa'=>Xj P ops S Q E l a' w) (λ_ h=>h);exact⟨v,.inl ⟨by simp[Region.wanted,hg],h1⟩,h2⟩
def Ve{l:List (Nat×Oper)}(h:wpList P ops (Exit.then (λa1 w1=>S w1/\Xj P ops S Q E l a1 w1) Q) [o] a w):Xj P ops S Q E ((1,o)::l) a w:=h
def Xe(h:S w/\E a w):Xj P ops S Q E [] a w:=h
def zw4(f:Nat)(hs:Region.noSelect ops=true)(hQ:∀c a d v w,Q (.panic c) (Act.put a d v) w->Q (.panic c) a w):
  ∀(st:List (Nat×Nat)) (so:List (Nat×Oper)) (pre:List Nat) (a:Act) (w:World),S w->st.map (λp=>(p.1,ops[p.2]?))=so.map (λp=>(p.1,some p.2))->zzv ops pre st=true->
  (∀a w,E a w->S w->Ub P ops Q S [] f (Zo ops.size (pre++st.map (·.2))) a w)->
  Xj P ops S Q E so a w->Ub P ops Q S [] (f+st.length) (Zo ops.size pre) a w
 |[],so,pre,a,w,hS,a0,hB,hE,h=>by
  have:so=[]:=by cases so with|nil=>rfl|cons o so=>simp at a0
  subst this;have:=hE a w h.2 h.1;simpa using this
 |(0,i)::st,so,pre,a,w,hS,a0,hB,hE,h=>by
  cases so with
  |nil=>simp at a0
  |cons p so=>
   obtain⟨c,o⟩:=p;simp only[List.map_cons,List.cons.injEq,Prod.mk.injEq]at a0;obtain⟨⟨rfl,ho⟩,a0⟩:=a0;simp only[zzv,Bool.and_eq_true]at hB;obtain⟨v,h1,h2⟩:=h;have ih:=zw4 f hs hQ st so (pre++[i]) (a.put o.dst v) w hS a0 hB.2.2 (λa w hE' hS'=>by have:=hE a w hE' hS';simpa using this) h2;rw[Yp]at ih;have:=zs2 ho (Region.noSelect_spec hs) (λc a w h=>hQ c a _ _ w h) (by simp) (f+st.length) _ a w (Region.free_spec ho hB.1) (by simpa using hB.2.1) h1 hS ih;simpa [Nat.add_assoc] using this
 |(k+1,i)::st,so,pre,a,w,hS,a0,hB,hE,h=>by
  cases so with
  |nil=>simp at a0
  |cons p so=>
   obtain⟨c,o⟩:=p;simp only[List.map_cons,List.cons.injEq,Prod.mk.injEq]at a0;obtain⟨⟨rfl,ho⟩,a0⟩:=a0;simp only[zzv,Bool.and_eq_true,decide_eq_true_eq]at hB;rw[List.length_cons,<-Nat.add_assoc];refine⟨λh0=>(by rw[hB.1]at h0;cases h0),λx hx=>?_⟩;rw[hB.1]at hx;simp only[List.mem_singleton]at hx;subst hx;refine wpOp_mono (λa1 w1 hk=>⟨λ_=>hk.1,?_⟩) (Uk ho h);have ih:=zw4 f hs hQ st so (pre++[x]) a1 w1 hk.1 a0 hB.2 (λa w hE' hS'=>by have:=hE a w hE' hS';simpa using this) hk.2
   rwa [Yp]at ih
end
section
variable{E:Act->World->Prop}
def zfy{l:List (Nat×Oper)}(hg:o.guard=some (j,b))(hy:yielded ops a.tmps j=some b)
  (h:∀K:Act->Prop,(∀a',Xj P ops S Q E l a' w->K a')->∃v,(∀w,S w->(execOp a.eval o).run P w=.ok (.value v) w)/\K (a.put o.dst v)):Xj P ops S Q E ((0,o)::l) a w:=by
 obtain⟨v,h1,h2⟩:=h (λa'=>Xj P ops S Q E l a' w) (λ_ h=>h);exact⟨v,.inl ⟨by simp[Region.wanted,hg,hy],h1⟩,h2⟩
def zm4{l:List (Nat×Oper)}(hg:o.guard=some (j,b))(hy:yielded ops a.tmps j=some c)(a0:(some c==some b)=false)
  (h:Xj P ops S Q E l (a.put o.dst undef) w):Xj P ops S Q E ((0,o)::l) a w:=⟨undef,.inr ⟨by simpa [Region.wanted,hg,hy] using a0,rfl⟩,h⟩
def zhy{l:List (Nat×Oper)}{dst:Option Tmp}{op:Op}{ty:TypeId}{pos:String}{after:Array Edge}{guard:Option (Nat×Bool)}
  (hw:Region.wanted {dst:=dst,op:=op,type:=ty,pos:=pos,after:=after,guard:=guard} (yielded ops a.tmps)=true) (h:wpList P ops (Exit.then (λa1 w1=>S w1/\Xj P ops S Q E l a1 w1) Q) [{dst:=dst,op:=op,type:=ty,pos:=pos,after:=after,guard:=none}] a w):
  Xj P ops S Q E ((1,{dst:=dst,op:=op,type:=ty,pos:=pos,after:=after,guard:=guard})::l) a w:=Uj hw h
def zm5{l:List (Nat×Oper)}(hg:o.guard=some (j,b))(hy:yielded ops a.tmps j=some c)(a0:(some c==some b)=false)(hS:S w)
  (h:Xj P ops S Q E l (a.put o.dst undef) w):Xj P ops S Q E ((1,o)::l) a w:=wpList_skip (by simpa [Region.wanted,hg,hy] using a0) ⟨hS,h⟩
def zs7(P:Program)(ops:Array Oper)(S:World->Prop)(Q:Exit->Act->World->Prop)(so3:List (Nat×Oper))(ox oy:Oper)(a:Act)(w:World):Prop:=
 wpList P ops (Exit.then (λa1 w1=>S w1/\wpList P ops (Exit.then (λa2 w2=>S w2/\Xj P ops S Q (λa3 w3=>Q .normal a3 w3) so3 a2 w2) Q) [oy] a1 w1) Q) [ox] a w
def zov{id:Nat}(S:World->Prop)(st:List (Nat×Nat))(i j:Nat)(st3 G:List (Nat×Nat))(hm:P.follows .mixedOrders=true)
  (hB:(Region.noSelect l.toArray && (zzv l.toArray [] st && (decide (Region.ready .any l.toArray (Zo l.toArray.size (st.map (·.2)))=[i,j]) && (decide (Region.ready .any l.toArray (Zo l.toArray.size (st.map (·.2)++[i]))=[j]) && (decide (Region.ready .any l.toArray (Zo l.toArray.size (st.map (·.2)++[j]))=[i]) && (zzv l.toArray (st.map (·.2)++[i]++[j]) st3 && (zzv l.toArray (st.map (·.2)++[j]++[i]) st3 && (decide (Region.ready .any l.toArray (Zo l.toArray.size (st.map (·.2)++[i]++[j]++st3.map (·.2)))=[]) && (decide (Region.ready .any l.toArray (Zo l.toArray.size (st.map (·.2)++[j]++[i]++st3.map (·.2)))=[]) && G.all (λp=>decide (((l.toArray[p.1]?).bind λx=>x.dst)=some p.2)))))))))))=true)
  (bj:l.length=st3.length+2+st.length) (so so3:List (Nat×Oper)) (oi oj:Oper) (c0:st.map (λp=>(p.1,l.toArray[p.2]?))=so.map (λp=>(p.1,some p.2))) (a0:st3.map (λp=>(p.1,l.toArray[p.2]?))=so3.map (λp=>(p.1,some p.2))) (hi:l.toArray[i]?=some oi) (hj:l.toArray[j]?=some oj)
  (hQ:∀c a d v w,Q (.panic c) (Act.put a d v) w->Q (.panic c) a w) (hS:S w.drew)
  (h:∀ops:Array Oper,(∀p∈G,((ops[p.1]?).bind λx=>x.dst)=some p.2)->Xj P ops S Q (λa' w'=>zs7 P ops S Q so3 oi oj a' w'/\zs7 P ops S Q so3 oj oi a' w') so a w.drew):(Code.region id l.toArray true).wp P Q a w:=by
 simp only[Bool.and_eq_true,decide_eq_true_eq,List.all_eq_true]at hB;obtain⟨hs,hh,r0,ri,rj,t1,t2,e1,e2,hG⟩:=hB;have key:=zw4 (P:=P) (Q:=Q) (S:=S) (ops:=l.toArray) (st3.length+2) hs hQ st so [] a w.drew hS c0 hh ?_ (h l.toArray hG)
 ·refine wp_region_any hm (zz4 (S:=S) (late:=[]) _ _ _ _ ?_)
  have e:l.toArray.size=st3.length+2+st.length:=(by simp[bj]);rw[<-e]at key;simpa [Zo] using key
 intro a' w' hE hS'
 have step:∀(x y:Nat) (ox oy:Oper),l.toArray[x]?=some ox->l.toArray[y]?=some oy->Region.ready .any l.toArray (Zo l.toArray.size (st.map (·.2)++[x]))=[y]->zzv l.toArray (st.map (·.2)++[x]++[y]) st3=true->Region.ready .any l.toArray (Zo l.toArray.size (st.map (·.2)++[x]++[y]++st3.map (·.2)))=[]->
   zs7 P l.toArray S Q so3 ox oy a' w'->wpOp P l.toArray Q x (λa1 w1=>(x ∉ ([]:List Nat)->S w1)/\Ub P l.toArray Q S [] (st3.length+1) ((Zo l.toArray.size ([]++st.map (·.2))).setIfInBounds x true) a1 w1) a' w':=by
  intro x y ox oy hx hy h1 h2 h3 hw;refine wpOp_mono (λa1 w1 hk=>⟨λ_=>hk.1,?_⟩) (Uk hx hw);have e1:(Zo l.toArray.size ([]++st.map (·.2))).setIfInBounds x true=Zo l.toArray.size (st.map (·.2)++[x]):=(by rw[Yp];rfl);rw[e1];refine⟨λh0=>(by rw[h1]at h0;cases h0),λz hz=>?_⟩;rw[h1]at hz;simp only[List.mem_singleton]at hz;subst hz;refine wpOp_mono (λa2 w2 b0=>⟨λ_=>b0.1,?_⟩) (Uk hy hk.2);have e2:(Zo l.toArray.size (st.map (·.2)++[x])).setIfInBounds z true=Zo l.toArray.size (st.map (·.2)++[x]++[z]):=(Yp _ _ _).symm;rw[e2];have:=zw4 (P:=P) (Q:=Q) (S:=S) (ops:=l.toArray) (E:=λa3 w3=>Q .normal a3 w3) 0 hs hQ st3 so3 (st.map (·.2)++[x]++[z]) a2 w2 b0.1 a0 h2 (λa3 w3 hE3 _=>⟨h3,hE3⟩) b0.2;simpa using this
 refine⟨λh0=>?_,λz hz=>?_⟩
 ·simp only[List.nil_append]at h0;rw[r0]at h0;cases h0
 simp only[List.nil_append]at hz;rw[r0]at hz;simp only[List.mem_cons,List.not_mem_nil,or_false]at hz;rcases hz with rfl|rfl
 ·exact step _ j oi oj hi hj ri t1 e1 hE.1
 exact step _ i oj oi hj hi rj t2 e2 hE.2
end
section
def zpv(P:Program)(ops:Array Oper)(S:World->Prop)(Q:Exit->Act->World->Prop)(so:List (Nat×Oper))(ox:Oper)(a:Act)(w:World):Prop:=
 wpList P ops (Exit.then (λa1 w1=>S w1/\Xj P ops S Q (λa3 w3=>Q .normal a3 w3) so a1 w1) Q) [ox] a w
def zqy{id:Nat}(S:World->Prop)(st:List (Nat×Nat))(i j:Nat)(sti stj:List (Nat×Nat))(hm:P.follows .mixedOrders=true)
  (hB:(Region.noSelect l.toArray && (zzv l.toArray [] st && (decide (Region.ready .any l.toArray (Zo l.toArray.size (st.map (·.2)))=[i,j]) && (zzv l.toArray (st.map (·.2)++[i]) sti && (zzv l.toArray (st.map (·.2)++[j]) stj && (decide (Region.ready .any l.toArray (Zo l.toArray.size (st.map (·.2)++[i]++sti.map (·.2)))=[]) && decide (Region.ready .any l.toArray (Zo l.toArray.size (st.map (·.2)++[j]++stj.map (·.2)))=[])))))))=true)
  (bj:l.length=sti.length+1+st.length) (hlen':stj.length=sti.length) (so soi soj:List (Nat×Oper)) (oi oj:Oper) (d0:st.map (λp=>(p.1,l.toArray[p.2]?))=so.map (λp=>(p.1,some p.2))) (a0:sti.map (λp=>(p.1,l.toArray[p.2]?))=soi.map (λp=>(p.1,some p.2))) (b0:stj.map (λp=>(p.1,l.toArray[p.2]?))=soj.map (λp=>(p.1,some p.2))) (hi:l.toArray[i]?=some oi) (hj:l.toArray[j]?=some oj)
  (hQ:∀c a d v w,Q (.panic c) (Act.put a d v) w->Q (.panic c) a w) (hS:S w.drew)
  (h:∀ops:Array Oper,Xj P ops S Q (λa' w'=>zpv P ops S Q soi oi a' w'/\zpv P ops S Q soj oj a' w') so a w.drew):(Code.region id l.toArray true).wp P Q a w:=by
 simp only[Bool.and_eq_true,decide_eq_true_eq]at hB;obtain⟨hs,hh,r0,t1,t2,e1,e2⟩:=hB;have key:=zw4 (P:=P) (Q:=Q) (S:=S) (ops:=l.toArray) (sti.length+1) hs hQ st so [] a w.drew hS d0 hh ?_ (h l.toArray)
 ·refine wp_region_any hm (zz4 (S:=S) (late:=[]) _ _ _ _ ?_)
  have e:l.toArray.size=sti.length+1+st.length:=(by simp[bj]);rw[<-e]at key;simpa [Zo] using key
 intro a' w' hE hS'
 have step:∀(x:Nat) (ox:Oper) (stx:List (Nat×Nat)) (sox:List (Nat×Oper)),l.toArray[x]?=some ox->stx.length=sti.length->stx.map (λp=>(p.1,l.toArray[p.2]?))=sox.map (λp=>(p.1,some p.2))->zzv l.toArray (st.map (·.2)++[x]) stx=true->Region.ready .any l.toArray (Zo l.toArray.size (st.map (·.2)++[x]++stx.map (·.2)))=[]->
   zpv P l.toArray S Q sox ox a' w'->wpOp P l.toArray Q x (λa1 w1=>(x ∉ ([]:List Nat)->S w1)/\Ub P l.toArray Q S [] sti.length ((Zo l.toArray.size ([]++st.map (·.2))).setIfInBounds x true) a1 w1) a' w':=by
  intro x ox stx sox hx hl c0 h2 h3 hw;refine wpOp_mono (λa1 w1 hk=>⟨λ_=>hk.1,?_⟩) (Uk hx hw);have e1:(Zo l.toArray.size ([]++st.map (·.2))).setIfInBounds x true=Zo l.toArray.size (st.map (·.2)++[x]):=(by rw[Yp];rfl);rw[e1];have:=zw4 (P:=P) (Q:=Q) (S:=S) (ops:=l.toArray) (E:=λa3 w3=>Q .normal a3 w3) 0 hs hQ stx sox (st.map (·.2)++[x]) a1 w1 hk.1 c0 h2 (λa3 w3 hE3 _=>⟨h3,hE3⟩) hk.2;rw[<-hl];simpa using this
 refine⟨λh0=>?_,λz hz=>?_⟩
 ·simp only[List.nil_append]at h0;rw[r0]at h0;cases h0
 simp only[List.nil_append]at hz;rw[r0]at hz;simp only[List.mem_cons,List.not_mem_nil,or_false]at hz;rcases hz with rfl|rfl
 ·exact step _ oi sti soi hi rfl a0 t1 e1 hE.1
 exact step _ oj stj soj hj hlen' b0 t2 e2 hE.2
end
def Tryz.infoNode6:(Tryz.prog.info? 176).map (·.size)=some 6:=by kernel_rfl
section
variable{S:Nat->Prop}
def zrv(h:Ya w0 w Xb T B Fb wv acc lvs)(hF:Vb w0 Fb Pb Lb bD bF bv vv S p vs){a:Fl.dM}(ha:Xu S w0 v a)(ho:Fl.dU vs.length a)(hv:vs.length<=100)(hn:acc.length<=100000000):
  Cq 151 #[Pq Xb,v] w (Vk (λ_=>False) w0 w Xb T B Fb wv acc lvs (Fl.bP p vs acc a)):=by
 have p0:zt5 vs a:=λhv=>by unfold Fl.dU at ho;rwa [if_pos hv]at ho
 obtain⟨al,H0,eal⟩:=zy5 hF.lv.lv hF.ok.2 p0;have r0:zxz S w0 v ⟨-1,a,a⟩:=.inl ⟨rfl,ha⟩;have t0:Fl.cX vs.length ⟨-1,a,a⟩:=⟨by show (-1:Int)<= -1;decide,by show (-1:Int)<=4;decide,ho,ho⟩
 have evl:Fl.br p vs ⟨-1,a,a⟩=(al:Int):=by unfold Fl.br;rw[if_pos (by show (-1:Int)<0;decide)];exact eal
 obtain⟨vb,rfl,C0,hc⟩:=ha;have u0:vb<w0.heap.size:=hF.hS vb C0;have be:=h.be;have hbz:=be.size;have hX:=h.hz
 have HS:Hid (∀V,Bq w V->V.cell? (Aq vb 0)=some (Iq (if a.var then 1 else 0))/\V.cell? (Aq vb 1)=some (Iq a.v)/\V.cell? (Aq Xb 0)=some (Pq Fb)):=λV hV=>by
  have h0:Bq w0 V:=be.trans (hV.mono hbz);exact⟨(h0.cell (p:=(Aq vb 0)) u0).trans (hc.c 0 (by omega)),(h0.cell (p:=(Aq vb 1)) u0).trans (hc.c 1 (by omega)),(h.below hV).c0⟩
 have v0:Hid (∀V,Bq w V->Cq 150 #[Pq Fb,Pq vb] V λr w'=>r=.returned (Iq (al:Nat))/\Bq V w'):=λV hV=>by
  have h0:Bq w0 V:=be.trans (hV.mono hbz);have h5:=zt7 (hF.below h0) (r0.kept (λ_ h=>h) (λb hb=>h0.block b (hF.hS b hb))) t0;rw[evl]at h5;exact h5
 obtain⟨kd,e0⟩:=nmE (α:=Int) (if a.var then 1 else 0)
 have D0:(kd==2)=false:=by rw[e0];cases a.var<;>decide
 obtain⟨nd,i0⟩:=nmE (α:=Fl.ar) (⟨if a.var then 1 else 0,Fl.bV p vs a,a.v,0,0,[]⟩);have j0:Fl.fits nd:=by
  have h6:=hF.lv.lv.n6
  have I0:a.v<=999999999:=by unfold Fl.dU at ho;split at ho<;>omega
  have k0:kd=0\/kd=1:=by rw[e0];cases a.var<;>simp
  have hR:∀z:Int,0<=z->z<=999999999->Fl.cq z=true:=λz h1 h2=>by simp only[Fl.cq,Bool.and_eq_true,decide_eq_true_eq];omega
  rw[i0,eal,<-e0];exact⟨hR _ (by rcases k0 with h|h<;>(show 0<=kd;omega)) (by rcases k0 with h|h<;>(show kd<=_;omega)),hR _ (by show (0:Int)<=(al:Int);omega) (by show (al:Int)<=_;omega),hR _ (by show (0:Int)<=(a.v:Int);omega) (by show (a.v:Int)<=_;omega),hR _ (by show (0:Int)<=0;decide) (by show (0:Int)<=_;decide),hR _ (by show (0:Int)<=0;decide) (by show (0:Int)<=_;decide),by simp,by simp⟩
 have E0:Hid (∀V,Bq w V->Cq 122 #[Pq Xb,.agg #[Iq kd,Iq al,Iq a.v,Iq 0,Iq 0,Zq]] V (Vk (λp=>p.2=[]) w0 V Xb T B Fb wv acc lvs (Fl.bP p vs acc a))):=λV hV=>by
  have h5:=zu3 (lvn:=Zq) (h.below hV) j0 (by rw[i0];exact⟨none,0,rfl,by simp,by simp[maxLen],λhh=>absurd rfl hh⟩) (λhh=>by rw[i0]at hh;exact absurd rfl hh) hn;unfold ndV at h5;rw[i0]at h5;simp only at h5;rw[<-e0,eal]at h5;unfold Fl.bP;rw[<-e0,eal];refine h5.mono ?_;rintro e W ⟨h6,wv',lvs',h7,h8,h9⟩;refine⟨h6,wv',lvs',h7,h8,λp hp=>?_⟩;rcases h9 p hp with h1|h1|h1|h1
  ·exact .inl h1
  ·exact .inr (.inl (by rw[h1]))
  ·exact .inr (.inr (.inl h1))
  exact .inr (.inr (.inr h1))
 rw[<-e0]at HS;generalize Fl.bP p vs acc a=aV at*;generalize a.v=av at*;clear p0 eal r0 t0 evl hc ho e0 i0 j0;unfold ptr
 go_enter func151,ntmps151
 go_wp2_with fail
 go_cut [5] (λq wc=>∃nb,q=Pq nb/\Bq w wc/\nb<wc.heap.size/\wc.heap[nb]?=some (.cells #[Iq kd,Iq al,Iq av,Iq 0,Iq 0,Zq] 176 (0,0)))
 case first=>
  refine zqy (λV=>Bq w V/\V.cell? (Aq vb 0)=some (Iq kd)/\V.cell? (Aq vb 1)=some (Iq av)/\V.cell? (Aq Xb 0)=some (Pq Fb)) [(0,0),(0,1),(0,2),(0,3),(0,4),(0,5),(0,6),(0,7),(0,8),(0,10),(0,11),(0,12),(0,13)] 9 15 [(0,14),(1,15),(1,16)] [(1,9),(0,14),(1,16)] (by kernel_rfl) (by kernel_rfl) rfl rfl [(_,_),(_,_),(_,_),(_,_),(_,_),(_,_),(_,_),(_,_),(_,_),(_,_),(_,_),(_,_),(_,_)] [(_,_),(_,_),(_,_)] [(_,_),(_,_),(_,_)] _ _ rfl rfl rfl rfl rfl (λc a d v w h=>by cases d<;>exact h) ⟨dA,HS _ dA⟩ (λops=>?_);simp only[List.getElem_toArray,List.getElem_cons_succ,List.getElem_cons_zero]
  iterate 13 refine Yq rfl (kE (by rintro _ ⟨_,_,_,_⟩;go_simp<;>rfl) (by go_simp<;>rfl) ?_)
  refine Xe ⟨⟨dA,HS _ dA⟩,?_,?_⟩
  ·unfold zpv
   go_wp2_with fail
   refine(v0 _ dA).mono ?_;rintro e1 W1 ⟨rfl,f0⟩;have a0:Hid (Bq w W1):=dA.trans f0;clear f0
   go_wp2_with fail
   refine⟨⟨a0,HS _ a0⟩,?_⟩;refine Yq rfl (kE (by rintro _ ⟨_,_,_,_⟩;go_simp<;>rfl) (by go_simp<;>rfl) ?_);refine Ve ?_
   go_wp2_with fail
   refine⟨⟨a0.alloc a0.size _,HS _ (a0.alloc a0.size _)⟩,?_⟩;refine Ve ?_
   go_wp2_with fail
   refine⟨⟨a0.alloc a0.size _,HS _ (a0.alloc a0.size _)⟩,?_⟩;refine Xe ⟨⟨a0.alloc a0.size _,HS _ (a0.alloc a0.size _)⟩,?_⟩;rename_i b0;refine b0 _ _ ?_
   go_meet
   case rel=>exact⟨_,rfl,a0.alloc a0.size _,by simp,heap_alloc_last _ _⟩
  unfold zpv;obtain⟨W0,l0⟩:=nmE ((w.alloc (.cells #[Iq 0,Iq 0,Iq 0,Iq 0,Iq 0,Zq] 176)).drew);have g0:Hid (Bq w W0):=(by show Below _ _ _;rw[l0];exact bA.drew);have x0:Hid (W0.heap[w.heap.size]?=some (.cells #[Iq 0,Iq 0,Iq 0,Iq 0,Iq 0,Zq] 176 (0,0))):=(by show _=_;rw[l0];exact heap_alloc_last w _);have y0:w.heap.size<W0.heap.size:=(by rw[l0];simp)
  go_wp2_with fail
  rw[<-l0];clear l0;refine⟨⟨g0,HS _ g0⟩,?_⟩;refine Ve ?_
  go_wp2_with fail
  refine(v0 _ g0).mono ?_;rintro e1 W1 ⟨rfl,f0⟩;have a0:Hid (Bq w W1):=g0.trans (f0.mono g0.size);have z0:Hid (W1.heap[w.heap.size]?=some (.cells #[Iq 0,Iq 0,Iq 0,Iq 0,Iq 0,Zq] 176 (0,0))):=(f0.block _ y0).trans x0.out;have J0:w.heap.size<W1.heap.size:=Qj y0 f0.size;clear f0 x0 g0
  go_wp2_with fail
  refine⟨⟨a0,HS _ a0⟩,?_⟩;refine Yq rfl (kE (by rintro _ ⟨_,_,_,_⟩;go_simp<;>rfl) (by go_simp<;>rfl) ?_);refine Ve ?_;refine Xn rfl (.tmp 5) (.tmp 20) 176 rfl w.heap.size rfl _ #[Iq kd,Iq al,Iq av,Iq 0,Iq 0,Zq] rfl 176 z0.out Tryz.infoNode6 rfl (by simp[Value.oneCell']) ?_;have d0:=setRow_heap W1 w.heap.size _ #[Iq kd,Iq al,Iq av,Iq 0,Iq 0,Zq] _ _ z0.out;have A0:=below_setRow a0 (Nat.le_refl _) #[Iq kd,Iq al,Iq av,Iq 0,Iq 0,Zq];generalize W1.setRow w.heap.size #[Iq kd,Iq al,Iq av,Iq 0,Iq 0,Zq]=W2 at*;have F0:=Zz d0;have m0:=Zz A0;have G0:w.heap.size<W2.heap.size:=by
   rcases Nat.lt_or_ge w.heap.size W2.heap.size with h|h
   ·exact h
   rw[Array.getElem?_eq_none h]at d0;cases d0
  clear d0 A0
  go_wp2_with fail
  refine⟨⟨m0,HS _ m0⟩,?_⟩;refine Xe ⟨⟨m0,HS _ m0⟩,?_⟩;rename_i b0;refine b0 _ _ ?_
  go_meet
  case rel=>exact⟨_,rfl,m0,G0,F0⟩
 case rest=>
  obtain⟨nb,rfl,n0,K0,B0⟩:=hcut;obtain⟨s0,s1,s2⟩:=HS _ n0;have o0:=Zz n0
  have q:∀j u,(#[Value.int .i64 kd,Iq al,Iq av,Iq 0,Iq 0,Zq]:Array Value)[j]?=some u->wc.cell? (Aq nb j)=some u:=λj u hj=>by simp only[World.cell?,B0];exact hj
  have q0:=q 0 _ rfl;have q1:=q 1 _ rfl;have q2:=q 2 _ rfl;have q3:=q 3 _ rfl;have q4:=q 4 _ rfl;have q5:=q 5 _ rfl;clear q B0 n0
  go_wp2_with fail
  refine(E0 _ o0).mono ?_;rintro e W2 ⟨rfl,wv',lvs',h1,h2,h3⟩
  have HE:Hid (Vk (λ_=>False) w0 w Xb T B Fb wv acc lvs aV (.returned (Iq aV.1)) W2):=⟨rfl,wv',lvs',h1,(Xz.cW o0).trans h2,λp hp=>by
   rcases h3 p hp with h|h|h|h
   ·exact .inl h
   ·exact .inr (.inr (.inl h))
   ·exact .inr (.inr (.inl h))
   exact .inr (.inr (.inr λb hb=>Nat.le_trans o0.size (h b hb)))⟩
  clear h1 h2 h3;go_wp2;go_ret;exact HE
end
def Ya.mN(h:Ya w0 w Xb T B Fb wv acc lvs)(hx:Xb<nb){fr:Nat×Nat}(hn:w.heap[nb]?=some (.cells cs 176 fr))(ho:some nb≠wv.ownBlock)(j:Nat)(v:Value):Ya w0 (w.setCell (Aq nb j) v) Xb T B Fb wv acc lvs:=by
 obtain⟨x1,x2,x3⟩:=h.x0;have gs:w.grownBy (w.setCell (Aq nb j) v) (some nb):=⟨rfl,rfl,rfl,by rw[Zy];exact Nat.le_refl _,λk hk hn=>Zx _ _ _ _ _ (λe=>hn (by rw[e]))⟩
 have b0:∀c,c<=Xb->some c≠some nb:=λc hc=>by simp;omega
 have d0:∀p,p∈Vu acc lvs->p.2≠[]->∀b,p.1.ownBlock=some b->b≠nb:=λp hp a0 b hb e=>by
  obtain⟨cs',fr',h5⟩:=((h.li p hp).2 a0 b hb).2;rw[e,hn]at h5;injection h5 with h5;injection h5 with _ h6;exact absurd h6 (by decide)
 refine⟨h.x0,by rw[Zy];exact h.hz,gs.cell h.c0 (b0 Xb (Nat.le_refl _)),gs.cell h.c1 (b0 Xb (Nat.le_refl _)),gs.cell h.c2 (b0 Xb (Nat.le_refl _)),λi=>by rw[World.frozen?_setCell];exact h.fz i,h.se.kept gs (b0 T (by omega)) (b0 B (by omega)),h.hl,h.ow.kept gs (.inr (λhh=>ho hh.symm)),λp hp=>⟨(h.li p hp).1.set (λa0 hh=>d0 p hp a0 nb hh rfl),λa0 b hb=>⟨((h.li p hp).2 a0 b hb).1,((h.li p hp).2 a0 b hb).2.of (Zx _ _ _ _ _ (d0 p hp a0 b hb))⟩⟩,h.be.setCell (by show w0.heap.size<=nb;omega) _⟩
def yy4{t:TypeId}{fr:Nat×Nat}(h:w.heap[nb]?=some (.cells cs t fr))(j:Nat)(v:Value):∃cs',(w.setCell (Aq nb j) v).heap[nb]?=some (.cells cs' t fr):=by
 have hl:nb<w.heap.size:=by
  rcases Nat.lt_or_ge nb w.heap.size with h'|h'
  ·exact h'
  rw[Array.getElem?_eq_none h']at h;cases h
 have h2:w.heap[nb]=.cells cs t fr:=by rw[Array.getElem?_eq_getElem hl]at h;injection h
 refine⟨cs.setIfInBounds j v,?_⟩
 have a0:nb<(w.setCell (Aq nb j) v).heap.size:=by rw[Zy];exact hl
 rw[Array.getElem?_eq_getElem a0];simp only[World.setCell];rw[Array.getElem_modify];simp[h2]
def Xz.set{wv':Value}(h:Xz w w' Xb B wv wv')(hn:w.heap.size<=nb)(j:Nat)(v:Value):Xz w (w'.setCell (Aq nb j) v) Xb B wv wv':=
 ⟨h.os,h.tp,h.ou,by rw[Zy];exact h.sz,λc h1 h2 h3 h4=>(Zx _ _ _ _ _ (by omega)).trans (h.bl c h1 h2 h3 h4),h.ow⟩
def zj3(acc:List Fl.ar)(nd:Fl.ar):acc.length<=(Fl.cO acc nd).2.length/\(Fl.cO acc nd).2.length<=acc.length+1/\0<=(Fl.cO acc nd).1/\(Fl.cO acc nd).1<=acc.length:=by
 unfold Fl.cO
 split
 ·rename_i i hi
  have:=List.mem_of_find?_eq_some hi;rw[List.mem_range]at this;simp only;omega
 simp
section
variable{S:Nat->Prop}
def yry(h:Ya w0 w Xb T B Fb wv acc lvs)(hF:Vb w0 Fb Pb Lb bD bF bv vv S p vs){e:Fl.dd}(he:zxz S w0 v e)(ho:Fl.cX vs.length e)(hv:vs.length<=100)(hn:acc.length<=50000000):
  Cq 151 #[Pq Xb,v] w (Vk (λ_=>False) w0 w Xb T B Fb wv acc lvs (Fl.db p vs acc e)):=by
 have O0:=he;rcases he with⟨h1,h2⟩|⟨h1,vb,x,y,rfl,t1,hc,h5,h6⟩
 ·have e1:Fl.db p vs acc e=Fl.bP p vs acc e.a:=by unfold Fl.db;rw[if_pos (by omega)]
  rw[e1];exact zrv h hF h2 ho.2.2.1 hv (by omega)
 obtain⟨al,u1,eal⟩:=zv7 hF.lv.lv hF.ok ho;have D0:vb<w0.heap.size:=hF.hS vb t1;have be:=h.be;have hbz:=be.size;have hX:=h.hz
 have HS:Hid (∀V,Bq w V->V.cell? (Aq vb 0)=some (Iq 2)/\V.cell? (Aq vb 1)=some (Iq e.op)/\V.cell? (Aq Xb 0)=some (Pq Fb)):=λV hV=>by
  have n0:Bq w0 V:=be.trans (hV.mono hbz);exact⟨(n0.cell (p:=(Aq vb 0)) D0).trans (hc.c 0 (by omega)),(n0.cell (p:=(Aq vb 1)) D0).trans (hc.c 1 (by omega)),(h.below hV).c0⟩
 have E0:Hid (∀V,Bq w0 V->V.cell? (Aq vb 2)=some x/\V.cell? (Aq vb 3)=some y):=λV hV=>⟨(hV.cell (p:=(Aq vb 2)) D0).trans (hc.c 2 (by omega)),(hV.cell (p:=(Aq vb 3)) D0).trans (hc.c 3 (by omega))⟩
 have P0:Hid (∀V,Bq w V->Cq 150 #[Pq Fb,Pq vb] V λr w'=>r=.returned (Iq (al:Nat))/\Bq V w'):=λV hV=>by
  have n0:Bq w0 V:=be.trans (hV.mono hbz);have h5:=zt7 (hF.below n0) (O0.kept (λ_ h=>h) (λb hb=>n0.block b (hF.hS b hb))) ho;rw[eal]at h5;exact h5
 have I0:Hid (∀V wv' lvs',Ya w0 V Xb T B Fb wv' acc lvs'->Cq 151 #[Pq Xb,x] V (Vk (λ_=>False) w0 V Xb T B Fb wv' acc lvs' (Fl.bP p vs acc e.a))):=λV wv' lvs' hV=>zrv hV hF h5 ho.2.2.1 hv (by omega);obtain⟨ra,F0⟩:=nmE (Fl.bP p vs acc e.a)
 have v1:ra.2.length<=acc.length+1/\0<=ra.1/\ra.1<=acc.length:=by rw[F0];unfold Fl.bP;exact(zj3 _ _).2
 have J0:Hid (∀V wv' lvs',Ya w0 V Xb T B Fb wv' ra.2 lvs'->Cq 151 #[Pq Xb,y] V (Vk (λ_=>False) w0 V Xb T B Fb wv' ra.2 lvs' (Fl.bP p vs ra.2 e.b))):=λV wv' lvs' hV=>zrv hV hF h6 ho.2.2.2 hv (by omega);obtain⟨rb,h0⟩:=nmE (Fl.bP p vs ra.2 e.b)
 have hlb:rb.2.length<=ra.2.length+1/\0<=rb.1/\rb.1<=ra.2.length:=by rw[h0];unfold Fl.bP;exact(zj3 _ _).2
 obtain⟨nd,j0⟩:=nmE (α:=Fl.ar) (⟨2,(al:Int),e.op,ra.1,rb.1,[]⟩);have o0:Hid (Fl.db p vs acc e=Fl.cO rb.2 nd):=by
  show _=_;unfold Fl.db;rw[if_neg (by omega),<-F0,<-h0,eal,j0]
 have t0:Fl.fits nd:=by
  have h6:=hF.lv.lv.n6;have C1:=ho.2.1
  have hR:∀z:Int,0<=z->z<=999999999->Fl.cq z=true:=λz h1 h2=>by simp only[Fl.cq,Bool.and_eq_true,decide_eq_true_eq];omega
  rw[j0];exact⟨hR _ (by show (0:Int)<=2;decide) (by show (2:Int)<=_;decide),hR _ (by show (0:Int)<=(al:Int);omega) (by show (al:Int)<=_;omega),hR _ (by show (0:Int)<=e.op;omega) (by show e.op<=_;omega),hR _ (by show (0:Int)<=ra.1;omega) (by show ra.1<=_;omega),hR _ (by show (0:Int)<=rb.1;omega) (by show rb.1<=_;omega),by simp,by simp⟩
 have K0:Hid (∀V wv' lvs',Ya w0 V Xb T B Fb wv' rb.2 lvs'->Cq 122 #[Pq Xb,.agg #[Iq 2,Iq al,Iq e.op,Iq ra.1,Iq rb.1,Zq]] V (Vk (λp=>p.2=[]) w0 V Xb T B Fb wv' rb.2 lvs' (Fl.cO rb.2 nd))):=λV wv' lvs' hV=>by
  have h5:=zu3 (lvn:=Zq) hV t0 (by rw[j0];exact⟨none,0,rfl,by simp,by simp[maxLen],λhh=>absurd rfl hh⟩) (λhh=>by rw[j0]at hh;exact absurd rfl hh) (by omega);unfold ndV at h5;rw[j0]at h5⊢;refine h5.mono ?_;rintro e W ⟨h6,wv',lvs',h7,h8,h9⟩;refine⟨h6,wv',lvs',h7,h8,λp hp=>?_⟩;rcases h9 p hp with h1|h1|h1|h1
  ·exact .inl h1
  ·exact .inr (.inl (by rw[h1]))
  ·exact .inr (.inr (.inl h1))
  exact .inr (.inr (.inr h1))
 rw[o0.out];generalize Fl.cO rb.2 nd=aV at*;rw[<-F0]at I0;rw[<-h0]at J0;obtain⟨av,Q0⟩:=nmE (e.op);rw[<-Q0]at HS K0;obtain⟨na,ac1⟩:=ra;obtain⟨nb2,ac2⟩:=rb;simp only at J0 K0 I0;have HW:=Zz h;clear O0 hc h5 h6 eal F0 h0 j0 t0 o0 Q0 ho v1 hlb h1 u1;unfold ptr
 go_enter func151,ntmps151
 go_wp2_with fail
 go_cut [5] (λq wc=>∃nb,q=Pq nb/\Bq w wc/\nb<wc.heap.size/\w.heap.size<=nb/\wc.heap[nb]?=some (.cells #[Iq 2,Iq al,Iq av,Iq 0,Iq 0,Zq] 176 (0,0)))
 case first=>
  refine zqy (λV=>Bq w V/\V.cell? (Aq vb 0)=some (Iq 2)/\V.cell? (Aq vb 1)=some (Iq av)/\V.cell? (Aq Xb 0)=some (Pq Fb)) [(0,0),(0,1),(0,2),(0,3),(0,4),(0,5),(0,6),(0,7),(0,8),(0,10),(0,11),(0,12),(0,13)] 9 15 [(0,14),(1,15),(1,16)] [(1,9),(0,14),(1,16)] (by kernel_rfl) (by kernel_rfl) rfl rfl [(_,_),(_,_),(_,_),(_,_),(_,_),(_,_),(_,_),(_,_),(_,_),(_,_),(_,_),(_,_),(_,_)] [(_,_),(_,_),(_,_)] [(_,_),(_,_),(_,_)] _ _ rfl rfl rfl rfl rfl (λc a d v w h=>by cases d<;>exact h) ⟨dA,HS _ dA⟩ (λops=>?_);simp only[List.getElem_toArray,List.getElem_cons_succ,List.getElem_cons_zero]
  iterate 13 refine Yq rfl (kE (by rintro _ ⟨_,_,_,_⟩;go_simp<;>rfl) (by go_simp<;>rfl) ?_)
  refine Xe ⟨⟨dA,HS _ dA⟩,?_,?_⟩
  ·unfold zpv
   go_wp2_with fail
   refine(P0 _ dA).mono ?_;rintro e1 W1 ⟨rfl,i0⟩;have a0:Hid (Bq w W1):=dA.trans i0;clear i0
   go_wp2_with fail
   refine⟨⟨a0,HS _ a0⟩,?_⟩;refine Yq rfl (kE (by rintro _ ⟨_,_,_,_⟩;go_simp<;>rfl) (by go_simp<;>rfl) ?_);refine Ve ?_
   go_wp2_with fail
   refine⟨⟨a0.alloc a0.size _,HS _ (a0.alloc a0.size _)⟩,?_⟩;refine Ve ?_
   go_wp2_with fail
   refine⟨⟨a0.alloc a0.size _,HS _ (a0.alloc a0.size _)⟩,?_⟩;refine Xe ⟨⟨a0.alloc a0.size _,HS _ (a0.alloc a0.size _)⟩,?_⟩;rename_i b0;refine b0 _ _ ?_
   go_meet
   case rel=>exact⟨_,rfl,a0.alloc a0.size _,by simp,a0.size,heap_alloc_last _ _⟩
  unfold zpv;obtain⟨W0,u0⟩:=nmE ((w.alloc (.cells #[Iq 0,Iq 0,Iq 0,Iq 0,Iq 0,Zq] 176)).drew);have k0:Hid (Bq w W0):=(by show Below _ _ _;rw[u0];exact bA.drew);have R0:Hid (W0.heap[w.heap.size]?=some (.cells #[Iq 0,Iq 0,Iq 0,Iq 0,Iq 0,Zq] 176 (0,0))):=(by show _=_;rw[u0];exact heap_alloc_last w _);have S0:w.heap.size<W0.heap.size:=(by rw[u0];simp)
  go_wp2_with fail
  rw[<-u0];clear u0;refine⟨⟨k0,HS _ k0⟩,?_⟩;refine Ve ?_
  go_wp2_with fail
  refine(P0 _ k0).mono ?_;rintro e1 W1 ⟨rfl,i0⟩;have a0:Hid (Bq w W1):=k0.trans (i0.mono k0.size);have G0:Hid (W1.heap[w.heap.size]?=some (.cells #[Iq 0,Iq 0,Iq 0,Iq 0,Iq 0,Zq] 176 (0,0))):=(i0.block _ S0).trans R0.out;have T0:w.heap.size<W1.heap.size:=Qj S0 i0.size;clear i0 R0 k0
  go_wp2_with fail
  refine⟨⟨a0,HS _ a0⟩,?_⟩;refine Yq rfl (kE (by rintro _ ⟨_,_,_,_⟩;go_simp<;>rfl) (by go_simp<;>rfl) ?_);refine Ve ?_;refine Xn rfl (.tmp 5) (.tmp 20) 176 rfl w.heap.size rfl _ #[Iq 2,Iq al,Iq av,Iq 0,Iq 0,Zq] rfl 176 G0.out Tryz.infoNode6 rfl (by simp[Value.oneCell']) ?_;have e0:=setRow_heap W1 w.heap.size _ #[Iq 2,Iq al,Iq av,Iq 0,Iq 0,Zq] _ _ G0.out;have h0:=below_setRow a0 (Nat.le_refl _) #[Iq 2,Iq al,Iq av,Iq 0,Iq 0,Zq];generalize W1.setRow w.heap.size #[Iq 2,Iq al,Iq av,Iq 0,Iq 0,Zq]=W2 at*;have l0:=Zz e0;have v0:=Zz h0;have x1:w.heap.size<W2.heap.size:=by
   rcases Nat.lt_or_ge w.heap.size W2.heap.size with h|h
   ·exact h
   rw[Array.getElem?_eq_none h]at e0;cases e0
  clear e0 h0
  go_wp2_with fail
  refine⟨⟨v0,HS _ v0⟩,?_⟩;refine Xe ⟨⟨v0,HS _ v0⟩,?_⟩;rename_i b0;refine b0 _ _ ?_
  go_meet
  case rel=>exact⟨_,rfl,v0,x1,Nat.le_refl _,l0⟩
 case rest=>
  obtain⟨nb,rfl,H0,U0,V0,X0⟩:=hcut;obtain⟨s0,s1,s2⟩:=HS _ H0;have Y0:=Zz H0;have L0:Hid (Ya w0 wc.drew Xb T B Fb wv acc lvs):=HW.below H0.drew;have Z0:=Zz X0;have y0:∀c,wv.ownBlock=some c->c<w.heap.size:=λc hc=>(HW.ow.lt c hc).2
  have a1:Hid (some nb≠wv.ownBlock):=λhh=>by have:=y0 nb hh.symm;omega
  clear X0 H0 y0
  go_wp2_with fail
  refine Yj E0 L0.be [(0,0),(0,1),(0,2),(0,3),(0,4),(0,6),(0,7),(0,8),(0,9),(0,10),(1,5),(0,12),(1,11),(1,13),(0,14),(2,15)] [15] [] (by kernel_rfl) (λc a d v w h=>by cases d<;>exact h) (λops _=>?_)
  iterate 10 refine Zw rfl (by rintro _ ⟨_,_⟩;go_simp<;>rfl) (by go_simp<;>rfl) ?_
  refine Zt ?_
  go_wp2_with fail
  refine(I0 _ _ _ L0).mono ?_;rintro e1 W1 ⟨rfl,wv1,lvs1,b1,z0,A0⟩;have y1:=Zz A0;have c1:=Zz b1;have d0:Hid (Xz wc W1 Xb B wv wv1):=(Xz.cW dA).trans z0
  have d1:Hid (some nb≠wv1.ownBlock):=λhh=>by
   rcases d0.ow with e|⟨g,e,hg⟩
   ·exact a1 (hh.trans e)
   rw[e]at hh;injection hh with hh;omega
  have f1:nb≠Xb:=(by omega);have g1:nb≠B:=(by have:=HW.x0;omega);have G0:Hid (W1.heap[nb]?=some (.cells #[Iq 2,Iq al,Iq av,Iq 0,Iq 0,Zq] 176 (0,0))):=(d0.bl nb U0 f1 g1 a1).trans Z0.out;have T0:nb<W1.heap.size:=Qj U0 d0.sz;clear b1 z0 A0 Z0 L0
  go_wp2_with fail
  refine⟨E0 _ c1.be,?_⟩;refine Zw rfl (by rintro _ ⟨_,_⟩;go_simp<;>rfl) (by go_simp<;>rfl) ?_;refine Zt ?_
  go_wp2_with fail
  refine(J0 _ _ _ c1).mono ?_;rintro e2 W2 ⟨rfl,wv2,lvs2,i1,f0,B0⟩;have z1:Hid (Jh (λ_=>False) wc acc lvs ac2 lvs2):=y1.trans d0.sz B0;have j1:=Zz i1;have M0:Hid (Xz w W2 Xb B wv wv2):=((Xz.cW Y0).trans d0).trans f0
  have k1:Hid (some nb≠wv2.ownBlock):=λhh=>by
   rcases f0.ow with e|⟨g,e,hg⟩
   ·exact d1 (hh.trans e)
   rw[e]at hh;injection hh with hh;omega
  have l0:Hid (W2.heap[nb]?=some (.cells #[Iq 2,Iq al,Iq av,Iq 0,Iq 0,Zq] 176 (0,0))):=(f0.bl nb T0 f1 g1 d1).trans G0.out
  have q:∀j u,(#[Value.int .i64 2,Iq al,Iq av,Iq 0,Iq 0,Zq]:Array Value)[j]?=some u->W2.cell? (Aq nb j)=some u:=λj u hj=>by simp only[World.cell?,l0.out];exact hj
  have fq:∀j,W2.frozen? (Aq nb j)=false:=λj=>by simp[World.frozen?,l0.out]
  have q0:=q 0 _ rfl;have q1:=q 1 _ rfl;have q2:=q 2 _ rfl;have q3:=q 3 _ rfl;have q4:=q 4 _ rfl;have q5:=q 5 _ rfl;have f3:=fq 3;obtain⟨W3,g0⟩:=nmE (W2.setCell (Aq nb 3) (Iq na));have l1:Hid (Ya w0 W3 Xb T B Fb wv2 ac2 lvs2):=(by show Ya _ _ _ _ _ _ _ _ _;rw[g0];exact j1.mN (by omega) l0 k1 3 _)
  have qo:∀j,j≠3->W3.cell? (Aq nb j)=W2.cell? (Aq nb j):=λj hj=>by rw[g0];exact Qg _ _ _ _ (by intro hh;injection hh with _ h5;omega)
  have r3:W3.cell? (Aq nb 3)=some (Iq na):=(by rw[g0];exact World.cell?_setCell_same' _ _ _ (by rw[q3];rfl));have r0:=(qo 0 (by decide)).trans q0;have r1:=(qo 1 (by decide)).trans q1;have r2:=(qo 2 (by decide)).trans q2;have r4:=(qo 4 (by decide)).trans q4;have r5:=(qo 5 (by decide)).trans q5;have f4:W3.frozen? (Aq nb 4)=false:=(by rw[g0,World.frozen?_setCell];exact fq 4);have N0:Hid (Xz w W3 Xb B wv wv2):=(by show Xz _ _ _ _ _ _;rw[g0];exact M0.set V0 3 _);have m1:Hid (∃cs,W3.heap[nb]?=some (.cells cs 176 (0,0))):=(by rw[g0];exact yy4 l0 3 _);have n1:=Zz g0;obtain⟨W4,m0⟩:=nmE (W3.setCell (Aq nb 4) (Iq nb2));have A1:Hid (Ya w0 W4 Xb T B Fb wv2 ac2 lvs2):=by
   obtain⟨cs,B1⟩:=m1.out;show Ya _ _ _ _ _ _ _ _ _;rw[m0];exact l1.mN (by omega) B1 k1 4 _
  have po:∀j,j≠4->W4.cell? (Aq nb j)=W3.cell? (Aq nb j):=λj hj=>by rw[m0];exact Qg _ _ _ _ (by intro hh;injection hh with _ h5;omega)
  have p4:W4.cell? (Aq nb 4)=some (Iq nb2):=(by rw[m0];exact World.cell?_setCell_same' _ _ _ (by rw[r4];rfl));have p0:=(po 0 (by decide)).trans r0;have p1:=(po 1 (by decide)).trans r1;have p2:=(po 2 (by decide)).trans r2;have p3:=(po 3 (by decide)).trans r3;have p5:=(po 5 (by decide)).trans r5;have C0:Hid (Xz w W4 Xb B wv wv2):=(by show Xz _ _ _ _ _ _;rw[m0];exact N0.set V0 4 _);have o1:=Zz m0;clear q fq i1 f0 B0 q0 q1 q2 q4 q5 qo g0 m0 po r0 r1 r2 r3 r5 m1
  go_wp2_with fail
  refine⟨E0 _ j1.be,?_⟩;refine Zt ?_
  go_wp2_with fail
  rw[<-n1.out];clear n1 q3 f3;refine⟨E0 _ l1.be,?_⟩;refine Zw rfl (by rintro _ ⟨_,_⟩;go_simp<;>rfl) (by go_simp<;>rfl) ?_;refine Xp ?_
  go_wp2_with fail
  rw[<-o1.out];clear o1 r4 f4;refine Zu ?_
  go_wp2_with fail
  refine(K0 _ _ _ A1).mono ?_;rintro e3 W5 ⟨rfl,wv5,lvs5,h1,h2,h3⟩
  have HE:Hid (Vk (λ_=>False) w0 w Xb T B Fb wv acc lvs aV (.returned (Iq aV.1)) W5):=⟨rfl,wv5,lvs5,h1,C0.trans h2,λp hp=>by
   rcases h3 p hp with h|h|h|h
   ·rcases z1 p h with h|h|h|h
    ·exact .inl h
    ·exact h.elim
    ·exact .inr (.inr (.inl h))
    exact .inr (.inr (.inr λb hb=>Nat.le_trans Y0.size (h b hb)))
   ·exact .inr (.inr (.inl h))
   ·exact .inr (.inr (.inl h))
   exact .inr (.inr (.inr λb hb=>Nat.le_trans C0.sz (h b hb)))⟩
  clear h1 h2 h3;go_wp2;go_ret;exact HE
end
end Go.Proofs.YtfhpibppblbgcaaGreatDoor
