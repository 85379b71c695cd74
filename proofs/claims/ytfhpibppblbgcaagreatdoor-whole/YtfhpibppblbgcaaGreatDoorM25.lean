import Derived.Test.YtfhpibppblbgcaaGreatDoorM24
import Derived.Deep.MidRow
set_option linter.all false
set_option maxRecDepth 100000
set_option maxHeartbeats 40000000
namespace Go.Proofs.YtfhpibppblbgcaaGreatDoor
open Go.RowKit Go.Proofs.Tryz
variable{lo base Rb Pb t n i j g cap k:Nat}{w0 w w' W:World}{r:Fl.RS}{e:TypeId}{xs z cs:List Value}{x:Value}{f:Fl.aB}{fs:List Fl.aB}
section
variable{m:Yl}{fl:List FlS}
def Zg.mC(h:Zg r fl t m)(x:List UInt8)(y:Nat)(v v':Value)(hx:x.length<=100000)(hl:r.cells.length<6):Zg {r with cells:=r.cells++[x],aZ:=r.aZ++[y]} fl (t+1) ((m.app 2 v [strV x]).app 12 v' [Iq (y:Int)]):=
 {
  r1:=h.r1,r2:=⟨by show m.n 2+1=_;rw[h.r2.1];simp,by show m.xs 2++_=_;rw[h.r2.2];simp⟩,r3:=h.r3,r4:=h.r4,r5:=h.r5,r6:=h.r6,r8:=h.r8,fO:=h.fO,iQ:=⟨by show m.n 12+1=_;rw[h.iQ.1];simp,by show m.xs 12++_=_;rw[h.iQ.2];simp[Yi]⟩,iI:=h.iI,bg:=h.bg,st:=h.st,nm:=λy hy=>by
   simp only[List.mem_append,List.mem_singleton]at hy;rcases hy with h1|(h1|rfl)|h1|h1
   ·exact h.nm y (by simp[h1])
   ·exact h.nm y (by simp[h1])
   ·exact hx
   ·exact h.nm y (by simp[h1])
   exact h.nm y (by simp[h1])
  lv:=h.lv,ce:=by simp;omega,ch:=h.ch,lo:=h.lo,sm:=h.sm,fr:=h.fr,lw:=by have:=h.lw;show r.aM.length<=_;omega,ft:=by have:=h.ft;omega,pr:=h.pr,bw:=h.bw,cl:=by have:=h.cl;simp;omega,hl:=h.hl,lt:=h.lt}
def yk9(h:Zs lo base Rb Pb w0 w m)(hr:Zg r fl t m)(b off cap:Nat)(n l:List UInt8)(l1:n.length<=100000)(hb:b<w.heap.size)(Z0:b≠Rb/\∀j,Zr j->(m.v j).ownBlock≠some b)(m1:3<=cap/\cap<=maxLen)(c0:w.cell? (Aq b off)=some (.string ⟨#[99,101,108,108]⟩))(c1:w.cell? (Aq b (off+1))=some (.string ⟨n.toArray⟩))(c2:w.cell? (Aq b (off+2))=some (.string ⟨l.toArray⟩)):
  Cq 18 #[Pq Rb,.slice (some (Aq b off)) 3 cap] w (Yk lo base Rb Pb w0 fl t (r.head [Fl.cN,n,l])):=by
 have bL:=h.bL
 have B0:Rb<w.heap.size:=by omega
 have C1:Pb<w.heap.size:=by omega
 have HH:Hid (Zs lo base Rb Pb w0 w m):=h;have HO:Hid (Zg r fl t m):=hr;have K0:Hid (∀W,Bq w W->Cq 17 #[m.v 1,.string ⟨l.toArray⟩] W λe w'=>e=.returned (Iq (Fl.ai r.au l))/\w'=W):=λW hW=>Yc ((h.below hW).au hr) l;have L0:Hid (∀W,Bq w W->Cq 17 #[m.v 2,.string ⟨n.toArray⟩] W λe w'=>e=.returned (Iq (Fl.ai r.cells n))/\w'=W):=λW hW=>Yc ((h.below hW).cells hr) n;have M0:Hid (∀W,Bq w W->Cq 17 #[m.v 3,.string ⟨n.toArray⟩] W λe w'=>e=.returned (Iq (Fl.ai r.aj n))/\w'=W):=λW hW=>Yc ((h.below hW).aj hr) n;obtain⟨d1,k1,C0⟩:=h.shape 1 (by unfold Zr;omega);rw[hr.r1.1]at C0;obtain⟨d2,k2,j0⟩:=h.shape 2 (by unfold Zr;omega);rw[hr.r2.1]at j0;obtain⟨d3,k3,D0⟩:=h.shape 3 (by unfold Zr;omega);rw[hr.r3.1]at D0;obtain⟨dl,kl,N0⟩:=h.shape 12 (by unfold Zr;omega);rw[hr.iQ.1]at N0;rw[C0]at K0;rw[j0]at L0;rw[D0]at M0;have O0:Hid (m.v 2=.slice d2 r.cells.length k2):=j0;have P0:Hid (m.v 12=.slice dl r.aZ.length kl):=N0;have k0:Hid (∀W,Bq w W->Cl W Rb 1 (.slice d1 r.au.length k1)/\Cl W Rb 2 (.slice d2 r.cells.length k2)/\Cl W Rb 3 (.slice d3 r.aj.length k3)/\Cl W b (off+1) (.string ⟨n.toArray⟩)/\Cl W b (off+2) (.string ⟨l.toArray⟩)):=λW hW=>⟨(hW.cell (p:=(Aq Rb 1)) B0).trans (by rw[<-C0];exact h.cR.c 1 (by omega)),(hW.cell (p:=(Aq Rb 2)) B0).trans (by rw[<-j0];exact h.cR.c 2 (by omega)),(hW.cell (p:=(Aq Rb 3)) B0).trans (by rw[<-D0];exact h.cR.c 3 (by omega)),(hW.cell (p:=(Aq b (off+1))) hb).trans c1,(hW.cell (p:=(Aq b (off+2))) hb).trans c2⟩
 have a1:Hid (∀W,Bq w W->W.ownsRow base 9 1 (.slice d2 r.cells.length k2) r.cells.length (r.cells.map strV)):=λW hW=>by
  have h1:=(h.below hW).own 2 (by unfold Zr;omega);rw[hr.r2.1,hr.r2.2,j0]at h1;exact h1
 have a0:Hid (r.head [Fl.cN,n,l]=if Fl.ai r.au l<0\/0<=Fl.ai r.cells n\/0<=Fl.ai r.aj n then(4,r) else if r.cells.length=6 then(5,r) else(0,{r with cells:=r.cells++[n],aZ:=r.aZ++[(Fl.ai r.au l).toNat]})):=by show _=_;simp[Fl.RS.head,Fl.cN,Fl.bM,Fl.bu]
 obtain⟨aV,n0⟩:=nmE (r.head [Fl.cN,n,l]);rw[<-n0]at a0⊢;have n1:=Fl.aR r.au l;have o1:=Fl.aR r.cells n;have p1:=Fl.aR r.aj n;have D1:=hr.lv;have E1:=hr.ce;have F1:=hr.ch
 have bj:r.aZ.length<=6:=by have:=hr.cl;have:=hr.hl;omega
 generalize Fl.ai r.au l=pa at*;generalize Fl.ai r.cells n=pb at*;generalize Fl.ai r.aj n=pe at*
 have b1:(3:Int)<=(cap:Int):=by omega
 have q1: -1<=pa/\pa<=6:=by omega
 have s1: -1<=pb/\pb<=6:=by omega
 have t1: -1<=pe/\pe<=6:=by omega
 have u1:(r.au.length:Int)<=6:=by omega
 have v1:(r.cells.length:Int)<=6:=by omega
 have A1:(r.aj.length:Int)<=3:=by omega
 have i1:Hid ((Value.slice d2 r.cells.length k2).ownBlock≠some b):=by rw[<-j0];exact Z0.2 2 (by unfold Zr;omega)
 clear h hr n0 C0 j0 D0 N0 c1 c2 Z0 n1 o1 p1
 go_enter func18,ntmps18
 go_wp2_with fail
 refine Zi (λW=>Bq w W) [7] [] [] dA (by kernel_rfl) (λc a d v w h=>by cases d<;>exact h) (λops hG=>?_);clear hG
 iterate 7 refine Xf rfl (kE (by intro w' hw';obtain⟨x1,x2,x3,x4,x5⟩:=k0 w' hw';clear hw';go_simp<;>rfl) (by go_simp<;>rfl) ?_)
 refine Zt ?_
 go_wp2_with fail
 refine(K0 _ dA).mono ?_;rintro e w1 ⟨rfl,h0⟩;rw[h0];clear h0 w1
 go_wp2_with fail
 refine⟨dA,?_⟩;refine Zw rfl (by rintro _ -;go_simp<;>rfl) (by go_simp<;>rfl) ?_;refine Zu ?_
 go_wp2_with fail
 refine Zi (λW=>Bq w W) [7] [] [] dA.drew (by kernel_rfl) (λc a d v w h=>by cases d<;>exact h) (λops hG=>?_);clear hG
 iterate 7 refine Xf rfl (kE (by intro w' hw';obtain⟨x1,x2,x3,x4,x5⟩:=k0 w' hw';clear hw';go_simp<;>rfl) (by go_simp<;>rfl) ?_)
 refine Zt ?_
 go_wp2_with fail
 refine(L0 _ dA.drew).mono ?_;rintro e w1 ⟨rfl,h0⟩;rw[h0];clear h0 w1
 go_wp2_with fail
 refine⟨dA.drew,?_⟩;refine Zw rfl (by rintro _ -;go_simp<;>rfl) (by go_simp<;>rfl) ?_;refine Zu ?_
 go_wp2_with fail
 refine Zi (λW=>Bq w W) [7] [] [] dA.drew.drew (by kernel_rfl) (λc a d v w h=>by cases d<;>exact h) (λops hG=>?_);clear hG
 iterate 7 refine Xf rfl (kE (by intro w' hw';obtain⟨x1,x2,x3,x4,x5⟩:=k0 w' hw';clear hw';go_simp<;>rfl) (by go_simp<;>rfl) ?_)
 refine Zt ?_
 go_wp2_with fail
 refine(M0 _ dA.drew.drew).mono ?_;rintro e w1 ⟨rfl,h0⟩;rw[h0];clear h0 w1
 go_wp2_with fail
 refine⟨dA.drew.drew,?_⟩;refine Zw rfl (by rintro _ -;go_simp<;>rfl) (by go_simp<;>rfl) ?_;refine Zu ?_;have z0:Cl w b off (.string ⟨#[99,101,108,108]⟩):=c0;have E0:Hid (pa<0\/0<=pb\/0<=pe->Yk lo base Rb Pb w0 fl t aV (.returned (Iq 4)) w.drew.drew.drew):=by
  show _->Yk _ _ _ _ _ _ _ _ _ _;intro hh;rw[a0.out,if_pos hh];exact⟨rfl,λh=>(by cases h),λ_=>HH.drew.drew.drew.bel⟩
 by_cases hp:pa<0
 ·go_wp2
  go_ret;exact E0 (.inl hp)
 have G1:0<=pa:=by omega
 clear hp
 by_cases hq:0<=pb
 ·go_wp2
  go_ret;exact E0 (.inr (.inl hq))
 have H1:pb<0:=by omega
 clear hq
 by_cases hq:0<=pe
 ·go_wp2
  go_ret;exact E0 (.inr (.inr hq))
 have I1:pe<0:=by omega
 clear hq E0;obtain⟨x1,x2,x3,x4,x5⟩:=k0 w.drew.drew.drew dA.drew.drew
 by_cases h6:r.cells.length=6
 ·have b6:((r.cells.length:Int)==6)=true:=by simp[h6]
  have HE:Hid (Yk lo base Rb Pb w0 fl t aV (.returned (Iq 5)) w.drew.drew.drew):=by
   show Yk _ _ _ _ _ _ _ _ _ _;rw[a0.out,if_neg (by omega),if_pos h6];exact⟨rfl,λh=>(by cases h),λ_=>HH.drew.drew.drew.bel⟩
  clear h6;go_wp2;go_ret;exact HE
 have b6:((r.cells.length:Int)==6)=false:=by simp;omega
 have HR:Hid (aV=(0,{r with cells:=r.cells++[n],aZ:=r.aZ++[pa.toNat]})):=by show _=_;rw[a0.out,if_neg (by omega),if_neg h6]
 have B1:r.cells.length<6:=by omega
 clear h6 K0 L0 M0 a0
 go_wp2_with fail
 refine Zi (λW=>Cl W Rb 2 (.slice d2 r.cells.length k2)/\Cl W b (off+1) (.string ⟨n.toArray⟩)) [8,9,10] [12] [] ⟨x2,x4⟩ (by kernel_rfl) (λc a d v w h=>by cases d<;>exact h) (λops hG=>?_);clear hG
 iterate 8 refine Zw rfl (by rintro _ ⟨z0,z1⟩;go_simp<;>rfl) (by go_simp<;>rfl) ?_
 refine Zt ?_
 go_wp2_with fail
 obtain⟨W3,o0⟩:=nmE ((w.alloc (.cells #[.string ⟨n.toArray⟩] 9)).drew.drew.drew.drew);obtain⟨tb,Q0⟩:=nmE (w.heap.size)
 have p0:Bq w W3:=by rw[o0];exact(bA).drew.drew.drew.drew
 have J1:w.heap.size+1=W3.heap.size:=by rw[o0];simp
 have t0:∀i u,([.string ⟨n.toArray⟩]:List Value)[i]?=some u->W3.cell? (((Aq tb 0):Addr).add i)=some u:=by rw[o0,Q0];exact Xv
 have e0:W3.cell? (Aq Rb 2)=some (.slice d2 r.cells.length k2):=by have:=k0 W3 p0;exact this.2.1
 have e1:Cl W3 b (off+1) (.string ⟨n.toArray⟩):=(k0 W3 p0).2.2.2.1;have R0:Hid (W3.ownsRow base 9 1 (.slice d2 r.cells.length k2) r.cells.length (r.cells.map strV)):=a1 W3 p0;have S0:Hid (Bq w W3):=p0;rw[<-o0,<-Q0];clear o0 Q0 p0 x1 x2 x3 x4 x5 a1 k0;refine⟨⟨e0,e1⟩,?_⟩;refine Zt ?_;obtain⟨i0,F0,G0,H0,I0⟩:=info_parts Tryz.infoStr
 go_wp2_with (at_builtin;refine Zj _ rfl (.tmp 149) (.tmp 153) 32 rfl base 9 i0 (.string ⟨#[]⟩) 1 16 underlying32 F0 G0 H0 I0 rfl (by decide) _ _ _ rfl R0 (Aq tb 0) 1 1 [.string ⟨n.toArray⟩] rfl rfl (by decide) t0 ?c2 ?c3 ?c4 ?c5 ?_)
 case c2=>intro u hu;simp at hu;subst hu;rfl
 case c3=>unfold maxLen;omega
 case c4=>omega
 case c5=>omega
 intro v' W4 b0 q0 r0;obtain⟨va,vcap,rfl⟩:∃va vcap,v'=.slice va (r.cells.length+1) vcap:=by
  rcases b0.2 with⟨h1,h2⟩|⟨g,cp,cur,h1,_⟩
  ·omega
  exact⟨_,cp,h1⟩
 have s0:∀k,(Value.slice d2 r.cells.length k2).ownBlock=some k->base<=k/\k<w.heap.size+1:=λk hk=>by have:=R0.lt k hk;omega
 have m0:W4.heap[Rb]?=W3.heap[Rb]?:=q0.block Rb (by omega) (λhh=>by have:=(s0 Rb hh.symm).1;omega);have j1:W4.heap[b]?=W3.heap[b]?:=q0.block b (by omega) (λhh=>i1 hh.symm);have g0:Cl W4 Rb 2 (.slice d2 r.cells.length k2):=(Qc (a:=(Aq Rb 2)) m0).trans e0;have g1:Cl W4 b (off+1) (.string ⟨n.toArray⟩):=(Qc (a:=(Aq b (off+1))) j1).trans e1;have gz:W4.frozen? (Aq Rb 2)=false:=(Qd (a:=(Aq Rb 2)) m0).trans ((S0.frozen (p:=(Aq Rb 2)) B0).trans (HH.cR.z 2))
 have K1:w.heap.size+1<=W4.heap.size:=by have:=q0.size;omega
 have H5:Hid (Zs lo base Rb Pb w0 (W4.setCell (Aq Rb 2) (.slice va (r.cells.length+1) vcap)) (m.app 2 (.slice va (r.cells.length+1) vcap) [strV n])):=by
  refine HH.jL 2 (by unfold Zr;omega) (by omega) S0 (v':=.slice va (r.cells.length+1) vcap) (news:=[strV n]) ?_ ?_ ?_
  ·rw[HO.r2.1,HO.r2.2];exact b0
  ·rw[O0.out];exact q0
  rw[O0.out];exact r0
 clear b0 q0 r0 m0 j1 e0 e1 t0 R0 S0 s0 O0 HH i1
 go_wp2_with fail
 refine⟨⟨g0,g1⟩,?_⟩;refine Zt ?_
 go_wp2_with fail
 refine⟨⟨g0,g1⟩,?_⟩;refine Zw rfl (by rintro _ ⟨z0,z1⟩;go_simp<;>rfl) (by go_simp<;>rfl) ?_;refine Xp ?_
 go_wp2_with fail
 refine Zu ?_;obtain⟨W5,T0⟩:=nmE (W4.setCell (Aq Rb 2) (.slice va (r.cells.length+1) vcap));rw[<-T0]at H5⊢
 have L1:w.heap.size+1<=W5.heap.size:=by rw[T0,Zy];omega
 clear T0 g0 g1 gz;have y0:Cl W5 Rb 0 (Pq Pb):=H5.cR.c 0 (by omega)
 have y1:W5.cell? (Aq Pb 2)=some (.slice dl r.aZ.length kl):=by rw[<-P0.out];exact H5.cP.c 2 (by omega)
 go_wp2_with fail
 refine Zi (λW=>Cl W Rb 0 (Pq Pb)/\Cl W Pb 2 (.slice dl r.aZ.length kl)) [12,13,14] [16] [] ⟨y0,y1⟩ (by kernel_rfl) (λc a d v w h=>by cases d<;>exact h) (λops hG=>?_);clear hG
 iterate 12 refine Zw rfl (by rintro _ ⟨z0,z1⟩;go_simp<;>rfl) (by go_simp<;>rfl) ?_
 refine Zt ?_
 go_wp2_with fail
 obtain⟨W6,v0⟩:=nmE ((W5.alloc (.cells #[Iq pa] 3)).drew);obtain⟨ub,U0⟩:=nmE (W5.heap.size)
 have x0:Bq W5 W6:=by rw[v0];exact(bA).drew
 have M1:W5.heap.size+1=W6.heap.size:=by rw[v0];simp
 have u0:∀i u,([Iq pa]:List Value)[i]?=some u->W6.cell? (((Aq ub 0):Addr).add i)=some u:=by rw[v0,U0];exact Xv
 have f0:Cl W6 Rb 0 (Pq Pb):=(x0.cell (p:=(Aq Rb 0)) (by show Rb<_;omega)).trans y0;have f1:Cl W6 Pb 2 (.slice dl r.aZ.length kl):=(x0.cell (p:=(Aq Pb 2)) (by show Pb<_;omega)).trans y1;have E2:Hid ((m.app 2 (.slice va (r.cells.length+1) vcap) [strV n]).v 12=.slice dl r.aZ.length kl):=P0.out;have E3:Hid ((m.app 2 (.slice va (r.cells.length+1) vcap) [strV n]).n 12=r.aZ.length):=HO.iQ.1;have E4:Hid ((m.app 2 (.slice va (r.cells.length+1) vcap) [strV n]).xs 12=Yi r.aZ):=HO.iQ.2;have V0:Hid (W6.ownsRow base 3 1 (.slice dl r.aZ.length kl) r.aZ.length (Yi r.aZ)):=by
  have h1:=(H5.below x0).own 12 (by unfold Zr;omega);rw[E2.out,E3.out,E4.out]at h1;exact h1
 have W0:Hid (Bq W5 W6):=x0;rw[<-v0,<-U0];clear v0 U0 x0 y0 y1;refine⟨⟨f0,f1⟩,?_⟩;refine Zt ?_;clear F0 G0 H0 I0 i0;obtain⟨i0,F0,G0,H0,I0⟩:=info_parts Tryz.infoIntP
 go_wp2_with (at_builtin;refine Zj _ rfl (.tmp 167) (.tmp 169) 36 rfl base 3 i0 (Iq 0) 1 8 underlying36 F0 G0 H0 I0 rfl (by decide) _ _ _ rfl V0 (Aq ub 0) 1 1 [Iq pa] rfl rfl (by decide) u0 ?d2 ?d3 ?d4 ?d5 ?_)
 case d2=>intro u hu;simp at hu;subst hu;rfl
 case d3=>unfold maxLen;omega
 case d4=>omega
 case d5=>omega
 intro v7 W7 d0 J0 A0;obtain⟨vb,vcbp,rfl⟩:∃va vcap,v7=.slice va (r.aZ.length+1) vcap:=by
  rcases d0.2 with⟨h1,h2⟩|⟨g,cp,cur,h1,_⟩
  ·omega
  exact⟨_,cp,h1⟩
 have l0:∀k,(Value.slice dl r.aZ.length kl).ownBlock=some k->base<=k:=λk hk=>(V0.lt k hk).1;have m0:W7.heap[Rb]?=W6.heap[Rb]?:=J0.block Rb (by omega) (λhh=>by have:=l0 Rb hh.symm;omega);have X0:W7.heap[Pb]?=W6.heap[Pb]?:=J0.block Pb (by omega) (λhh=>by have:=l0 Pb hh.symm;omega);have g0:Cl W7 Rb 0 (Pq Pb):=(Qc (a:=(Aq Rb 0)) m0).trans f0;have g1:Cl W7 Pb 2 (.slice dl r.aZ.length kl):=(Qc (a:=(Aq Pb 2)) X0).trans f1;have gz:W7.frozen? (Aq Pb 2)=false:=(Qd (a:=(Aq Pb 2)) X0).trans ((W0.frozen (p:=(Aq Pb 2)) (by show Pb<_;omega)).trans (H5.cP.z 2));have Y0:Hid (Yk lo base Rb Pb w0 fl t aV (.returned (Iq 0)) (W7.setCell (Aq Pb 2) (.slice vb (r.aZ.length+1) vcbp))):=by
  show Yk _ _ _ _ _ _ _ _ _ _;rw[HR.out];have ea:(pa.toNat:Int)=pa:=(by omega);refine⟨rfl,λ_=>⟨_,H5.nE 12 (by unfold Zr;omega) (by omega) W0 (v':=.slice vb (r.aZ.length+1) vcbp) (news:=[Iq (pa.toNat:Int)]) ?_ ?_ ?_,HO.mC n pa.toNat _ _ l1 B1⟩,λhh=>absurd rfl hh⟩
  ·rw[ea,E3.out,E4.out];exact d0
  ·rw[E2.out];exact J0
  rw[E2.out];exact A0
 clear d0 J0 A0 m0 X0 f0 f1 u0 V0 W0 l0 P0 H5 HO HR E2 E3 E4
 go_wp2_with fail
 refine⟨⟨g0,g1⟩,?_⟩;refine Zt ?_
 go_wp2_with fail
 refine⟨⟨g0,g1⟩,?_⟩;refine Zw rfl (by rintro _ ⟨z0,z1⟩;go_simp<;>rfl) (by go_simp<;>rfl) ?_;refine Xp ?_
 go_wp2_with fail
 refine Zu ?_;go_wp2;go_ret;exact Y0
end
section
variable{m:Yl}{fl:List FlS}
def Zg.mB(h:Zg r fl t m)(x:List UInt8)(y:Nat)(v v':Value)(hx:x.length<=100000)(hl:r.aj.length<3):Zg {r with aj:=r.aj++[x],aY:=r.aY++[y]} fl (t+1) ((m.app 3 v [strV x]).app 13 v' [Iq (y:Int)]):=
 {
  r1:=h.r1,r2:=h.r2,r3:=⟨by show m.n 3+1=_;rw[h.r3.1];simp,by show m.xs 3++_=_;rw[h.r3.2];simp⟩,r4:=h.r4,r5:=h.r5,r6:=h.r6,r8:=h.r8,fO:=h.fO,iQ:=h.iQ,iI:=⟨by show m.n 13+1=_;rw[h.iI.1];simp,by show m.xs 13++_=_;rw[h.iI.2];simp[Yi]⟩,bg:=h.bg,st:=h.st,nm:=λy hy=>by
   simp only[List.mem_append,List.mem_singleton]at hy;rcases hy with h1|h1|(h1|rfl)|h1
   ·exact h.nm y (by simp[h1])
   ·exact h.nm y (by simp[h1])
   ·exact h.nm y (by simp[h1])
   ·exact hx
   exact h.nm y (by simp[h1])
  lv:=h.lv,ce:=h.ce,ch:=by simp;omega,lo:=h.lo,sm:=h.sm,fr:=h.fr,lw:=by have:=h.lw;show r.aM.length<=_;omega,ft:=by have:=h.ft;omega,pr:=h.pr,bw:=h.bw,cl:=h.cl,hl:=by have:=h.hl;simp;omega,lt:=h.lt}
def ywz(h:Zs lo base Rb Pb w0 w m)(hr:Zg r fl t m)(b off cap:Nat)(n l:List UInt8)(l1:n.length<=100000)(hb:b<w.heap.size)(Z0:b≠Rb/\∀j,Zr j->(m.v j).ownBlock≠some b)(m1:3<=cap/\cap<=maxLen)(c0:w.cell? (Aq b off)=some (.string ⟨#[99,104,97,110,110,101,108]⟩))(c1:w.cell? (Aq b (off+1))=some (.string ⟨n.toArray⟩))(c2:w.cell? (Aq b (off+2))=some (.string ⟨l.toArray⟩)):
  Cq 18 #[Pq Rb,.slice (some (Aq b off)) 3 cap] w (Yk lo base Rb Pb w0 fl t (r.head [Fl.bu,n,l])):=by
 have bL:=h.bL
 have B0:Rb<w.heap.size:=by omega
 have C1:Pb<w.heap.size:=by omega
 have HH:Hid (Zs lo base Rb Pb w0 w m):=h;have HO:Hid (Zg r fl t m):=hr;have K0:Hid (∀W,Bq w W->Cq 17 #[m.v 1,.string ⟨l.toArray⟩] W λe w'=>e=.returned (Iq (Fl.ai r.au l))/\w'=W):=λW hW=>Yc ((h.below hW).au hr) l;have L0:Hid (∀W,Bq w W->Cq 17 #[m.v 2,.string ⟨n.toArray⟩] W λe w'=>e=.returned (Iq (Fl.ai r.cells n))/\w'=W):=λW hW=>Yc ((h.below hW).cells hr) n;have M0:Hid (∀W,Bq w W->Cq 17 #[m.v 3,.string ⟨n.toArray⟩] W λe w'=>e=.returned (Iq (Fl.ai r.aj n))/\w'=W):=λW hW=>Yc ((h.below hW).aj hr) n;obtain⟨d1,k1,C0⟩:=h.shape 1 (by unfold Zr;omega);rw[hr.r1.1]at C0;obtain⟨d2,k2,D0⟩:=h.shape 2 (by unfold Zr;omega);rw[hr.r2.1]at D0;obtain⟨d3,k3,j0⟩:=h.shape 3 (by unfold Zr;omega);rw[hr.r3.1]at j0;obtain⟨dl,kl,N0⟩:=h.shape 13 (by unfold Zr;omega);rw[hr.iI.1]at N0;rw[C0]at K0;rw[D0]at L0;rw[j0]at M0;have O0:Hid (m.v 3=.slice d3 r.aj.length k3):=j0;have P0:Hid (m.v 13=.slice dl r.aY.length kl):=N0;have k0:Hid (∀W,Bq w W->Cl W Rb 1 (.slice d1 r.au.length k1)/\Cl W Rb 2 (.slice d2 r.cells.length k2)/\Cl W Rb 3 (.slice d3 r.aj.length k3)/\Cl W b (off+1) (.string ⟨n.toArray⟩)/\Cl W b (off+2) (.string ⟨l.toArray⟩)):=λW hW=>⟨(hW.cell (p:=(Aq Rb 1)) B0).trans (by rw[<-C0];exact h.cR.c 1 (by omega)),(hW.cell (p:=(Aq Rb 2)) B0).trans (by rw[<-D0];exact h.cR.c 2 (by omega)),(hW.cell (p:=(Aq Rb 3)) B0).trans (by rw[<-j0];exact h.cR.c 3 (by omega)),(hW.cell (p:=(Aq b (off+1))) hb).trans c1,(hW.cell (p:=(Aq b (off+2))) hb).trans c2⟩
 have a1:Hid (∀W,Bq w W->W.ownsRow base 9 1 (.slice d3 r.aj.length k3) r.aj.length (r.aj.map strV)):=λW hW=>by
  have h1:=(h.below hW).own 3 (by unfold Zr;omega);rw[hr.r3.1,hr.r3.2,j0]at h1;exact h1
 have a0:Hid (r.head [Fl.bu,n,l]=if Fl.ai r.au l<0\/0<=Fl.ai r.cells n\/0<=Fl.ai r.aj n then(4,r) else if r.aj.length=3 then(5,r) else(0,{r with aj:=r.aj++[n],aY:=r.aY++[(Fl.ai r.au l).toNat]})):=by show _=_;simp[Fl.RS.head,Fl.cN,Fl.bM,Fl.bu]
 obtain⟨aV,n0⟩:=nmE (r.head [Fl.bu,n,l]);rw[<-n0]at a0⊢;have n1:=Fl.aR r.au l;have o1:=Fl.aR r.cells n;have p1:=Fl.aR r.aj n;have D1:=hr.lv;have E1:=hr.ce;have F1:=hr.ch
 have bj:r.aY.length<=6:=by have:=hr.cl;have:=hr.hl;omega
 generalize Fl.ai r.au l=pa at*;generalize Fl.ai r.cells n=pb at*;generalize Fl.ai r.aj n=pe at*
 have b1:(3:Int)<=(cap:Int):=by omega
 have q1: -1<=pa/\pa<=6:=by omega
 have s1: -1<=pb/\pb<=6:=by omega
 have t1: -1<=pe/\pe<=6:=by omega
 have u1:(r.au.length:Int)<=6:=by omega
 have v1:(r.cells.length:Int)<=6:=by omega
 have A1:(r.aj.length:Int)<=3:=by omega
 have i1:Hid ((Value.slice d3 r.aj.length k3).ownBlock≠some b):=by rw[<-j0];exact Z0.2 3 (by unfold Zr;omega)
 clear h hr n0 C0 D0 j0 N0 c1 c2 Z0 n1 o1 p1
 go_enter func18,ntmps18
 go_wp2_with fail
 refine Zi (λW=>Bq w W) [7] [] [] dA (by kernel_rfl) (λc a d v w h=>by cases d<;>exact h) (λops hG=>?_);clear hG
 iterate 7 refine Xf rfl (kE (by intro w' hw';obtain⟨x1,x2,x3,x4,x5⟩:=k0 w' hw';clear hw';go_simp<;>rfl) (by go_simp<;>rfl) ?_)
 refine Zt ?_
 go_wp2_with fail
 refine(K0 _ dA).mono ?_;rintro e w1 ⟨rfl,h0⟩;rw[h0];clear h0 w1
 go_wp2_with fail
 refine⟨dA,?_⟩;refine Zw rfl (by rintro _ -;go_simp<;>rfl) (by go_simp<;>rfl) ?_;refine Zu ?_
 go_wp2_with fail
 refine Zi (λW=>Bq w W) [7] [] [] dA.drew (by kernel_rfl) (λc a d v w h=>by cases d<;>exact h) (λops hG=>?_);clear hG
 iterate 7 refine Xf rfl (kE (by intro w' hw';obtain⟨x1,x2,x3,x4,x5⟩:=k0 w' hw';clear hw';go_simp<;>rfl) (by go_simp<;>rfl) ?_)
 refine Zt ?_
 go_wp2_with fail
 refine(L0 _ dA.drew).mono ?_;rintro e w1 ⟨rfl,h0⟩;rw[h0];clear h0 w1
 go_wp2_with fail
 refine⟨dA.drew,?_⟩;refine Zw rfl (by rintro _ -;go_simp<;>rfl) (by go_simp<;>rfl) ?_;refine Zu ?_
 go_wp2_with fail
 refine Zi (λW=>Bq w W) [7] [] [] dA.drew.drew (by kernel_rfl) (λc a d v w h=>by cases d<;>exact h) (λops hG=>?_);clear hG
 iterate 7 refine Xf rfl (kE (by intro w' hw';obtain⟨x1,x2,x3,x4,x5⟩:=k0 w' hw';clear hw';go_simp<;>rfl) (by go_simp<;>rfl) ?_)
 refine Zt ?_
 go_wp2_with fail
 refine(M0 _ dA.drew.drew).mono ?_;rintro e w1 ⟨rfl,h0⟩;rw[h0];clear h0 w1
 go_wp2_with fail
 refine⟨dA.drew.drew,?_⟩;refine Zw rfl (by rintro _ -;go_simp<;>rfl) (by go_simp<;>rfl) ?_;refine Zu ?_;have z0:Cl w b off (.string ⟨#[99,104,97,110,110,101,108]⟩):=c0;have E0:Hid (pa<0\/0<=pb\/0<=pe->Yk lo base Rb Pb w0 fl t aV (.returned (Iq 4)) w.drew.drew.drew):=by
  show _->Yk _ _ _ _ _ _ _ _ _ _;intro hh;rw[a0.out,if_pos hh];exact⟨rfl,λh=>(by cases h),λ_=>HH.drew.drew.drew.bel⟩
 by_cases hp:pa<0
 ·go_wp2
  go_ret;exact E0 (.inl hp)
 have G1:0<=pa:=by omega
 clear hp
 by_cases hq:0<=pb
 ·go_wp2
  go_ret;exact E0 (.inr (.inl hq))
 have H1:pb<0:=by omega
 clear hq
 by_cases hq:0<=pe
 ·go_wp2
  go_ret;exact E0 (.inr (.inr hq))
 have I1:pe<0:=by omega
 clear hq E0;obtain⟨x1,x2,x3,x4,x5⟩:=k0 w.drew.drew.drew dA.drew.drew
 by_cases h6:r.aj.length=3
 ·have b6:((r.aj.length:Int)==3)=true:=by simp[h6]
  have HE:Hid (Yk lo base Rb Pb w0 fl t aV (.returned (Iq 5)) w.drew.drew.drew):=by
   show Yk _ _ _ _ _ _ _ _ _ _;rw[a0.out,if_neg (by omega),if_pos h6];exact⟨rfl,λh=>(by cases h),λ_=>HH.drew.drew.drew.bel⟩
  clear h6;go_wp2;go_ret;exact HE
 have b6:((r.aj.length:Int)==3)=false:=by simp;omega
 have HR:Hid (aV=(0,{r with aj:=r.aj++[n],aY:=r.aY++[pa.toNat]})):=by show _=_;rw[a0.out,if_neg (by omega),if_neg h6]
 have B1:r.aj.length<3:=by omega
 clear h6 K0 L0 M0 a0
 go_wp2_with fail
 refine Zi (λW=>Cl W Rb 3 (.slice d3 r.aj.length k3)/\Cl W b (off+1) (.string ⟨n.toArray⟩)) [8,9,10] [12] [] ⟨x3,x4⟩ (by kernel_rfl) (λc a d v w h=>by cases d<;>exact h) (λops hG=>?_);clear hG
 iterate 8 refine Zw rfl (by rintro _ ⟨z0,z1⟩;go_simp<;>rfl) (by go_simp<;>rfl) ?_
 refine Zt ?_
 go_wp2_with fail
 obtain⟨W3,o0⟩:=nmE ((w.alloc (.cells #[.string ⟨n.toArray⟩] 9)).drew.drew.drew.drew);obtain⟨tb,Q0⟩:=nmE (w.heap.size)
 have p0:Bq w W3:=by rw[o0];exact(bA).drew.drew.drew.drew
 have J1:w.heap.size+1=W3.heap.size:=by rw[o0];simp
 have t0:∀i u,([.string ⟨n.toArray⟩]:List Value)[i]?=some u->W3.cell? (((Aq tb 0):Addr).add i)=some u:=by rw[o0,Q0];exact Xv
 have e0:W3.cell? (Aq Rb 3)=some (.slice d3 r.aj.length k3):=by have:=k0 W3 p0;exact this.2.2.1
 have e1:Cl W3 b (off+1) (.string ⟨n.toArray⟩):=(k0 W3 p0).2.2.2.1;have R0:Hid (W3.ownsRow base 9 1 (.slice d3 r.aj.length k3) r.aj.length (r.aj.map strV)):=a1 W3 p0;have S0:Hid (Bq w W3):=p0;rw[<-o0,<-Q0];clear o0 Q0 p0 x1 x2 x3 x4 x5 a1 k0;refine⟨⟨e0,e1⟩,?_⟩;refine Zt ?_;obtain⟨i0,F0,G0,H0,I0⟩:=info_parts Tryz.infoStr
 go_wp2_with (at_builtin;refine Zj _ rfl (.tmp 183) (.tmp 187) 32 rfl base 9 i0 (.string ⟨#[]⟩) 1 16 underlying32 F0 G0 H0 I0 rfl (by decide) _ _ _ rfl R0 (Aq tb 0) 1 1 [.string ⟨n.toArray⟩] rfl rfl (by decide) t0 ?c2 ?c3 ?c4 ?c5 ?_)
 case c2=>intro u hu;simp at hu;subst hu;rfl
 case c3=>unfold maxLen;omega
 case c4=>omega
 case c5=>omega
 intro v' W4 b0 q0 r0;obtain⟨va,vcap,rfl⟩:∃va vcap,v'=.slice va (r.aj.length+1) vcap:=by
  rcases b0.2 with⟨h1,h2⟩|⟨g,cp,cur,h1,_⟩
  ·omega
  exact⟨_,cp,h1⟩
 have s0:∀k,(Value.slice d3 r.aj.length k3).ownBlock=some k->base<=k/\k<w.heap.size+1:=λk hk=>by have:=R0.lt k hk;omega
 have m0:W4.heap[Rb]?=W3.heap[Rb]?:=q0.block Rb (by omega) (λhh=>by have:=(s0 Rb hh.symm).1;omega);have j1:W4.heap[b]?=W3.heap[b]?:=q0.block b (by omega) (λhh=>i1 hh.symm);have g0:Cl W4 Rb 3 (.slice d3 r.aj.length k3):=(Qc (a:=(Aq Rb 3)) m0).trans e0;have g1:Cl W4 b (off+1) (.string ⟨n.toArray⟩):=(Qc (a:=(Aq b (off+1))) j1).trans e1;have gz:W4.frozen? (Aq Rb 3)=false:=(Qd (a:=(Aq Rb 3)) m0).trans ((S0.frozen (p:=(Aq Rb 3)) B0).trans (HH.cR.z 3))
 have K1:w.heap.size+1<=W4.heap.size:=by have:=q0.size;omega
 have H5:Hid (Zs lo base Rb Pb w0 (W4.setCell (Aq Rb 3) (.slice va (r.aj.length+1) vcap)) (m.app 3 (.slice va (r.aj.length+1) vcap) [strV n])):=by
  refine HH.jL 3 (by unfold Zr;omega) (by omega) S0 (v':=.slice va (r.aj.length+1) vcap) (news:=[strV n]) ?_ ?_ ?_
  ·rw[HO.r3.1,HO.r3.2];exact b0
  ·rw[O0.out];exact q0
  rw[O0.out];exact r0
 clear b0 q0 r0 m0 j1 e0 e1 t0 R0 S0 s0 O0 HH i1
 go_wp2_with fail
 refine⟨⟨g0,g1⟩,?_⟩;refine Zt ?_
 go_wp2_with fail
 refine⟨⟨g0,g1⟩,?_⟩;refine Zw rfl (by rintro _ ⟨z0,z1⟩;go_simp<;>rfl) (by go_simp<;>rfl) ?_;refine Xp ?_
 go_wp2_with fail
 refine Zu ?_;obtain⟨W5,T0⟩:=nmE (W4.setCell (Aq Rb 3) (.slice va (r.aj.length+1) vcap));rw[<-T0]at H5⊢
 have L1:w.heap.size+1<=W5.heap.size:=by rw[T0,Zy];omega
 clear T0 g0 g1 gz;have y0:Cl W5 Rb 0 (Pq Pb):=H5.cR.c 0 (by omega)
 have y1:W5.cell? (Aq Pb 3)=some (.slice dl r.aY.length kl):=by rw[<-P0.out];exact H5.cP.c 3 (by omega)
 go_wp2_with fail
 refine Zi (λW=>Cl W Rb 0 (Pq Pb)/\Cl W Pb 3 (.slice dl r.aY.length kl)) [12,13,14] [16] [] ⟨y0,y1⟩ (by kernel_rfl) (λc a d v w h=>by cases d<;>exact h) (λops hG=>?_);clear hG
 iterate 12 refine Zw rfl (by rintro _ ⟨z0,z1⟩;go_simp<;>rfl) (by go_simp<;>rfl) ?_
 refine Zt ?_
 go_wp2_with fail
 obtain⟨W6,v0⟩:=nmE ((W5.alloc (.cells #[Iq pa] 3)).drew);obtain⟨ub,U0⟩:=nmE (W5.heap.size)
 have x0:Bq W5 W6:=by rw[v0];exact(bA).drew
 have M1:W5.heap.size+1=W6.heap.size:=by rw[v0];simp
 have u0:∀i u,([Iq pa]:List Value)[i]?=some u->W6.cell? (((Aq ub 0):Addr).add i)=some u:=by rw[v0,U0];exact Xv
 have f0:Cl W6 Rb 0 (Pq Pb):=(x0.cell (p:=(Aq Rb 0)) (by show Rb<_;omega)).trans y0;have f1:Cl W6 Pb 3 (.slice dl r.aY.length kl):=(x0.cell (p:=(Aq Pb 3)) (by show Pb<_;omega)).trans y1;have E2:Hid ((m.app 3 (.slice va (r.aj.length+1) vcap) [strV n]).v 13=.slice dl r.aY.length kl):=P0.out;have E3:Hid ((m.app 3 (.slice va (r.aj.length+1) vcap) [strV n]).n 13=r.aY.length):=HO.iI.1;have E4:Hid ((m.app 3 (.slice va (r.aj.length+1) vcap) [strV n]).xs 13=Yi r.aY):=HO.iI.2;have V0:Hid (W6.ownsRow base 3 1 (.slice dl r.aY.length kl) r.aY.length (Yi r.aY)):=by
  have h1:=(H5.below x0).own 13 (by unfold Zr;omega);rw[E2.out,E3.out,E4.out]at h1;exact h1
 have W0:Hid (Bq W5 W6):=x0;rw[<-v0,<-U0];clear v0 U0 x0 y0 y1;refine⟨⟨f0,f1⟩,?_⟩;refine Zt ?_;clear F0 G0 H0 I0 i0;obtain⟨i0,F0,G0,H0,I0⟩:=info_parts Tryz.infoIntP
 go_wp2_with (at_builtin;refine Zj _ rfl (.tmp 201) (.tmp 203) 36 rfl base 3 i0 (Iq 0) 1 8 underlying36 F0 G0 H0 I0 rfl (by decide) _ _ _ rfl V0 (Aq ub 0) 1 1 [Iq pa] rfl rfl (by decide) u0 ?d2 ?d3 ?d4 ?d5 ?_)
 case d2=>intro u hu;simp at hu;subst hu;rfl
 case d3=>unfold maxLen;omega
 case d4=>omega
 case d5=>omega
 intro v7 W7 d0 J0 A0;obtain⟨vb,vcbp,rfl⟩:∃va vcap,v7=.slice va (r.aY.length+1) vcap:=by
  rcases d0.2 with⟨h1,h2⟩|⟨g,cp,cur,h1,_⟩
  ·omega
  exact⟨_,cp,h1⟩
 have l0:∀k,(Value.slice dl r.aY.length kl).ownBlock=some k->base<=k:=λk hk=>(V0.lt k hk).1;have m0:W7.heap[Rb]?=W6.heap[Rb]?:=J0.block Rb (by omega) (λhh=>by have:=l0 Rb hh.symm;omega);have X0:W7.heap[Pb]?=W6.heap[Pb]?:=J0.block Pb (by omega) (λhh=>by have:=l0 Pb hh.symm;omega);have g0:Cl W7 Rb 0 (Pq Pb):=(Qc (a:=(Aq Rb 0)) m0).trans f0;have g1:Cl W7 Pb 3 (.slice dl r.aY.length kl):=(Qc (a:=(Aq Pb 3)) X0).trans f1;have gz:W7.frozen? (Aq Pb 3)=false:=(Qd (a:=(Aq Pb 3)) X0).trans ((W0.frozen (p:=(Aq Pb 3)) (by show Pb<_;omega)).trans (H5.cP.z 3));have Y0:Hid (Yk lo base Rb Pb w0 fl t aV (.returned (Iq 0)) (W7.setCell (Aq Pb 3) (.slice vb (r.aY.length+1) vcbp))):=by
  show Yk _ _ _ _ _ _ _ _ _ _;rw[HR.out];have ea:(pa.toNat:Int)=pa:=(by omega);refine⟨rfl,λ_=>⟨_,H5.nE 13 (by unfold Zr;omega) (by omega) W0 (v':=.slice vb (r.aY.length+1) vcbp) (news:=[Iq (pa.toNat:Int)]) ?_ ?_ ?_,HO.mB n pa.toNat _ _ l1 B1⟩,λhh=>absurd rfl hh⟩
  ·rw[ea,E3.out,E4.out];exact d0
  ·rw[E2.out];exact J0
  rw[E2.out];exact A0
 clear d0 J0 A0 m0 X0 f0 f1 u0 V0 W0 l0 P0 H5 HO HR E2 E3 E4
 go_wp2_with fail
 refine⟨⟨g0,g1⟩,?_⟩;refine Zt ?_
 go_wp2_with fail
 refine⟨⟨g0,g1⟩,?_⟩;refine Zw rfl (by rintro _ ⟨z0,z1⟩;go_simp<;>rfl) (by go_simp<;>rfl) ?_;refine Xp ?_
 go_wp2_with fail
 refine Zu ?_;go_wp2;go_ret;exact Y0
end
section
variable{m:Yl}{fl:List FlS}
def Zs.nB(h:Zs lo base Rb Pb w0 w m)(j:Nat)(hj:j<6)(v:Value)(m':Yl)(hn:m'.n=m.n)(hx:m'.xs=m.xs)(hv:m'.v=m.v)(hk:m'.fQ=m.fQ/\m'.wk=m.wk)(hR:∀i,i<11->rrC Pb m' i=rrC Pb m i)(hP:∀i,i<6->rpC m' i=if i=j then v else rpC m i):Zs lo base Rb Pb w0 (w.setCell (Aq Pb j) v) m':=by
 obtain⟨b1,b2,b3,b4,b5,b6,b7⟩:=h.bL;refine{bel:=h.bel.setCell (by show lo<=Pb;omega) _,bL:=⟨b1,b2,b3,b4,b5,by rw[Zy];omega,b7⟩,cR:= ?_,cP:=(h.cP.set hj v).congr λi hi=>(hP i hi).symm,own:=λi hi=>?_,iR:=by rw[hv];exact h.iR,kp:=λb hb=>?_}
 ·exact(h.cR.block (Zx _ _ _ _ _ b5)).congr λi hi=>(hR i hi).symm
 ·rw[hn,hx,hv]
  exact Yw (h.own i hi) (λb hb=>Zx _ _ _ _ _ (by have:=((h.own i hi).lt b hb).1;omega))
 rw[hk.1]at hb;obtain⟨k1,k2,k3,k4⟩:=h.kp b hb;rw[hv,hk.2];exact⟨k1,by rw[Zy];exact k2,(Zx _ _ _ _ _ (by omega)).trans k3,k4⟩
def Zs.oR(h:Zs lo base Rb Pb w0 w m)(n:Nat):Zs lo base Rb Pb w0 (w.setCell (Aq Pb 0) (Iq (n:Int))) {m with N:=n}:=
 h.nB 0 (by omega) _ _ rfl rfl rfl ⟨rfl,rfl⟩ (λ_ _=>rfl) (λi hi=>by
  rcases(show i=0\/i=1\/i=2\/i=3\/i=4\/i=5 by omega) with rfl|rfl|rfl|rfl|rfl|rfl<;>rfl)
def Zs.nQ(h:Zs lo base Rb Pb w0 w m)(v:Value):Zs lo base Rb Pb w0 (w.setCell (Aq Pb 1) v) {m with leq:=v}:=
 h.nB 1 (by omega) _ _ rfl rfl rfl ⟨rfl,rfl⟩ (λ_ _=>rfl) (λi hi=>by
  rcases(show i=0\/i=1\/i=2\/i=3\/i=4\/i=5 by omega) with rfl|rfl|rfl|rfl|rfl|rfl<;>rfl)
def Zs.mc(h:Zs lo base Rb Pb w0 w m)(v:Bool):Zs lo base Rb Pb w0 (w.setCell (Aq Rb 7) (.bool v)) {m with ae:=v}:=by
 obtain⟨b1,b2,b3,b4,b5,b6,b7⟩:=h.bL;refine{bel:=h.bel.setCell (by show lo<=Rb;omega) _,bL:=⟨b1,b2,b3,b4,b5,by rw[Zy];omega,b7⟩,cR:=(h.cR.set (j:=7) (by omega) (.bool v)).congr λi hi=>?_,cP:= ?_,own:=λi hi=>Yw (h.own i hi) (λb hb=>Zx _ _ _ _ _ (by have:=((h.own i hi).lt b hb).1;omega)),iR:=h.iR,kp:=λb hb=>have k:=h.kp b hb;⟨k.1,by rw[Zy];exact k.2.1,(Zx _ _ _ _ _ (by have:=k.1;omega)).trans k.2.2.1,k.2.2.2⟩}
 ·unfold rrC
  by_cases h7:i=7
  ·subst h7;rfl
  simp[h7]
 exact(h.cP.block (Zx _ _ _ _ _ (Ne.symm b5))).congr λi hi=>rfl
def Zg.ku(h:Zg r fl t m)(N:Nat)(v:Value)(K:Nat->Prop)(wk:World)(ht:zgv {m with N:=N,leq:=v,fQ:=K,wk:=wk} r.au.length r.tab):Zg {r with ae:=true} fl (t+1) {m with ae:=true,N:=N,leq:=v,fQ:=K,wk:=wk}:=
 {r1:=h.r1,r2:=h.r2,r3:=h.r3,r4:=h.r4,r5:=h.r5,r6:=h.r6,r8:=h.r8,fO:=h.fO,iQ:=h.iQ,iI:=h.iI,bg:=rfl,st:=h.st,nm:=h.nm,lv:=h.lv,ce:=h.ce,ch:=h.ch,lo:=h.lo,sm:=h.sm,fr:=h.fr,lw:=by have:=h.lw;show r.aM.length<=_;omega,ft:=by have:=h.ft;omega,pr:=h.pr,bw:=h.bw,cl:=h.cl,hl:=h.hl,lt:=λ_=>ht}
end
end Go.Proofs.YtfhpibppblbgcaaGreatDoor
namespace Go.Proofs.YtfhpibppblbgcaaGreatDoor
open Go.Proofs.Tryz
variable{lo base Rb Pb t n i j g cap k:Nat}{w0 w w' W:World}{r:Fl.RS}{e:TypeId}{xs z cs:List Value}{x:Value}{f:Fl.aB}{fs:List Fl.aB}
namespace Fl
def lattice_bad{t:cM}(hi:i<n)(hj:j<n)(h:bW n t i j=false):bt n t=false:=by
 unfold bt;rw[Bool.and_eq_false_iff]
 right
 rw[List.all_eq_false];refine⟨i,List.mem_range.mpr hi,?_⟩;rw[Bool.not_eq_true,List.all_eq_false];exact⟨j,List.mem_range.mpr hj,by rw[h];simp⟩
def lattice_good{t:cM}(h:∀i j,i<n->j<n->bW n t i j=true):bt n t=decide (0<n):=by
 unfold bt;have h2:((List.range n).all λi=>(List.range n).all λj=>bW n t i j)=true:=by
  rw[List.all_eq_true];intro i hi;rw[List.all_eq_true];intro j hj;exact h i j (List.mem_range.mp hi) (List.mem_range.mp hj)
 rw[h2,Bool.and_true]
def pair_both{t:cM}(a0:i≠j)(h1:t i j=true)(h2:t j i=true):bW n t i j=false:=by
 unfold bW;simp[h1,h2,a0]
def pair_none{t:cM}(h:join n t i j<0\/fU n t i j<0):bW n t i j=false:=by
 unfold bW;rw[Bool.and_eq_false_iff]
 right
 rw[Bool.and_eq_false_iff];rcases h with h|h
 ·left;simp;exact h
 right;simp;exact h
def pair_good{t:cM}(h:i=j\/t i j=false\/t j i=false)(h1:0<=join n t i j)(h2:0<=fU n t i j):bW n t i j=true:=by
 unfold bW;rcases h with rfl|h|h
 ·simp[h1,h2]
 ·simp[h,h1,h2]
 simp[h,h1,h2]
end Fl
open Go.RowKit
structure zaw(r:Fl.RS)(t:Nat)(m:Yl):Prop where
 r1:m.n 1=r.au.length/\m.xs 1=r.au.map strV
 r5:m.n 5=r.aM.length/\m.xs 5=Yi r.aM
 r6:m.n 6=r.aG.length/\m.xs 6=Yi r.aG
 lv:r.au.length<=6
 lw:r.aM.length<=t
 pr:r.aM.length=r.aG.length
 bw:(∀x∈r.aM,x<r.au.length)/\(∀x∈r.aG,x<r.au.length)
def zs0(lo base Rb Pb:Nat)(w0:World)(m:Yl)(n:Nat)(T:Fl.cM)(aV:Bool)(e:Ending)(w':World):Prop:=
 e=.returned (.bool aV)/\∃N v K wk,Zs lo base Rb Pb w0 w' {m with N:=N,leq:=v,fQ:=K,wk:=wk}/\zgv {m with N:=N,leq:=v,fQ:=K,wk:=wk} n T
section
variable{m:Yl}{fl:List FlS}
def yo9(b0:∀(W:World) (m:Yl) (r:Fl.RS),Zs lo base Rb Pb w0 W m->zaw r t m->Cq 27 #[Pq Rb] W (zs0 lo base Rb Pb w0 m r.au.length r.tab (Fl.bt r.au.length r.tab)))
  (h:Zs lo base Rb Pb w0 w m) (hr:Zg r fl t m) (b off cap:Nat) (k:List UInt8) (hb:b<w.heap.size) (j0:b≠Rb) (h0:1<=cap/\cap<=maxLen) (c0:w.cell? (Aq b off)=some (.string ⟨#[98,101,103,105,110]⟩)):
  Cq 18 #[Pq Rb,.slice (some (Aq b off)) 1 cap] w (Yk lo base Rb Pb w0 fl t (r.head [k])):=by
 have bL:=h.bL;have HL:Hid (Cq 27 #[Pq Rb] (w.setCell (Aq Rb 7) (.bool true)) (zs0 lo base Rb Pb w0 {m with ae:=true} r.au.length r.tab (Fl.bt r.au.length r.tab))):=b0 _ {m with ae:=true} r (h.mc true) {r1:=hr.r1,r5:=hr.r5,r6:=hr.r6,lv:=hr.lv,lw:=hr.lw,pr:=hr.pr,bw:=hr.bw};have HO:=Zz hr;have a0:Hid (r.head [k]=if Fl.bt r.au.length r.tab then(0,{r with ae:=true}) else(6,r)):=rfl;obtain⟨v7,x7⟩:∃v,Cl w Rb 7 v:=⟨_,h.cR.c 7 (by omega)⟩;have z7:w.frozen? (Aq Rb 7)=false:=h.cR.z 7;obtain⟨aV,d0⟩:=nmE (r.head [k]);rw[<-d0]at a0⊢
 have f0:(1:Int)<=(cap:Int):=by omega
 generalize Fl.bt r.au.length r.tab=ok at*;clear h hr d0 b0
 go_enter func18,ntmps18
 go_wp2_with fail
 refine HL.mono ?_;rintro e w1 ⟨rfl,N,v,K,wk,g0,e0⟩;have HW:=Zz g0;have i0:=Zz e0;clear g0 e0 HL
 cases ok
 ·have HE:Hid (Yk lo base Rb Pb w0 fl t aV (.returned (Iq 6)) w1):=by
   show Yk _ _ _ _ _ _ _ _ _ _;rw[a0.out];exact⟨rfl,λh=>(by cases h),λ_=>HW.bel⟩
  go_wp2;go_ret;exact HE
 have HE:Hid (Yk lo base Rb Pb w0 fl t aV (.returned (Iq 0)) w1):=by
  show Yk _ _ _ _ _ _ _ _ _ _;rw[a0.out];exact⟨rfl,λ_=>⟨_,HW,HO.ku N v K wk i0⟩,λhh=>absurd rfl hh⟩
 go_wp2;go_ret;exact HE
end
section
variable{m:Yl}{fl:List FlS}
def yh8(f0:∀(W:World) (m:Yl) (r:Fl.RS),Zs lo base Rb Pb w0 W m->zaw r t m->Cq 27 #[Pq Rb] W (zs0 lo base Rb Pb w0 m r.au.length r.tab (Fl.bt r.au.length r.tab)))
  (h:Zs lo base Rb Pb w0 w m) (hr:Zg r fl t m) (g0:r.ae=false) (ht:t<=1000000) (v:Value) (ws:List (List UInt8)) (hw:Zf w.heap.size w v ws) (i0:∀b off k c,v=.slice (some (Aq b off)) k c->b≠Rb/\∀j,Zr j->(m.v j).ownBlock≠some b) (hl:Fl.aq ws=true) (hh:Fl.cB (ws.getD 0 [])=true):
  Cq 18 #[Pq Rb,v] w (Yk lo base Rb Pb w0 fl t (r.head ws)):=by
 obtain⟨ao,cap,hv,c0,d0,l0,hx,b0⟩:=hw
 have j0:ws≠[]:=by intro h0;subst h0;simp[Fl.aq]at hl
 obtain⟨b,off,k0,hb,a0⟩:=b0 j0;subst k0;have e0:=i0 b off ws.length cap hv;subst hv;clear b0 i0
 match ws,hl,hh with
 |[a],hl,hh=>
  have e:a=Fl.cC:=by
   simp[Fl.aq,Fl.cB]at hl hh;rcases hl with(h1|h1)|h1
   ·exact h1
   ·subst h1;simp[Fl.dL,Fl.cT,Fl.bM,Fl.cN,Fl.bu,Fl.cC]at hh
   subst h1;simp[Fl.gy,Fl.cT,Fl.bM,Fl.cN,Fl.bu,Fl.cC]at hh
  subst e;exact yo9 f0 h hr b off cap _ hb e0.1 ⟨c0,d0⟩ (a0 0 (by simp))
 |[a,n],hl,hh=>
  have e:a=Fl.cT:=by
   simp[Fl.aq,Fl.cB]at hl hh;rcases hl with h1|⟨h1|h1,_⟩
   ·exact h1.1
   ·subst h1;simp[Fl.iP,Fl.cT,Fl.bM,Fl.cN,Fl.bu,Fl.cC]at hh
   subst h1;simp[Fl.eZ,Fl.cT,Fl.bM,Fl.cN,Fl.bu,Fl.cC]at hh
  subst e;exact yo7 h hr g0 b off cap _ n (hx n (by simp)) hb e0 ⟨c0,d0⟩ (a0 0 (by simp)) (a0 1 (by simp))
 |[a,n,l],hl,hh=>
  have e:a=Fl.bM\/a=Fl.cN\/a=Fl.bu:=by
   simp[Fl.aq,Fl.cB]at hl hh;rcases hl with⟨⟨h1,_⟩,_⟩|⟨⟨h1|h1,_⟩,_⟩
   ·rcases h1 with(h1|h1)|h1
    ·exact .inl h1
    ·exact .inr (.inl h1)
    exact .inr (.inr h1)
   ·subst h1;simp[Fl.eD,Fl.cT,Fl.bM,Fl.cN,Fl.bu,Fl.cC]at hh
   subst h1;simp[Fl.eM,Fl.cT,Fl.bM,Fl.cN,Fl.bu,Fl.cC]at hh
  rcases e with e|e|e
  ·subst e
   exact yo8 h hr g0 ht b off cap n l hb e0 ⟨c0,d0⟩ (a0 0 (by simp)) (a0 1 (by simp)) (a0 2 (by simp))
  ·subst e
   exact yk9 h hr b off cap n l (hx n (by simp)) hb e0 ⟨c0,d0⟩ (a0 0 (by simp)) (a0 1 (by simp)) (a0 2 (by simp))
  subst e;exact ywz h hr b off cap n l (hx n (by simp)) hb e0 ⟨c0,d0⟩ (a0 0 (by simp)) (a0 1 (by simp)) (a0 2 (by simp))
 |[_,_,_,_],hl,hh=>simp[Fl.aq]at hl
 |[a,_,_,_,_],hl,hh=>
  simp[Fl.aq,Fl.cB]at hl hh;rw[hl.1.1.1.1]at hh;simp[Fl.eM,Fl.cT,Fl.bM,Fl.cN,Fl.bu,Fl.cC]at hh
 |_::_::_::_::_::_::_,hl,hh=>simp[Fl.aq]at hl
end
def Ui(b:Nat):∀(cs:List Value) (w:World) (o k:Nat),k≠b->(w.setCells b o cs).heap[k]?=w.heap[k]?
 |[],_,_,_,_=>rfl
 |v::r,w,o,k,h=>(Ui b r _ _ k h).trans (Zx w b o v k h)
def zn0(b:Nat):∀(cs:List Value) (w:World) (o:Nat),(w.setCells b o cs).heap.size=w.heap.size
 |[],_,_=>rfl
 |v::r,w,o=>(zn0 b r _ _).trans (Zy w _ v)
def zn1(b:Nat):∀(cs:List Value) (w:World) (o:Nat),(w.setCells b o cs).os=w.os/\(w.setCells b o cs).tape=w.tape/\(w.setCells b o cs).output=w.output
 |[],_,_=>⟨rfl,rfl,rfl⟩
 |v::r,w,o=>zn1 b r (w.setCell (Aq b o) v) (o+1)
def zn2(l:List Value)(o:Nat)(v:Value)(h:o<l.length):(l.set o v).take (o+1)=l.take o++[v]:=by
 rw[List.set_eq_take_append_cons_drop,if_pos h,List.take_append,List.take_take]
 have h1:(l.take o).length=o:=by simp;omega
 rw[h1,show o+1 - o=1 by omega,show min (o+1) o=o by omega];simp
def zmw(b:Nat)(e:TypeId):∀(cs:List Value) (w:World) (o:Nat) (cur:Array Value),w.heap[b]?=some (.cells cur e (0,0))->o+cs.length<=cur.size->
  ∃cur',(w.setCells b o cs).heap[b]?=some (.cells cur' e (0,0))/\cur'.size=cur.size/\cur'.toList.take (o+cs.length)=cur.toList.take o++cs
 |[],w,o,cur,hg,h=>⟨cur,hg,rfl,by simp⟩
 |v::r,w,o,cur,hg,h=>by
  have h0:o+(r.length+1)<=cur.size:=h;obtain⟨cur',e1,e2,e3⟩:=zmw b e r (w.setCell (Aq b o) v) (o+1) (cur.setIfInBounds o v) (Go.heap_setCell_same w b o cur e v hg) (by rw[Array.size_setIfInBounds];omega);refine⟨cur',e1,by rw[e2,Array.size_setIfInBounds],?_⟩;rw[List.length_cons,show o+(r.length+1)=o+1+r.length by omega,e3,Array.toList_setIfInBounds,zn2 _ _ _ (by simp;omega)];simp
def own_put(h:W.ownsRow base e 10 (.slice (some (Aq g 0)) (n+1) cap) (n+1) (xs++z))(hz:z.length=10)(hc:cs.length=10):(W.setCells g (n*10) cs).ownsRow base e 10 (.slice (some (Aq g 0)) (n+1) cap) (n+1) (xs++cs):=by
 obtain⟨h1,h2⟩:=h
 have hl:xs.length=n*10:=by simp at h1;omega
 refine⟨by simp;omega,?_⟩;rcases h2 with⟨h3,-⟩|⟨g',cap',cur,h3,hb,hg,a0,hm,hs,ht⟩
 ·cases h3
 simp only[Value.slice.injEq,Option.some.injEq,Addr.mk.injEq]at h3;obtain⟨⟨rfl,-⟩,-,rfl⟩:=h3;obtain⟨cur',e1,e2,e3⟩:=zmw g e cs W (n*10) cur hg (by rw[hs,hc];omega);refine .inr ⟨g,cap,cur',rfl,hb,e1,a0,hm,by rw[e2];exact hs,?_⟩;rw[show (n+1)*10=n*10+cs.length by rw[hc];omega,e3];have:=congrArg (List.take (n*10)) ht;rw[List.take_take,show min (n*10) ((n+1)*10)=n*10 by omega,List.take_append_of_le_length (by omega),List.take_of_length_le (by omega:xs.length<=n*10)]at this;rw[this]
def zmv(h:W.ownsRow base e 10 (.slice (some (Aq g 0)) (n+1) cap) (n+1) xs):W.there g (n*10) 10:=by
 obtain⟨h1,h2⟩:=h;rcases h2 with⟨h3,-⟩|⟨g',cap',cur,h3,hb,hg,b0,hm,hs,ht⟩
 ·cases h3
 simp only[Value.slice.injEq,Option.some.injEq,Addr.mk.injEq]at h3;obtain⟨⟨rfl,-⟩,-,rfl⟩:=h3;intro j hj
 have a0:n*10+j<cur.size:=by omega
 exact⟨by simp[World.cell?,hg,a0],by simp[World.frozen?,hg]⟩
def ze7{row:Option Nat}(h:w.grownBy w' row)(g o:Nat)(cs:List Value)(hg:some g=row\/w.heap.size<=g):w.grownBy (w'.setCells g o cs) row:=by
 obtain⟨r1,r2,r3⟩:=zn1 g cs w' o;refine⟨r1.trans h.os,r2.trans h.tape,r3.trans h.output,by rw[zn0];exact h.size,λk hk a0=>(Ui g cs w' o k ?_).trans (h.block k hk a0)⟩;rintro rfl;rcases hg with h1|h1
 ·exact a0 h1
 omega
def ywy(w:World)(b c i j:Nat)(u v:Value)(h:b≠c):(w.setCell (Aq b i) u).setCell (Aq c j) v=(w.setCell (Aq c j) v).setCell (Aq b i) u:=by
 unfold World.setCell
 congr 1
 apply Array.ext_getElem?
 intro k;simp only[Array.getElem?_modify]
 by_cases h1:b=k
 ·by_cases h2:c=k
  ·exact absurd (h1.trans h2.symm) h
  simp[h1,h2]
 simp[h1]
def zw1(b c j:Nat)(v:Value)(h:b≠c):∀(cs:List Value) (w:World) (o:Nat),(w.setCell (Aq c j) v).setCells b o cs=(w.setCells b o cs).setCell (Aq c j) v
 |[],_,_=>rfl
 |u::r,w,o=>by
  show ((w.setCell (Aq c j) v).setCell (Aq b o) u).setCells b (o+1) r=((w.setCell (Aq b o) u).setCells b (o+1) r).setCell (Aq c j) v;rw[ywy w c b j o v u (Ne.symm h),zw1 b c j v h r]
section
variable{m:Yl}{fl:List FlS}
def Zs.flat(h:Zs lo base Rb Pb w0 w m){W3 W4:World}(b0:Bq w W3)(c0:W4.ownsRow base 61 10 (.slice (some (Aq g 0)) (m.n 10+1) cap) (m.n 10+1) (m.xs 10++z))(hz:z.length=10)(hc:cs.length=10)(d0:W3.grownBy W4 (m.v 10).ownBlock)(a0:some g=(m.v 10).ownBlock\/some g=some W3.heap.size):
  Zs lo base Rb Pb w0 ((W4.setCells g (m.n 10*10) cs).setCell (Aq Rb 10) (.slice (some (Aq g 0)) (m.n 10+1) cap)) (m.app 10 (.slice (some (Aq g 0)) (m.n 10+1) cap) cs):=
 h.jL 10 (by unfold Zr;omega) (by omega) b0 (own_put c0 hz hc) (ze7 d0 g _ _ (by rcases a0 with h1|h1;exact .inl h1;simp only[Option.some.injEq]at h1;exact .inr (by omega))) a0
def Zs.ma(h:Zs lo base Rb Pb w0 w m)(k:Nat):Zs lo base Rb Pb w0 (w.setCell (Aq Rb 9) (Iq (k:Int))) {m with ap:=k}:=by
 obtain⟨b1,b2,b3,b4,b5,b6,b7⟩:=h.bL;refine{bel:=h.bel.setCell (by show lo<=Rb;omega) _,bL:=⟨b1,b2,b3,b4,b5,by rw[Zy];omega,b7⟩,cR:=(h.cR.set (j:=9) (by omega) (Iq (k:Int))).congr λi hi=>?_,cP:= ?_,own:=λi hi=>Yw (h.own i hi) (λb hb=>Zx _ _ _ _ _ (by have:=((h.own i hi).lt b hb).1;omega)),iR:=h.iR,kp:=λb hb=>have k:=h.kp b hb;⟨k.1,by rw[Zy];exact k.2.1,(Zx _ _ _ _ _ (by have:=k.1;omega)).trans k.2.2.1,k.2.2.2⟩}
 ·unfold rrC
  by_cases h7:i=9
  ·subst h7;rfl
  simp[h7]
 exact(h.cP.block (Zx _ _ _ _ _ (Ne.symm b5))).congr λi hi=>rfl
def zyy(m:Yl)(v:Value)(n:Nat)(xs:List Value):Yl:={m with n:=λi=>if i=8 then n else m.n i,xs:=λi=>if i=8 then xs else m.xs i,v:=λi=>if i=8 then v else m.v i}
def Uf(m:Yl)(v:Value)(n:Nat)(xs:List Value)(h:i≠8):(zyy m v n xs).v i=m.v i/\(zyy m v n xs).n i=m.n i/\(zyy m v n xs).xs i=m.xs i:=by
 unfold zyy;simp[h]
def Zs.nx(h:Zs lo base Rb Pb w0 w m){y:Value}(hv:m.v 8=.slice (some (Aq g 0)) (k+1) cap)(hn:m.n 8=k+1)(hx:m.xs 8=xs++[x]):Zs lo base Rb Pb w0 (w.setCell (Aq g k) y) (zyy m (m.v 8) (m.n 8) (xs++[y])):=by
 obtain⟨b1,b2,b3,b4,b5,b6,b7⟩:=h.bL
 have h8:Zr 8:=by unfold Zr;omega
 have ho:=h.own 8 h8;have hg:=ho.lt g (by rw[hv];rfl)
 have a0:(λi=>if i=8 then m.v 8 else m.v i)=m.v:=by funext i;by_cases hi:i=8<;>simp[hi]
 refine{bel:=h.bel.setCell (by show lo<=g;omega) _,bL:=⟨b1,b2,b3,b4,b5,by rw[Zy];omega,b7⟩,cR:=(h.cR.block (Zx _ _ _ _ _ (by omega))).congr λi hi=>?_,cP:=(h.cP.block (Zx _ _ _ _ _ (by omega))).congr λi hi=>?_,own:=λi hi=>?_,iR:=λi j b hi hj hne=>by show ((λi=>if i=8 then m.v 8 else m.v i) i).ownBlock=_->((λi=>if i=8 then m.v 8 else m.v i) j).ownBlock≠_;rw[a0];exact h.iR i j b hi hj hne,kp:=λb hb=>?_}
 ·show rrC Pb m i=if i=0 then ptr Pb else if i=7 then .bool m.ae else if i=9 then Iq m.ap else(λi=>if i=8 then m.v 8 else m.v i) i
  rw[a0];rfl
 ·show rpC m i=if i=0 then _ else if i=1 then m.leq else if i=4 then _ else if i=5 then m.aX else(λi=>if i=8 then m.v 8 else m.v i) (10+i)
  rw[a0];rfl
 ·by_cases b0:i=8
  ·subst b0
   show (w.setCell (Aq g k) y).ownsRow base (rTy 8) (rSz 8) (if 8=8 then m.v 8 else m.v 8) (if 8=8 then m.n 8 else m.n 8) (if 8=8 then xs++[y] else m.xs 8);rw[if_pos rfl,if_pos rfl,if_pos rfl];obtain⟨h1,h2⟩:=ho;rw[hx]at h1;have c0:rSz 8=1:=rfl;rw[c0]at h1 h2⊢;have hl:xs.length=k:=(by simp at h1;omega);refine⟨by simp;omega,?_⟩;rcases h2 with⟨h3,h4⟩|⟨g',cap',cur,h3,hb,d0,hc,hm,hs,ht⟩
   ·omega
   rw[hv]at h3;simp only[Value.slice.injEq,Option.some.injEq,Addr.mk.injEq]at h3;obtain⟨⟨rfl,-⟩,-,rfl⟩:=h3;refine .inr ⟨g,cap,cur.setIfInBounds k y,by rw[hv,hn],hb,Go.heap_setCell_same w g k cur _ y d0,hc,hm,by rw[Array.size_setIfInBounds];exact hs,?_⟩;rw[hn,Nat.mul_one]at ht⊢;rw[Array.toList_setIfInBounds,zn2 _ _ _ (by simp;omega)];have:=congrArg (List.take k) ht;rw[List.take_take,show min k (k+1)=k by omega,hx,List.take_append_of_le_length (by omega),List.take_of_length_le (by omega:xs.length<=k)]at this;rw[this]
  obtain⟨e1,e2,e3⟩:=Uf m (m.v 8) (m.n 8) (xs++[y]) b0;rw[e1,e2,e3];refine Yw (h.own i hi) (λb hb=>Zx _ _ _ _ _ ?_);rintro rfl;exact h.iR i 8 b hi h8 b0 hb (by rw[hv];rfl)
 obtain⟨k1,k2,k3,k4⟩:=h.kp b hb;refine⟨k1,by rw[Zy];exact k2,(Zx _ _ _ _ _ ?_).trans k3,λj hj=>?_⟩
 ·rintro rfl;exact k4 8 h8 (by rw[hv];rfl)
 show ((λi=>if i=8 then m.v 8 else m.v i) j).ownBlock≠_;rw[a0];exact k4 j hj
def Zs.ny(h:Zs lo base Rb Pb w0 w m)(hv:m.v 8=.slice (some (Aq g 0)) (k+1) cap)(hn:m.n 8=k+1)(hx:m.xs 8=xs++[x]):Zs lo base Rb Pb w0 (w.setCell (Aq Rb 8) (.slice (some (Aq g 0)) k cap)) (zyy m (.slice (some (Aq g 0)) k cap) k xs):=by
 obtain⟨b1,b2,b3,b4,b5,b6,b7⟩:=h.bL
 have h8:Zr 8:=by unfold Zr;omega
 have b0:∀i,((zyy m (.slice (some (Aq g 0)) k cap) k xs).v i).ownBlock=(m.v i).ownBlock:=λi=>by
  by_cases hi:i=8
  ·subst hi;rw[hv];rfl
  rw[(Uf m _ k xs hi).1]
 refine{bel:=h.bel.setCell (by show lo<=Rb;omega) _,bL:=⟨b1,b2,b3,b4,b5,by rw[Zy];omega,b7⟩,cR:=(h.cR.set (j:=8) (by omega) (.slice (some (Aq g 0)) k cap)).congr λi hi=>?_,cP:=(h.cP.block (Zx _ _ _ _ _ (Ne.symm b5))).congr λi hi=>?_,own:=λi hi=>?_,iR:=λi j b hi hj hne=>by rw[b0,b0];exact h.iR i j b hi hj hne,kp:=λb hb=>have k:=h.kp b hb;⟨k.1,by rw[Zy];exact k.2.1,(Zx _ _ _ _ _ (by have:=k.1;omega)).trans k.2.2.1,λj hj=>by rw[b0];exact k.2.2.2 j hj⟩}
 ·by_cases a0:i=8
  ·subst a0;rfl
  rw[if_neg a0];unfold rrC;rw[(Uf m _ k xs a0).1];rfl
 ·unfold rpC
  rw[(Uf m (.slice (some (Aq g 0)) k cap) k xs (show 10+i≠8 by omega)).1];rfl
 by_cases a0:i=8
 ·subst a0
  have ho:=h.own 8 h8;rw[hv,hn,hx]at ho;refine Yw (w:=w) ?_ (λb hb=>Zx _ _ _ _ _ ?_)
  ·exact yx4 ho
  have:=ho.lt b hb;omega
 obtain⟨e1,e2,e3⟩:=Uf m (.slice (some (Aq g 0)) k cap) k xs a0;rw[e1,e2,e3];exact Yw (h.own i hi) (λb hb=>Zx _ _ _ _ _ (by have:=((h.own i hi).lt b hb).1;omega))
end
def Xr(lo base Rb Pb:Nat)(w0:World)(t:Nat)(aV:Nat×Fl.RS)(e:Ending)(w':World):Prop:=
 e=.returned (Iq aV.1)/\(aV.1=0->∃m' fl',Zs lo base Rb Pb w0 w' m'/\Zg aV.2 fl' (t+1) m'/\Vw fl' aV.2/\cE fl'=aV.2.ap)/\(aV.1≠0->Below lo w0 w')
def zz2(f:Fl.aB)(fs:List Fl.aB):Vx (f::fs)=Vx fs++[.int .u8 (zz1 f:Nat)]:=by simp[Vx]
def zcv(fs:List Fl.aB):(Vx fs).length=fs.length:=by simp[Vx]
def zty(fl:List FlS)(f:FlS):Jt (fl++[f])=Jt fl++Zk f:=by simp[Jt]
section
variable{r':Fl.RS}{fl fl':List FlS}{t':Nat}{m m':Yl}
def Zg.move(h:Zg r fl t m)(e1:r'.au=r.au)(e2:r'.cells=r.cells)(e3:r'.aj=r.aj)(e4:r'.am=r.am)(e5:r'.aM=r.aM)(e6:r'.aG=r.aG)(e7:r'.aZ=r.aZ)(e8:r'.aY=r.aY)(e9:r'.ae=r.ae)
  (hv:∀i,i≠8->i≠10->m'.n i=m.n i/\m'.xs i=m.xs i) (r8:m'.n 8=r'.fr.length/\m'.xs 8=Vx r'.fr) (fO:m'.n 10=fl'.length/\m'.xs 10=Jt fl') (hb:m'.ae=m.ae/\∀n t,zgv m n t->zgv m' n t) (st:m'.ap=r'.ap) (sm:r'.ap<=16) (fr:r'.fr.length<=3) (ht:t<=t') (ft:fl'.length<=t'):Zg r' fl' t' m':=by
 have g:∀i,i≠8->i≠10->∀{k:Nat} {xs:List Value},m.n i=k/\m.xs i=xs->m'.n i=k/\m'.xs i=xs:=λi h1 h2 k xs hh=>⟨(hv i h1 h2).1.trans hh.1,(hv i h1 h2).2.trans hh.2⟩;exact{r1:=by rw[e1];exact g 1 (by decide) (by decide) h.r1,r2:=by rw[e2];exact g 2 (by decide) (by decide) h.r2,r3:=by rw[e3];exact g 3 (by decide) (by decide) h.r3,r4:=by rw[e4];exact g 4 (by decide) (by decide) h.r4,r5:=by rw[e5];exact g 5 (by decide) (by decide) h.r5,r6:=by rw[e6];exact g 6 (by decide) (by decide) h.r6,r8:=r8,fO:=fO,iQ:=by rw[e7];exact g 12 (by decide) (by decide) h.iQ,iI:=by rw[e8];exact g 13 (by decide) (by decide) h.iI,bg:=by rw[hb.1,e9];exact h.bg,st:=st,nm:=by rw[e1,e2,e3,e4];exact h.nm,lv:=by rw[e1];exact h.lv,ce:=by rw[e2];exact h.ce,ch:=by rw[e3];exact h.ch,lo:=by rw[e4];exact h.lo,sm:=sm,fr:=fr,lw:=by rw[e5];have:=h.lw;omega,ft:=ft,pr:=by rw[e5,e6];exact h.pr,bw:=by rw[e1,e5,e6];exact h.bw,cl:=by rw[e7,e2];exact h.cl,hl:=by rw[e8,e3];exact h.hl,lt:=λhh=>by unfold Fl.RS.tab;rw[e1,e5,e6];exact hb.2 _ _ (h.lt (e9.symm.trans hh))}
def Zg.cd(h:Zg r fl t m){f:Fl.aB}{fs:List Fl.aB}(hf:r.fr=f::fs)(hk:f.kind=5)(v8 v':Value):Zg r.cd (fl++[Vt]) (t+1) ((zyy m v8 (m.n 8) (Vx fs++[.int .u8 101])).app 10 v' (Zk Vt)):=by
 have e:r.cd={r with fr:={f with cI:=true}::fs}:=by unfold Fl.RS.cd;rw[hf]
 have h8:=h.r8;rw[hf]at h8;have b0:=h.ft;have a0:=h.fr;rw[hf]at a0;rw[e];refine h.move rfl rfl rfl rfl rfl rfl rfl rfl rfl (λi h1 h2=>?_) ⟨?_,?_⟩ ⟨?_,?_⟩ ⟨rfl,λ_ _ h=>h⟩ h.st h.sm a0 (by omega) (by simp;omega)
 ·show (if i=10 then _ else if i=8 then _ else m.n i)=_/\(if i=10 then _ else if i=8 then _ else m.xs i)=_
  simp[h1,h2]
 ·exact h8.1
 ·show Vx fs++[.int .u8 101]=Vx ({f with cI:=true}::fs)
  rw[zz2];simp[zz1,hk]
 ·show m.n 10+1=_
  rw[h.fO.1];simp
 show m.xs 10++_=_;rw[h.fO.2,zty]
def ends_fr(hf:r.fr=f::fs):r.bE.fr.length=fs.length/\Vx r.bE.fr=Vx fs:=by
 unfold Fl.RS.bE;rw[hf]
 cases fs with
 |nil=>exact⟨rfl,rfl⟩
 |cons g gs=>
  refine⟨rfl,?_⟩;show Vx ((if g.cI then _ else _)::gs)=_;rw[zz2,zz2]
  cases hg:g.cI<;>simp[zz1,hg]
def zb0(hf:r.fr=f::fs):r.bE.au=r.au/\r.bE.cells=r.cells/\r.bE.aj=r.aj/\r.bE.am=r.am/\r.bE.aM=r.aM/\r.bE.aG=r.aG/\r.bE.aZ=r.aZ/\r.bE.aY=r.aY/\r.bE.ae=r.ae/\r.bE.ap=r.ap:=by
 unfold Fl.RS.bE;rw[hf]
 cases fs<;>exact⟨rfl,rfl,rfl,rfl,rfl,rfl,rfl,rfl,rfl,rfl⟩
def Zg.bE(h:Zg r fl t m){f:Fl.aB}{fs:List Fl.aB}(hf:r.fr=f::fs)(v8 v':Value):Zg r.bE (fl++[Xd]) (t+1) ((zyy m v8 fs.length (Vx fs)).app 10 v' (Zk Xd)):=by
 obtain⟨e1,e2,e3,e4,e5,e6,e7,e8,e9,e10⟩:=zb0 hf;obtain⟨f1,f2⟩:=ends_fr hf;have b0:=h.ft;have a0:=h.fr;rw[hf,List.length_cons]at a0;refine h.move e1 e2 e3 e4 e5 e6 e7 e8 e9 (λi h1 h2=>?_) ⟨f1.symm,f2.symm⟩ ⟨?_,?_⟩ ⟨rfl,λ_ _ h=>h⟩ (by rw[e10];exact h.st) (by rw[e10];exact h.sm) (by rw[f1];omega) (by omega) (by simp;omega)
 ·show (if i=10 then _ else if i=8 then _ else m.n i)=_/\(if i=10 then _ else if i=8 then _ else m.xs i)=_
  simp[h1,h2]
 ·show m.n 10+1=_
  rw[h.fO.1];simp
 show m.xs 10++_=_;rw[h.fO.2,zty]
def ywx(s:Fl.aa):(r.put s).au=r.au/\(r.put s).cells=r.cells/\(r.put s).aj=r.aj/\(r.put s).am=r.am/\(r.put s).aM=r.aM/\(r.put s).aG=r.aG/\(r.put s).aZ=r.aZ/\(r.put s).aY=r.aY/\(r.put s).ae=r.ae/\(r.put s).ap=r.ap+1/\(r.put s).fr.length=r.fr.length/\Vx (r.put s).fr=Vx r.fr:=by
 unfold Fl.RS.put
 cases hf:r.fr with
 |nil=>exact⟨rfl,rfl,rfl,rfl,rfl,rfl,rfl,rfl,rfl,rfl,rfl,rfl⟩
 |cons g gs=>
  refine⟨rfl,rfl,rfl,rfl,rfl,rfl,rfl,rfl,rfl,rfl,rfl,?_⟩;show Vx ((if g.cI then _ else _)::gs)=_;rw[zz2,zz2]
  cases hg:g.cI<;>simp[zz1,hg]
def Zg.put(h:Zg r fl t m)(s:Fl.aa)(f:FlS)(hs:r.ap<16)(v':Value):Zg (r.put s) (fl++[f]) (t+1) {m.app 10 v' (Zk f) with ap:=r.ap+1}:=by
 obtain⟨e1,e2,e3,e4,e5,e6,e7,e8,e9,e10,f1,f2⟩:=ywx (r:=r) s;have a0:=h.ft;have b0:=h.fr;refine h.move e1 e2 e3 e4 e5 e6 e7 e8 e9 (λi h1 h2=>?_) ⟨?_,?_⟩ ⟨?_,?_⟩ ⟨rfl,λ_ _ h=>h⟩ (by rw[e10]) (by rw[e10];omega) (by rw[f1];omega) (by omega) (by simp;omega)
 ·show (if i=10 then _ else m.n i)=_/\(if i=10 then _ else m.xs i)=_
  simp[h2]
 ·rw[f1];exact h.r8.1
 ·rw[f2];exact h.r8.2
 ·show m.n 10+1=_
  rw[h.fO.1];simp
 show m.xs 10++_=_;rw[h.fO.2,zty]
def Zg.opens(h:Zg r fl t m)(kind aq:Nat)(e:Fl.dd)(hs:r.ap<16)(hl:r.fr.length<3)(v' v8:Value)(c:Nat)(hc:c=if kind=6 then 119 else 105):Zg (r.opens kind aq e) (fl++[⟨0,⟨kind,0,aq,e,[],[]⟩⟩]) (t+1) ({m.app 10 v' (Zk ⟨0,⟨kind,0,aq,e,[],[]⟩⟩) with ap:=r.ap+1}.app 8 v8 [.int .u8 (c:Nat)]):=by
 have a0:=h.ft;refine h.move rfl rfl rfl rfl rfl rfl rfl rfl rfl (λi h1 h2=>?_) ⟨?_,?_⟩ ⟨?_,?_⟩ ⟨rfl,λ_ _ h=>h⟩ rfl (by show r.ap+1<=16;omega) (by show (_::r.fr).length<=3;simp;omega) (by omega) (by simp;omega)
 ·show (if i=8 then _ else if i=10 then _ else m.n i)=_/\(if i=8 then _ else if i=10 then _ else m.xs i)=_
  simp[h1,h2]
 ·show m.n 8+1=(_::r.fr).length
  rw[h.r8.1];simp
 ·show m.xs 8++_=Vx (_::r.fr)
  rw[h.r8.2,zz2,hc];simp[zz1]
 ·show m.n 10+1=_
  rw[h.fO.1];simp
 show m.xs 10++_=_;rw[h.fO.2,zty]
def gP(ws:List (List UInt8)):(r.head ws).2.bC=r.bC/\(r.head ws).2.fr=r.fr/\(r.head ws).2.ap=r.ap:=by
 unfold Fl.RS.head
 repeat' split
 all_goals exact⟨rfl,rfl,rfl⟩
def Vw.same(h:Vw fl r)(e1:r'.bC=r.bC)(e2:r'.fr=r.fr):Vw fl r':=by
 obtain⟨a,b,h1,h2,h3⟩:=h;exact⟨a,b,h1,by rw[e1];exact h2,by rw[e2];exact h3⟩
def Yk.row{ws:List (List UInt8)}{e:Ending}(hf:Vw fl r)(hc:cE fl=r.ap)(h:Yk lo base Rb Pb w0 fl t (r.head ws) e w'):Xr lo base Rb Pb w0 t (r.head ws) e w':=by
 obtain⟨h1,h2,h3⟩:=h;obtain⟨s1,s2,s3⟩:=gP (r:=r) ws;refine⟨h1,λh0=>?_,h3⟩;obtain⟨m',hm,hr⟩:=h2 h0;exact⟨m',fl,hm,hr,hf.same s1 s2,by rw[s3];exact hc⟩
end
section
variable   {m : Yl}  {fl : List FlS} 
def row_bad (h : Zs lo base Rb Pb w0 w m) (hr : Zg r fl t m) (b off n cap : Nat) (at_ : Int) (x0 : ByteArray) (hn : 1 <= n /\ n <= maxLen) (c0 : w.cell? ⟨b, off, none⟩ = some (.string x0)) (hh : Fl.cB x0.toList = r.ae) :
  Cq 9 #[.pointer (some ⟨Rb, 0, none⟩), .slice (some ⟨b, off, none⟩) n cap, Iq at_] w (Xr lo base Rb Pb w0 t (3, r)) := by
 have x7 : w.cell? ⟨Rb, 7, none⟩ = some (.bool r.ae) := by rw [<- hr.bg]; exact h.cR.c 7 (by omega)
 have a0 : (0 : Int) < (n : Int) := by omega
 have HE : Hid (Xr lo base Rb Pb w0 t (3, r) (.returned (Iq 3)) w) := ⟨rfl, λh => (by cases h), λ_ => h.bel⟩
 rw [<- hh] at x7
 clear h hr hh
 rcases Fl.dZ x0.toList with h | h | h | h | h | h | h | h | h | h | h | h
 all_goals
  obtain ⟨k1, k2, k3, k4, k5, k6, k7, k8, k9, k10, k11⟩ := h
  simp only [Fl.cB, Fl.cT, Fl.bM, Fl.cN, Fl.bu, Fl.cC, k1, k2, k3, k4, k5, Bool.or_true, Bool.true_or, Bool.or_false, Bool.false_or] at x7
  go_enter func9, ntmps9
  go_wp2
  go_ret
  exact HE
def yh9 (h : Zs lo base Rb Pb w0 w m) (hr : Zg r fl t m) (hf : Vw fl r) (hc : cE fl = r.ap) (b off n cap : Nat) (at_ : Int) (x0 : ByteArray) (ws : List (List UInt8)) (hn : 1 <= n /\ n <= maxLen) (c0 : w.cell? ⟨b, off, none⟩ = some (.string x0)) (hh : Fl.cB x0.toList = true) (hb : r.ae = false)
    (b0 : Cq 18 #[.pointer (some ⟨Rb, 0, none⟩), .slice (some ⟨b, off, none⟩) n cap] w (Yk lo base Rb Pb w0 fl t (r.head ws))) :
    Cq 9 #[.pointer (some ⟨Rb, 0, none⟩), .slice (some ⟨b, off, none⟩) n cap, Iq at_] w (Xr lo base Rb Pb w0 t (r.head ws)) := by
  have x7 : w.cell? ⟨Rb, 7, none⟩ = some (.bool false) := by rw [<- hb, <- hr.bg]; exact h.cR.c 7 (by omega)
  have e0 : (0 : Int) < (n : Int) := by omega
  have d0 : Hid (Cq 18 #[.pointer (some ⟨Rb, 0, none⟩), .slice (some ⟨b, off, none⟩) n cap] w (λe w' => (∃ v, e = .returned (Iq v)) /\ Xr lo base Rb Pb w0 t (r.head ws) e w')) := by
    refine b0.mono ?_
    intro e w' he
    exact ⟨⟨_, he.1⟩, he.row hf hc⟩
  obtain ⟨aV, a0⟩ := nmE (r.head ws)
  rw [<- a0] at d0 ⊢
  clear h hr hb hf hc b0 a0
  rcases Fl.dZ x0.toList with h | h | h | h | h | h | h | h | h | h | h | h
  all_goals
    obtain ⟨k1, k2, k3, k4, k5, k6, k7, k8, k9, k10, k11⟩ := h
    simp only [Fl.cB, Fl.cT, Fl.bM, Fl.cN, Fl.bu, Fl.cC, k1, k2, k3, k4, k5, Bool.or_true, Bool.true_or, Bool.or_false, Bool.false_or] at hh
    first
    | (exact absurd hh (by decide))
    | (clear hh
       go_enter func9, ntmps9
       go_wp2_with fail
       refine d0.mono ?_
       rintro e w1 ⟨⟨v, rfl⟩, he⟩
       have HE : Hid _ := he
       clear he
       go_wp2
       go_ret
       exact HE)
end
end Go.Proofs.YtfhpibppblbgcaaGreatDoor
