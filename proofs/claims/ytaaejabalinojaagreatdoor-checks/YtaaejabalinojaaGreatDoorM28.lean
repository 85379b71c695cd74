import Derived.Test.YtaaejabalinojaaGreatDoorM26
import Derived.Test.YtaaejabalinojaaGreatDoorM27
import Derived.Deep.MidRow
set_option linter.all false
set_option maxRecDepth 100000
set_option maxHeartbeats 40000000
namespace Go.Proofs.YtaaejabalinojaaGreatDoor
open Go.RowKit Go.Proofs.Tryz
section
variable{lo base Rb Pb:Nat}{w0 w w':World}{m:Yn}{r:Fl.RS}{fl:List FlS}{t:Nat}
def Zh.addCell(h:Zh r fl t m)(x:List UInt8)(y:Nat)(v v':Value)(hx:x.length<=100000)(hl:r.cells.length<6):Zh {r with cells:=r.cells++[x],cellLv:=r.cellLv++[y]} fl (t+1) ((m.app 2 v [strV x]).app 12 v' [.int .i64 (y:Int)]):=
 {
  r1:=h.r1,r2:=⟨by show m.n 2+1=_;rw[h.r2.1];simp,by show m.xs 2++_=_;rw[h.r2.2];simp⟩,r3:=h.r3,r4:=h.r4,r5:=h.r5,r6:=h.r6,r8:=h.r8,r10:=h.r10,r12:=⟨by show m.n 12+1=_;rw[h.r12.1];simp,by show m.xs 12++_=_;rw[h.r12.2];simp[Yk]⟩,r13:=h.r13,bg:=h.bg,st:=h.st,nm:=λy hy=>by
   simp only[List.mem_append,List.mem_singleton]at hy;rcases hy with h1|(h1|rfl)|h1|h1
   ·exact h.nm y (by simp[h1])
   ·exact h.nm y (by simp[h1])
   ·exact hx
   ·exact h.nm y (by simp[h1])
   exact h.nm y (by simp[h1])
  lv:=h.lv,ce:=by simp;omega,ch:=h.ch,lo:=h.lo,sm:=h.sm,fr:=h.fr,lw:=by have:=h.lw;show r.low.length<=_;omega,ft:=by have:=h.ft;omega,pr:=h.pr,bw:=h.bw,cl:=by have:=h.cl;simp;omega,hl:=h.hl,lt:=h.lt}
def yn8(h:Zu lo base Rb Pb w0 w m)(hr:Zh r fl t m)(b off cap:Nat)(n l:List UInt8)(l1:n.length<=100000)(hb:b<w.heap.size)(Z0:b≠Rb/\∀j,Zt j->(m.v j).ownBlock≠some b)(m1:3<=cap/\cap<=maxLen)(c0:w.cell? ⟨b,off,none⟩=some (.string ⟨#[99,101,108,108]⟩))(c1:w.cell? ⟨b,off+1,none⟩=some (.string ⟨n.toArray⟩))(c2:w.cell? ⟨b,off+2,none⟩=some (.string ⟨l.toArray⟩)):
  Calls prog 29 #[.pointer (some ⟨Rb,0,none⟩),.slice (some ⟨b,off,none⟩) 3 cap] w (Yl lo base Rb Pb w0 fl t (r.head [Fl.wCell,n,l])):=by
 have hba:=h.hba
 have B0:Rb<w.heap.size:=by omega
 have C1:Pb<w.heap.size:=by omega
 have HH:Hid (Zu lo base Rb Pb w0 w m):=h;have HO:Hid (Zh r fl t m):=hr;have K0:Hid (∀W,Below w.heap.size w W->Calls prog 28 #[m.v 1,.string ⟨l.toArray⟩] W λe w'=>e=.returned (.int .i64 (Fl.place r.levels l))/\w'=W):=λW hW=>Yd ((h.below hW).levels hr) l;have L0:Hid (∀W,Below w.heap.size w W->Calls prog 28 #[m.v 2,.string ⟨n.toArray⟩] W λe w'=>e=.returned (.int .i64 (Fl.place r.cells n))/\w'=W):=λW hW=>Yd ((h.below hW).cells hr) n;have M0:Hid (∀W,Below w.heap.size w W->Calls prog 28 #[m.v 3,.string ⟨n.toArray⟩] W λe w'=>e=.returned (.int .i64 (Fl.place r.chans n))/\w'=W):=λW hW=>Yd ((h.below hW).chans hr) n;obtain⟨d1,k1,C0⟩:=h.shape 1 (by unfold Zt;omega);rw[hr.r1.1]at C0;obtain⟨d2,k2,j0⟩:=h.shape 2 (by unfold Zt;omega);rw[hr.r2.1]at j0;obtain⟨d3,k3,D0⟩:=h.shape 3 (by unfold Zt;omega);rw[hr.r3.1]at D0;obtain⟨dl,kl,N0⟩:=h.shape 12 (by unfold Zt;omega);rw[hr.r12.1]at N0;rw[C0]at K0;rw[j0]at L0;rw[D0]at M0;have O0:Hid (m.v 2=.slice d2 r.cells.length k2):=j0;have P0:Hid (m.v 12=.slice dl r.cellLv.length kl):=N0;have k0:Hid (∀W,Below w.heap.size w W->W.cell? ⟨Rb,1,none⟩=some (.slice d1 r.levels.length k1)/\W.cell? ⟨Rb,2,none⟩=some (.slice d2 r.cells.length k2)/\W.cell? ⟨Rb,3,none⟩=some (.slice d3 r.chans.length k3)/\W.cell? ⟨b,off+1,none⟩=some (.string ⟨n.toArray⟩)/\W.cell? ⟨b,off+2,none⟩=some (.string ⟨l.toArray⟩)):=λW hW=>⟨(hW.cell (p:=⟨Rb,1,none⟩) B0).trans (by rw[<-C0];exact h.cR.c 1 (by omega)),(hW.cell (p:=⟨Rb,2,none⟩) B0).trans (by rw[<-j0];exact h.cR.c 2 (by omega)),(hW.cell (p:=⟨Rb,3,none⟩) B0).trans (by rw[<-D0];exact h.cR.c 3 (by omega)),(hW.cell (p:=⟨b,off+1,none⟩) hb).trans c1,(hW.cell (p:=⟨b,off+2,none⟩) hb).trans c2⟩
 have a1:Hid (∀W,Below w.heap.size w W->W.ownsRow base 9 1 (.slice d2 r.cells.length k2) r.cells.length (r.cells.map strV)):=λW hW=>by
  have h1:=(h.below hW).own 2 (by unfold Zt;omega);rw[hr.r2.1,hr.r2.2,j0]at h1;exact h1
 have a0:Hid (r.head [Fl.wCell,n,l]=if Fl.place r.levels l<0\/0<=Fl.place r.cells n\/0<=Fl.place r.chans n then(4,r) else if r.cells.length=6 then(5,r) else(0,{r with cells:=r.cells++[n],cellLv:=r.cellLv++[(Fl.place r.levels l).toNat]})):=by show _=_;simp[Fl.RS.head,Fl.wCell,Fl.wBelow,Fl.wChannel]
 obtain⟨res,n0⟩:=nmE (r.head [Fl.wCell,n,l]);rw[<-n0]at a0⊢;have n1:=Fl.place_cases r.levels l;have o1:=Fl.place_cases r.cells n;have p1:=Fl.place_cases r.chans n;have D1:=hr.lv;have E1:=hr.ce;have F1:=hr.ch
 have hlen:r.cellLv.length<=6:=by have:=hr.cl;have:=hr.hl;omega
 generalize Fl.place r.levels l=pa at*;generalize Fl.place r.cells n=pb at*;generalize Fl.place r.chans n=pe at*
 have b1:(3:Int)<=(cap:Int):=by omega
 have q1: -1<=pa/\pa<=6:=by omega
 have s1: -1<=pb/\pb<=6:=by omega
 have t1: -1<=pe/\pe<=6:=by omega
 have u1:(r.levels.length:Int)<=6:=by omega
 have v1:(r.cells.length:Int)<=6:=by omega
 have A1:(r.chans.length:Int)<=3:=by omega
 have i1:Hid ((Value.slice d2 r.cells.length k2).ownBlock≠some b):=by rw[<-j0];exact Z0.2 2 (by unfold Zt;omega)
 clear h hr n0 C0 j0 D0 N0 c1 c2 Z0 n1 o1 p1
 go_enter func29,ntmps29
 go_wp2_with fail
 refine Zi (λW=>Below w.heap.size w W) [7] [] [] (Below.refl _ _).drew (by kernel_rfl) (λc a d v w h=>by cases d<;>exact h) (λops hG=>?_);clear hG
 iterate 7 refine Xn rfl (kE (by intro w' hw';obtain⟨x1,x2,x3,x4,x5⟩:=k0.out w' hw';clear hw';go_simp<;>rfl) (by go_simp<;>rfl) ?_)
 refine Zk ?_
 go_wp2_with fail
 refine(K0.out _ (Below.refl _ _).drew).mono ?_;rintro e w1 ⟨rfl,h0⟩;rw[h0];clear h0 w1
 go_wp2_with fail
 refine⟨(Below.refl _ _).drew,?_⟩;refine Zw rfl (by rintro _ -;go_simp<;>rfl) (by go_simp<;>rfl) ?_;refine Zs ?_
 go_wp2_with fail
 refine Zi (λW=>Below w.heap.size w W) [7] [] [] (Below.refl _ _).drew.drew (by kernel_rfl) (λc a d v w h=>by cases d<;>exact h) (λops hG=>?_);clear hG
 iterate 7 refine Xn rfl (kE (by intro w' hw';obtain⟨x1,x2,x3,x4,x5⟩:=k0.out w' hw';clear hw';go_simp<;>rfl) (by go_simp<;>rfl) ?_)
 refine Zk ?_
 go_wp2_with fail
 refine(L0.out _ (Below.refl _ _).drew.drew).mono ?_;rintro e w1 ⟨rfl,h0⟩;rw[h0];clear h0 w1
 go_wp2_with fail
 refine⟨(Below.refl _ _).drew.drew,?_⟩;refine Zw rfl (by rintro _ -;go_simp<;>rfl) (by go_simp<;>rfl) ?_;refine Zs ?_
 go_wp2_with fail
 refine Zi (λW=>Below w.heap.size w W) [7] [] [] (Below.refl _ _).drew.drew.drew (by kernel_rfl) (λc a d v w h=>by cases d<;>exact h) (λops hG=>?_);clear hG
 iterate 7 refine Xn rfl (kE (by intro w' hw';obtain⟨x1,x2,x3,x4,x5⟩:=k0.out w' hw';clear hw';go_simp<;>rfl) (by go_simp<;>rfl) ?_)
 refine Zk ?_
 go_wp2_with fail
 refine(M0.out _ (Below.refl _ _).drew.drew.drew).mono ?_;rintro e w1 ⟨rfl,h0⟩;rw[h0];clear h0 w1
 go_wp2_with fail
 refine⟨(Below.refl _ _).drew.drew.drew,?_⟩;refine Zw rfl (by rintro _ -;go_simp<;>rfl) (by go_simp<;>rfl) ?_;refine Zs ?_;have z0:w.cell? ⟨b,off,none⟩=some (.string ⟨#[99,101,108,108]⟩):=c0;have E0:Hid (pa<0\/0<=pb\/0<=pe->Yl lo base Rb Pb w0 fl t res (.returned (.int .i64 4)) w.drew.drew.drew):=by
  show _->Yl _ _ _ _ _ _ _ _ _ _;intro hh;rw[a0.out,if_pos hh];exact⟨rfl,λh=>(by cases h),λ_=>HH.out.drew.drew.drew.bel⟩
 by_cases hp:pa<0
 ·go_wp2
  go_ret;exact E0.out (.inl hp)
 have G1:0<=pa:=by omega
 clear hp
 by_cases hq:0<=pb
 ·go_wp2
  go_ret;exact E0.out (.inr (.inl hq))
 have H1:pb<0:=by omega
 clear hq
 by_cases hq:0<=pe
 ·go_wp2
  go_ret;exact E0.out (.inr (.inr hq))
 have I1:pe<0:=by omega
 clear hq E0;obtain⟨x1,x2,x3,x4,x5⟩:=k0.out w.drew.drew.drew (Below.refl _ _).drew.drew.drew
 by_cases h6:r.cells.length=6
 ·have b6:((r.cells.length:Int)==6)=true:=by simp[h6]
  have HE:Hid (Yl lo base Rb Pb w0 fl t res (.returned (.int .i64 5)) w.drew.drew.drew):=by
   show Yl _ _ _ _ _ _ _ _ _ _;rw[a0.out,if_neg (by omega),if_pos h6];exact⟨rfl,λh=>(by cases h),λ_=>HH.out.drew.drew.drew.bel⟩
  clear h6;go_wp2;go_ret;exact HE.out
 have b6:((r.cells.length:Int)==6)=false:=by simp;omega
 have HR:Hid (res=(0,{r with cells:=r.cells++[n],cellLv:=r.cellLv++[pa.toNat]})):=by show _=_;rw[a0.out,if_neg (by omega),if_neg h6]
 have B1:r.cells.length<6:=by omega
 clear h6 K0 L0 M0 a0
 go_wp2_with fail
 refine Zi (λW=>W.cell? ⟨Rb,2,none⟩=some (.slice d2 r.cells.length k2)/\W.cell? ⟨b,off+1,none⟩=some (.string ⟨n.toArray⟩)) [8,9,10] [12] [] ⟨x2,x4⟩ (by kernel_rfl) (λc a d v w h=>by cases d<;>exact h) (λops hG=>?_);clear hG
 iterate 8 refine Zw rfl (by rintro _ ⟨z0,z1⟩;go_simp<;>rfl) (by go_simp<;>rfl) ?_
 refine Zk ?_
 go_wp2_with fail
 obtain⟨W3,o0⟩:=nmE ((w.alloc (.cells #[.string ⟨n.toArray⟩] 9)).drew.drew.drew.drew);obtain⟨tb,Q0⟩:=nmE (w.heap.size)
 have p0:Below w.heap.size w W3:=by rw[o0];exact(bA).drew.drew.drew.drew
 have J1:w.heap.size+1=W3.heap.size:=by rw[o0];simp
 have t0:∀i u,([.string ⟨n.toArray⟩]:List Value)[i]?=some u->W3.cell? ((⟨tb,0,none⟩:Addr).add i)=some u:=by rw[o0,Q0];exact Xw
 have e0:W3.cell? ⟨Rb,2,none⟩=some (.slice d2 r.cells.length k2):=by have:=k0.out W3 p0;exact this.2.1
 have e1:W3.cell? ⟨b,off+1,none⟩=some (.string ⟨n.toArray⟩):=(k0.out W3 p0).2.2.2.1;have R0:Hid (W3.ownsRow base 9 1 (.slice d2 r.cells.length k2) r.cells.length (r.cells.map strV)):=a1.out W3 p0;have S0:Hid (Below w.heap.size w W3):=p0;rw[<-o0,<-Q0];clear o0 Q0 p0 x1 x2 x3 x4 x5 a1 k0;refine⟨⟨e0,e1⟩,?_⟩;refine Zk ?_;obtain⟨i0,F0,G0,H0,I0⟩:=info_parts Tryz.infoStr
 go_wp2_with (at_builtin;refine Zj _ rfl (.tmp 149) (.tmp 153) 41 rfl base 9 i0 (.string ⟨#[]⟩) 1 16 underlying41 F0 G0 H0 I0 rfl (by decide) _ _ _ rfl R0.out ⟨tb,0,none⟩ 1 1 [.string ⟨n.toArray⟩] rfl rfl (by decide) t0 ?c2 ?c3 ?c4 ?c5 ?_)
 case c2=>intro u hu;simp at hu;subst hu;rfl
 case c3=>unfold maxLen;omega
 case c4=>omega
 case c5=>omega
 intro v' W4 b0 q0 r0;obtain⟨va,vcap,rfl⟩:∃va vcap,v'=.slice va (r.cells.length+1) vcap:=by
  rcases b0.2 with⟨h1,h2⟩|⟨g,cp,cur,h1,_⟩
  ·omega
  exact⟨_,cp,h1⟩
 have s0:∀k,(Value.slice d2 r.cells.length k2).ownBlock=some k->base<=k/\k<w.heap.size+1:=λk hk=>by have:=R0.out.lt k hk;omega
 have m0:W4.heap[Rb]?=W3.heap[Rb]?:=q0.block Rb (by omega) (λhh=>by have:=(s0 Rb hh.symm).1;omega);have j1:W4.heap[b]?=W3.heap[b]?:=q0.block b (by omega) (λhh=>i1.out hh.symm);have g0:W4.cell? ⟨Rb,2,none⟩=some (.slice d2 r.cells.length k2):=(Qc (a:=⟨Rb,2,none⟩) m0).trans e0;have g1:W4.cell? ⟨b,off+1,none⟩=some (.string ⟨n.toArray⟩):=(Qc (a:=⟨b,off+1,none⟩) j1).trans e1;have gz:W4.frozen? ⟨Rb,2,none⟩=false:=(Qd (a:=⟨Rb,2,none⟩) m0).trans ((S0.out.frozen (p:=⟨Rb,2,none⟩) B0).trans (HH.out.cR.z 2))
 have K1:w.heap.size+1<=W4.heap.size:=by have:=q0.size;omega
 have H5:Hid (Zu lo base Rb Pb w0 (W4.setCell ⟨Rb,2,none⟩ (.slice va (r.cells.length+1) vcap)) (m.app 2 (.slice va (r.cells.length+1) vcap) [strV n])):=by
  refine HH.out.appR 2 (by unfold Zt;omega) (by omega) S0.out (v':=.slice va (r.cells.length+1) vcap) (news:=[strV n]) ?_ ?_ ?_
  ·rw[HO.out.r2.1,HO.out.r2.2];exact b0
  ·rw[O0.out];exact q0
  rw[O0.out];exact r0
 clear b0 q0 r0 m0 j1 e0 e1 t0 R0 S0 s0 O0 HH i1
 go_wp2_with fail
 refine⟨⟨g0,g1⟩,?_⟩;refine Zk ?_
 go_wp2_with fail
 refine⟨⟨g0,g1⟩,?_⟩;refine Zw rfl (by rintro _ ⟨z0,z1⟩;go_simp<;>rfl) (by go_simp<;>rfl) ?_;refine Xm ?_
 go_wp2_with fail
 refine Zs ?_;obtain⟨W5,T0⟩:=nmE (W4.setCell ⟨Rb,2,none⟩ (.slice va (r.cells.length+1) vcap));rw[<-T0]at H5⊢
 have L1:w.heap.size+1<=W5.heap.size:=by rw[T0,Zy];omega
 clear T0 g0 g1 gz;have y0:W5.cell? ⟨Rb,0,none⟩=some (.pointer (some ⟨Pb,0,none⟩)):=H5.out.cR.c 0 (by omega)
 have y1:W5.cell? ⟨Pb,2,none⟩=some (.slice dl r.cellLv.length kl):=by rw[<-P0.out];exact H5.out.cP.c 2 (by omega)
 go_wp2_with fail
 refine Zi (λW=>W.cell? ⟨Rb,0,none⟩=some (.pointer (some ⟨Pb,0,none⟩))/\W.cell? ⟨Pb,2,none⟩=some (.slice dl r.cellLv.length kl)) [12,13,14] [16] [] ⟨y0,y1⟩ (by kernel_rfl) (λc a d v w h=>by cases d<;>exact h) (λops hG=>?_);clear hG
 iterate 12 refine Zw rfl (by rintro _ ⟨z0,z1⟩;go_simp<;>rfl) (by go_simp<;>rfl) ?_
 refine Zk ?_
 go_wp2_with fail
 obtain⟨W6,v0⟩:=nmE ((W5.alloc (.cells #[.int .i64 pa] 3)).drew);obtain⟨ub,U0⟩:=nmE (W5.heap.size)
 have x0:Below W5.heap.size W5 W6:=by rw[v0];exact(bA).drew
 have M1:W5.heap.size+1=W6.heap.size:=by rw[v0];simp
 have u0:∀i u,([.int .i64 pa]:List Value)[i]?=some u->W6.cell? ((⟨ub,0,none⟩:Addr).add i)=some u:=by rw[v0,U0];exact Xw
 have f0:W6.cell? ⟨Rb,0,none⟩=some (.pointer (some ⟨Pb,0,none⟩)):=(x0.cell (p:=⟨Rb,0,none⟩) (by show Rb<_;omega)).trans y0;have f1:W6.cell? ⟨Pb,2,none⟩=some (.slice dl r.cellLv.length kl):=(x0.cell (p:=⟨Pb,2,none⟩) (by show Pb<_;omega)).trans y1;have E2:Hid ((m.app 2 (.slice va (r.cells.length+1) vcap) [strV n]).v 12=.slice dl r.cellLv.length kl):=P0.out;have E3:Hid ((m.app 2 (.slice va (r.cells.length+1) vcap) [strV n]).n 12=r.cellLv.length):=HO.out.r12.1;have E4:Hid ((m.app 2 (.slice va (r.cells.length+1) vcap) [strV n]).xs 12=Yk r.cellLv):=HO.out.r12.2;have V0:Hid (W6.ownsRow base 3 1 (.slice dl r.cellLv.length kl) r.cellLv.length (Yk r.cellLv)):=by
  have h1:=(H5.out.below x0).own 12 (by unfold Zt;omega);rw[E2.out,E3.out,E4.out]at h1;exact h1
 have W0:Hid (Below W5.heap.size W5 W6):=x0;rw[<-v0,<-U0];clear v0 U0 x0 y0 y1;refine⟨⟨f0,f1⟩,?_⟩;refine Zk ?_;clear F0 G0 H0 I0 i0;obtain⟨i0,F0,G0,H0,I0⟩:=info_parts Tryz.infoIntP
 go_wp2_with (at_builtin;refine Zj _ rfl (.tmp 167) (.tmp 169) 30 rfl base 3 i0 (.int .i64 0) 1 8 underlying30 F0 G0 H0 I0 rfl (by decide) _ _ _ rfl V0.out ⟨ub,0,none⟩ 1 1 [.int .i64 pa] rfl rfl (by decide) u0 ?d2 ?d3 ?d4 ?d5 ?_)
 case d2=>intro u hu;simp at hu;subst hu;rfl
 case d3=>unfold maxLen;omega
 case d4=>omega
 case d5=>omega
 intro v7 W7 d0 J0 A0;obtain⟨vb,vcbp,rfl⟩:∃va vcap,v7=.slice va (r.cellLv.length+1) vcap:=by
  rcases d0.2 with⟨h1,h2⟩|⟨g,cp,cur,h1,_⟩
  ·omega
  exact⟨_,cp,h1⟩
 have l0:∀k,(Value.slice dl r.cellLv.length kl).ownBlock=some k->base<=k:=λk hk=>(V0.out.lt k hk).1;have m0:W7.heap[Rb]?=W6.heap[Rb]?:=J0.block Rb (by omega) (λhh=>by have:=l0 Rb hh.symm;omega);have X0:W7.heap[Pb]?=W6.heap[Pb]?:=J0.block Pb (by omega) (λhh=>by have:=l0 Pb hh.symm;omega);have g0:W7.cell? ⟨Rb,0,none⟩=some (.pointer (some ⟨Pb,0,none⟩)):=(Qc (a:=⟨Rb,0,none⟩) m0).trans f0;have g1:W7.cell? ⟨Pb,2,none⟩=some (.slice dl r.cellLv.length kl):=(Qc (a:=⟨Pb,2,none⟩) X0).trans f1;have gz:W7.frozen? ⟨Pb,2,none⟩=false:=(Qd (a:=⟨Pb,2,none⟩) X0).trans ((W0.out.frozen (p:=⟨Pb,2,none⟩) (by show Pb<_;omega)).trans (H5.out.cP.z 2));have Y0:Hid (Yl lo base Rb Pb w0 fl t res (.returned (.int .i64 0)) (W7.setCell ⟨Pb,2,none⟩ (.slice vb (r.cellLv.length+1) vcbp))):=by
  show Yl _ _ _ _ _ _ _ _ _ _;rw[HR.out];have ea:(pa.toNat:Int)=pa:=(by omega);refine⟨rfl,λ_=>⟨_,H5.out.appP 12 (by unfold Zt;omega) (by omega) W0.out (v':=.slice vb (r.cellLv.length+1) vcbp) (news:=[.int .i64 (pa.toNat:Int)]) ?_ ?_ ?_,HO.out.addCell n pa.toNat _ _ l1 B1⟩,λhh=>absurd rfl hh⟩
  ·rw[ea,E3.out,E4.out];exact d0
  ·rw[E2.out];exact J0
  rw[E2.out];exact A0
 clear d0 J0 A0 m0 X0 f0 f1 u0 V0 W0 l0 P0 H5 HO HR E2 E3 E4
 go_wp2_with fail
 refine⟨⟨g0,g1⟩,?_⟩;refine Zk ?_
 go_wp2_with fail
 refine⟨⟨g0,g1⟩,?_⟩;refine Zw rfl (by rintro _ ⟨z0,z1⟩;go_simp<;>rfl) (by go_simp<;>rfl) ?_;refine Xm ?_
 go_wp2_with fail
 refine Zs ?_;go_wp2;go_ret;exact Y0.out
end
section
variable{lo base Rb Pb:Nat}{w0 w w':World}{m:Yn}{r:Fl.RS}{fl:List FlS}{t:Nat}
def Zh.addChan(h:Zh r fl t m)(x:List UInt8)(y:Nat)(v v':Value)(hx:x.length<=100000)(hl:r.chans.length<3):Zh {r with chans:=r.chans++[x],chanLv:=r.chanLv++[y]} fl (t+1) ((m.app 3 v [strV x]).app 13 v' [.int .i64 (y:Int)]):=
 {
  r1:=h.r1,r2:=h.r2,r3:=⟨by show m.n 3+1=_;rw[h.r3.1];simp,by show m.xs 3++_=_;rw[h.r3.2];simp⟩,r4:=h.r4,r5:=h.r5,r6:=h.r6,r8:=h.r8,r10:=h.r10,r12:=h.r12,r13:=⟨by show m.n 13+1=_;rw[h.r13.1];simp,by show m.xs 13++_=_;rw[h.r13.2];simp[Yk]⟩,bg:=h.bg,st:=h.st,nm:=λy hy=>by
   simp only[List.mem_append,List.mem_singleton]at hy;rcases hy with h1|h1|(h1|rfl)|h1
   ·exact h.nm y (by simp[h1])
   ·exact h.nm y (by simp[h1])
   ·exact h.nm y (by simp[h1])
   ·exact hx
   exact h.nm y (by simp[h1])
  lv:=h.lv,ce:=h.ce,ch:=by simp;omega,lo:=h.lo,sm:=h.sm,fr:=h.fr,lw:=by have:=h.lw;show r.low.length<=_;omega,ft:=by have:=h.ft;omega,pr:=h.pr,bw:=h.bw,cl:=h.cl,hl:=by have:=h.hl;simp;omega,lt:=h.lt}
def yz4(h:Zu lo base Rb Pb w0 w m)(hr:Zh r fl t m)(b off cap:Nat)(n l:List UInt8)(l1:n.length<=100000)(hb:b<w.heap.size)(Z0:b≠Rb/\∀j,Zt j->(m.v j).ownBlock≠some b)(m1:3<=cap/\cap<=maxLen)(c0:w.cell? ⟨b,off,none⟩=some (.string ⟨#[99,104,97,110,110,101,108]⟩))(c1:w.cell? ⟨b,off+1,none⟩=some (.string ⟨n.toArray⟩))(c2:w.cell? ⟨b,off+2,none⟩=some (.string ⟨l.toArray⟩)):
  Calls prog 29 #[.pointer (some ⟨Rb,0,none⟩),.slice (some ⟨b,off,none⟩) 3 cap] w (Yl lo base Rb Pb w0 fl t (r.head [Fl.wChannel,n,l])):=by
 have hba:=h.hba
 have B0:Rb<w.heap.size:=by omega
 have C1:Pb<w.heap.size:=by omega
 have HH:Hid (Zu lo base Rb Pb w0 w m):=h;have HO:Hid (Zh r fl t m):=hr;have K0:Hid (∀W,Below w.heap.size w W->Calls prog 28 #[m.v 1,.string ⟨l.toArray⟩] W λe w'=>e=.returned (.int .i64 (Fl.place r.levels l))/\w'=W):=λW hW=>Yd ((h.below hW).levels hr) l;have L0:Hid (∀W,Below w.heap.size w W->Calls prog 28 #[m.v 2,.string ⟨n.toArray⟩] W λe w'=>e=.returned (.int .i64 (Fl.place r.cells n))/\w'=W):=λW hW=>Yd ((h.below hW).cells hr) n;have M0:Hid (∀W,Below w.heap.size w W->Calls prog 28 #[m.v 3,.string ⟨n.toArray⟩] W λe w'=>e=.returned (.int .i64 (Fl.place r.chans n))/\w'=W):=λW hW=>Yd ((h.below hW).chans hr) n;obtain⟨d1,k1,C0⟩:=h.shape 1 (by unfold Zt;omega);rw[hr.r1.1]at C0;obtain⟨d2,k2,D0⟩:=h.shape 2 (by unfold Zt;omega);rw[hr.r2.1]at D0;obtain⟨d3,k3,j0⟩:=h.shape 3 (by unfold Zt;omega);rw[hr.r3.1]at j0;obtain⟨dl,kl,N0⟩:=h.shape 13 (by unfold Zt;omega);rw[hr.r13.1]at N0;rw[C0]at K0;rw[D0]at L0;rw[j0]at M0;have O0:Hid (m.v 3=.slice d3 r.chans.length k3):=j0;have P0:Hid (m.v 13=.slice dl r.chanLv.length kl):=N0;have k0:Hid (∀W,Below w.heap.size w W->W.cell? ⟨Rb,1,none⟩=some (.slice d1 r.levels.length k1)/\W.cell? ⟨Rb,2,none⟩=some (.slice d2 r.cells.length k2)/\W.cell? ⟨Rb,3,none⟩=some (.slice d3 r.chans.length k3)/\W.cell? ⟨b,off+1,none⟩=some (.string ⟨n.toArray⟩)/\W.cell? ⟨b,off+2,none⟩=some (.string ⟨l.toArray⟩)):=λW hW=>⟨(hW.cell (p:=⟨Rb,1,none⟩) B0).trans (by rw[<-C0];exact h.cR.c 1 (by omega)),(hW.cell (p:=⟨Rb,2,none⟩) B0).trans (by rw[<-D0];exact h.cR.c 2 (by omega)),(hW.cell (p:=⟨Rb,3,none⟩) B0).trans (by rw[<-j0];exact h.cR.c 3 (by omega)),(hW.cell (p:=⟨b,off+1,none⟩) hb).trans c1,(hW.cell (p:=⟨b,off+2,none⟩) hb).trans c2⟩
 have a1:Hid (∀W,Below w.heap.size w W->W.ownsRow base 9 1 (.slice d3 r.chans.length k3) r.chans.length (r.chans.map strV)):=λW hW=>by
  have h1:=(h.below hW).own 3 (by unfold Zt;omega);rw[hr.r3.1,hr.r3.2,j0]at h1;exact h1
 have a0:Hid (r.head [Fl.wChannel,n,l]=if Fl.place r.levels l<0\/0<=Fl.place r.cells n\/0<=Fl.place r.chans n then(4,r) else if r.chans.length=3 then(5,r) else(0,{r with chans:=r.chans++[n],chanLv:=r.chanLv++[(Fl.place r.levels l).toNat]})):=by show _=_;simp[Fl.RS.head,Fl.wCell,Fl.wBelow,Fl.wChannel]
 obtain⟨res,n0⟩:=nmE (r.head [Fl.wChannel,n,l]);rw[<-n0]at a0⊢;have n1:=Fl.place_cases r.levels l;have o1:=Fl.place_cases r.cells n;have p1:=Fl.place_cases r.chans n;have D1:=hr.lv;have E1:=hr.ce;have F1:=hr.ch
 have hlen:r.chanLv.length<=6:=by have:=hr.cl;have:=hr.hl;omega
 generalize Fl.place r.levels l=pa at*;generalize Fl.place r.cells n=pb at*;generalize Fl.place r.chans n=pe at*
 have b1:(3:Int)<=(cap:Int):=by omega
 have q1: -1<=pa/\pa<=6:=by omega
 have s1: -1<=pb/\pb<=6:=by omega
 have t1: -1<=pe/\pe<=6:=by omega
 have u1:(r.levels.length:Int)<=6:=by omega
 have v1:(r.cells.length:Int)<=6:=by omega
 have A1:(r.chans.length:Int)<=3:=by omega
 have i1:Hid ((Value.slice d3 r.chans.length k3).ownBlock≠some b):=by rw[<-j0];exact Z0.2 3 (by unfold Zt;omega)
 clear h hr n0 C0 D0 j0 N0 c1 c2 Z0 n1 o1 p1
 go_enter func29,ntmps29
 go_wp2_with fail
 refine Zi (λW=>Below w.heap.size w W) [7] [] [] (Below.refl _ _).drew (by kernel_rfl) (λc a d v w h=>by cases d<;>exact h) (λops hG=>?_);clear hG
 iterate 7 refine Xn rfl (kE (by intro w' hw';obtain⟨x1,x2,x3,x4,x5⟩:=k0.out w' hw';clear hw';go_simp<;>rfl) (by go_simp<;>rfl) ?_)
 refine Zk ?_
 go_wp2_with fail
 refine(K0.out _ (Below.refl _ _).drew).mono ?_;rintro e w1 ⟨rfl,h0⟩;rw[h0];clear h0 w1
 go_wp2_with fail
 refine⟨(Below.refl _ _).drew,?_⟩;refine Zw rfl (by rintro _ -;go_simp<;>rfl) (by go_simp<;>rfl) ?_;refine Zs ?_
 go_wp2_with fail
 refine Zi (λW=>Below w.heap.size w W) [7] [] [] (Below.refl _ _).drew.drew (by kernel_rfl) (λc a d v w h=>by cases d<;>exact h) (λops hG=>?_);clear hG
 iterate 7 refine Xn rfl (kE (by intro w' hw';obtain⟨x1,x2,x3,x4,x5⟩:=k0.out w' hw';clear hw';go_simp<;>rfl) (by go_simp<;>rfl) ?_)
 refine Zk ?_
 go_wp2_with fail
 refine(L0.out _ (Below.refl _ _).drew.drew).mono ?_;rintro e w1 ⟨rfl,h0⟩;rw[h0];clear h0 w1
 go_wp2_with fail
 refine⟨(Below.refl _ _).drew.drew,?_⟩;refine Zw rfl (by rintro _ -;go_simp<;>rfl) (by go_simp<;>rfl) ?_;refine Zs ?_
 go_wp2_with fail
 refine Zi (λW=>Below w.heap.size w W) [7] [] [] (Below.refl _ _).drew.drew.drew (by kernel_rfl) (λc a d v w h=>by cases d<;>exact h) (λops hG=>?_);clear hG
 iterate 7 refine Xn rfl (kE (by intro w' hw';obtain⟨x1,x2,x3,x4,x5⟩:=k0.out w' hw';clear hw';go_simp<;>rfl) (by go_simp<;>rfl) ?_)
 refine Zk ?_
 go_wp2_with fail
 refine(M0.out _ (Below.refl _ _).drew.drew.drew).mono ?_;rintro e w1 ⟨rfl,h0⟩;rw[h0];clear h0 w1
 go_wp2_with fail
 refine⟨(Below.refl _ _).drew.drew.drew,?_⟩;refine Zw rfl (by rintro _ -;go_simp<;>rfl) (by go_simp<;>rfl) ?_;refine Zs ?_;have z0:w.cell? ⟨b,off,none⟩=some (.string ⟨#[99,104,97,110,110,101,108]⟩):=c0;have E0:Hid (pa<0\/0<=pb\/0<=pe->Yl lo base Rb Pb w0 fl t res (.returned (.int .i64 4)) w.drew.drew.drew):=by
  show _->Yl _ _ _ _ _ _ _ _ _ _;intro hh;rw[a0.out,if_pos hh];exact⟨rfl,λh=>(by cases h),λ_=>HH.out.drew.drew.drew.bel⟩
 by_cases hp:pa<0
 ·go_wp2
  go_ret;exact E0.out (.inl hp)
 have G1:0<=pa:=by omega
 clear hp
 by_cases hq:0<=pb
 ·go_wp2
  go_ret;exact E0.out (.inr (.inl hq))
 have H1:pb<0:=by omega
 clear hq
 by_cases hq:0<=pe
 ·go_wp2
  go_ret;exact E0.out (.inr (.inr hq))
 have I1:pe<0:=by omega
 clear hq E0;obtain⟨x1,x2,x3,x4,x5⟩:=k0.out w.drew.drew.drew (Below.refl _ _).drew.drew.drew
 by_cases h6:r.chans.length=3
 ·have b6:((r.chans.length:Int)==3)=true:=by simp[h6]
  have HE:Hid (Yl lo base Rb Pb w0 fl t res (.returned (.int .i64 5)) w.drew.drew.drew):=by
   show Yl _ _ _ _ _ _ _ _ _ _;rw[a0.out,if_neg (by omega),if_pos h6];exact⟨rfl,λh=>(by cases h),λ_=>HH.out.drew.drew.drew.bel⟩
  clear h6;go_wp2;go_ret;exact HE.out
 have b6:((r.chans.length:Int)==3)=false:=by simp;omega
 have HR:Hid (res=(0,{r with chans:=r.chans++[n],chanLv:=r.chanLv++[pa.toNat]})):=by show _=_;rw[a0.out,if_neg (by omega),if_neg h6]
 have B1:r.chans.length<3:=by omega
 clear h6 K0 L0 M0 a0
 go_wp2_with fail
 refine Zi (λW=>W.cell? ⟨Rb,3,none⟩=some (.slice d3 r.chans.length k3)/\W.cell? ⟨b,off+1,none⟩=some (.string ⟨n.toArray⟩)) [8,9,10] [12] [] ⟨x3,x4⟩ (by kernel_rfl) (λc a d v w h=>by cases d<;>exact h) (λops hG=>?_);clear hG
 iterate 8 refine Zw rfl (by rintro _ ⟨z0,z1⟩;go_simp<;>rfl) (by go_simp<;>rfl) ?_
 refine Zk ?_
 go_wp2_with fail
 obtain⟨W3,o0⟩:=nmE ((w.alloc (.cells #[.string ⟨n.toArray⟩] 9)).drew.drew.drew.drew);obtain⟨tb,Q0⟩:=nmE (w.heap.size)
 have p0:Below w.heap.size w W3:=by rw[o0];exact(bA).drew.drew.drew.drew
 have J1:w.heap.size+1=W3.heap.size:=by rw[o0];simp
 have t0:∀i u,([.string ⟨n.toArray⟩]:List Value)[i]?=some u->W3.cell? ((⟨tb,0,none⟩:Addr).add i)=some u:=by rw[o0,Q0];exact Xw
 have e0:W3.cell? ⟨Rb,3,none⟩=some (.slice d3 r.chans.length k3):=by have:=k0.out W3 p0;exact this.2.2.1
 have e1:W3.cell? ⟨b,off+1,none⟩=some (.string ⟨n.toArray⟩):=(k0.out W3 p0).2.2.2.1;have R0:Hid (W3.ownsRow base 9 1 (.slice d3 r.chans.length k3) r.chans.length (r.chans.map strV)):=a1.out W3 p0;have S0:Hid (Below w.heap.size w W3):=p0;rw[<-o0,<-Q0];clear o0 Q0 p0 x1 x2 x3 x4 x5 a1 k0;refine⟨⟨e0,e1⟩,?_⟩;refine Zk ?_;obtain⟨i0,F0,G0,H0,I0⟩:=info_parts Tryz.infoStr
 go_wp2_with (at_builtin;refine Zj _ rfl (.tmp 183) (.tmp 187) 41 rfl base 9 i0 (.string ⟨#[]⟩) 1 16 underlying41 F0 G0 H0 I0 rfl (by decide) _ _ _ rfl R0.out ⟨tb,0,none⟩ 1 1 [.string ⟨n.toArray⟩] rfl rfl (by decide) t0 ?c2 ?c3 ?c4 ?c5 ?_)
 case c2=>intro u hu;simp at hu;subst hu;rfl
 case c3=>unfold maxLen;omega
 case c4=>omega
 case c5=>omega
 intro v' W4 b0 q0 r0;obtain⟨va,vcap,rfl⟩:∃va vcap,v'=.slice va (r.chans.length+1) vcap:=by
  rcases b0.2 with⟨h1,h2⟩|⟨g,cp,cur,h1,_⟩
  ·omega
  exact⟨_,cp,h1⟩
 have s0:∀k,(Value.slice d3 r.chans.length k3).ownBlock=some k->base<=k/\k<w.heap.size+1:=λk hk=>by have:=R0.out.lt k hk;omega
 have m0:W4.heap[Rb]?=W3.heap[Rb]?:=q0.block Rb (by omega) (λhh=>by have:=(s0 Rb hh.symm).1;omega);have j1:W4.heap[b]?=W3.heap[b]?:=q0.block b (by omega) (λhh=>i1.out hh.symm);have g0:W4.cell? ⟨Rb,3,none⟩=some (.slice d3 r.chans.length k3):=(Qc (a:=⟨Rb,3,none⟩) m0).trans e0;have g1:W4.cell? ⟨b,off+1,none⟩=some (.string ⟨n.toArray⟩):=(Qc (a:=⟨b,off+1,none⟩) j1).trans e1;have gz:W4.frozen? ⟨Rb,3,none⟩=false:=(Qd (a:=⟨Rb,3,none⟩) m0).trans ((S0.out.frozen (p:=⟨Rb,3,none⟩) B0).trans (HH.out.cR.z 3))
 have K1:w.heap.size+1<=W4.heap.size:=by have:=q0.size;omega
 have H5:Hid (Zu lo base Rb Pb w0 (W4.setCell ⟨Rb,3,none⟩ (.slice va (r.chans.length+1) vcap)) (m.app 3 (.slice va (r.chans.length+1) vcap) [strV n])):=by
  refine HH.out.appR 3 (by unfold Zt;omega) (by omega) S0.out (v':=.slice va (r.chans.length+1) vcap) (news:=[strV n]) ?_ ?_ ?_
  ·rw[HO.out.r3.1,HO.out.r3.2];exact b0
  ·rw[O0.out];exact q0
  rw[O0.out];exact r0
 clear b0 q0 r0 m0 j1 e0 e1 t0 R0 S0 s0 O0 HH i1
 go_wp2_with fail
 refine⟨⟨g0,g1⟩,?_⟩;refine Zk ?_
 go_wp2_with fail
 refine⟨⟨g0,g1⟩,?_⟩;refine Zw rfl (by rintro _ ⟨z0,z1⟩;go_simp<;>rfl) (by go_simp<;>rfl) ?_;refine Xm ?_
 go_wp2_with fail
 refine Zs ?_;obtain⟨W5,T0⟩:=nmE (W4.setCell ⟨Rb,3,none⟩ (.slice va (r.chans.length+1) vcap));rw[<-T0]at H5⊢
 have L1:w.heap.size+1<=W5.heap.size:=by rw[T0,Zy];omega
 clear T0 g0 g1 gz;have y0:W5.cell? ⟨Rb,0,none⟩=some (.pointer (some ⟨Pb,0,none⟩)):=H5.out.cR.c 0 (by omega)
 have y1:W5.cell? ⟨Pb,3,none⟩=some (.slice dl r.chanLv.length kl):=by rw[<-P0.out];exact H5.out.cP.c 3 (by omega)
 go_wp2_with fail
 refine Zi (λW=>W.cell? ⟨Rb,0,none⟩=some (.pointer (some ⟨Pb,0,none⟩))/\W.cell? ⟨Pb,3,none⟩=some (.slice dl r.chanLv.length kl)) [12,13,14] [16] [] ⟨y0,y1⟩ (by kernel_rfl) (λc a d v w h=>by cases d<;>exact h) (λops hG=>?_);clear hG
 iterate 12 refine Zw rfl (by rintro _ ⟨z0,z1⟩;go_simp<;>rfl) (by go_simp<;>rfl) ?_
 refine Zk ?_
 go_wp2_with fail
 obtain⟨W6,v0⟩:=nmE ((W5.alloc (.cells #[.int .i64 pa] 3)).drew);obtain⟨ub,U0⟩:=nmE (W5.heap.size)
 have x0:Below W5.heap.size W5 W6:=by rw[v0];exact(bA).drew
 have M1:W5.heap.size+1=W6.heap.size:=by rw[v0];simp
 have u0:∀i u,([.int .i64 pa]:List Value)[i]?=some u->W6.cell? ((⟨ub,0,none⟩:Addr).add i)=some u:=by rw[v0,U0];exact Xw
 have f0:W6.cell? ⟨Rb,0,none⟩=some (.pointer (some ⟨Pb,0,none⟩)):=(x0.cell (p:=⟨Rb,0,none⟩) (by show Rb<_;omega)).trans y0;have f1:W6.cell? ⟨Pb,3,none⟩=some (.slice dl r.chanLv.length kl):=(x0.cell (p:=⟨Pb,3,none⟩) (by show Pb<_;omega)).trans y1;have E2:Hid ((m.app 3 (.slice va (r.chans.length+1) vcap) [strV n]).v 13=.slice dl r.chanLv.length kl):=P0.out;have E3:Hid ((m.app 3 (.slice va (r.chans.length+1) vcap) [strV n]).n 13=r.chanLv.length):=HO.out.r13.1;have E4:Hid ((m.app 3 (.slice va (r.chans.length+1) vcap) [strV n]).xs 13=Yk r.chanLv):=HO.out.r13.2;have V0:Hid (W6.ownsRow base 3 1 (.slice dl r.chanLv.length kl) r.chanLv.length (Yk r.chanLv)):=by
  have h1:=(H5.out.below x0).own 13 (by unfold Zt;omega);rw[E2.out,E3.out,E4.out]at h1;exact h1
 have W0:Hid (Below W5.heap.size W5 W6):=x0;rw[<-v0,<-U0];clear v0 U0 x0 y0 y1;refine⟨⟨f0,f1⟩,?_⟩;refine Zk ?_;clear F0 G0 H0 I0 i0;obtain⟨i0,F0,G0,H0,I0⟩:=info_parts Tryz.infoIntP
 go_wp2_with (at_builtin;refine Zj _ rfl (.tmp 201) (.tmp 203) 30 rfl base 3 i0 (.int .i64 0) 1 8 underlying30 F0 G0 H0 I0 rfl (by decide) _ _ _ rfl V0.out ⟨ub,0,none⟩ 1 1 [.int .i64 pa] rfl rfl (by decide) u0 ?d2 ?d3 ?d4 ?d5 ?_)
 case d2=>intro u hu;simp at hu;subst hu;rfl
 case d3=>unfold maxLen;omega
 case d4=>omega
 case d5=>omega
 intro v7 W7 d0 J0 A0;obtain⟨vb,vcbp,rfl⟩:∃va vcap,v7=.slice va (r.chanLv.length+1) vcap:=by
  rcases d0.2 with⟨h1,h2⟩|⟨g,cp,cur,h1,_⟩
  ·omega
  exact⟨_,cp,h1⟩
 have l0:∀k,(Value.slice dl r.chanLv.length kl).ownBlock=some k->base<=k:=λk hk=>(V0.out.lt k hk).1;have m0:W7.heap[Rb]?=W6.heap[Rb]?:=J0.block Rb (by omega) (λhh=>by have:=l0 Rb hh.symm;omega);have X0:W7.heap[Pb]?=W6.heap[Pb]?:=J0.block Pb (by omega) (λhh=>by have:=l0 Pb hh.symm;omega);have g0:W7.cell? ⟨Rb,0,none⟩=some (.pointer (some ⟨Pb,0,none⟩)):=(Qc (a:=⟨Rb,0,none⟩) m0).trans f0;have g1:W7.cell? ⟨Pb,3,none⟩=some (.slice dl r.chanLv.length kl):=(Qc (a:=⟨Pb,3,none⟩) X0).trans f1;have gz:W7.frozen? ⟨Pb,3,none⟩=false:=(Qd (a:=⟨Pb,3,none⟩) X0).trans ((W0.out.frozen (p:=⟨Pb,3,none⟩) (by show Pb<_;omega)).trans (H5.out.cP.z 3));have Y0:Hid (Yl lo base Rb Pb w0 fl t res (.returned (.int .i64 0)) (W7.setCell ⟨Pb,3,none⟩ (.slice vb (r.chanLv.length+1) vcbp))):=by
  show Yl _ _ _ _ _ _ _ _ _ _;rw[HR.out];have ea:(pa.toNat:Int)=pa:=(by omega);refine⟨rfl,λ_=>⟨_,H5.out.appP 13 (by unfold Zt;omega) (by omega) W0.out (v':=.slice vb (r.chanLv.length+1) vcbp) (news:=[.int .i64 (pa.toNat:Int)]) ?_ ?_ ?_,HO.out.addChan n pa.toNat _ _ l1 B1⟩,λhh=>absurd rfl hh⟩
  ·rw[ea,E3.out,E4.out];exact d0
  ·rw[E2.out];exact J0
  rw[E2.out];exact A0
 clear d0 J0 A0 m0 X0 f0 f1 u0 V0 W0 l0 P0 H5 HO HR E2 E3 E4
 go_wp2_with fail
 refine⟨⟨g0,g1⟩,?_⟩;refine Zk ?_
 go_wp2_with fail
 refine⟨⟨g0,g1⟩,?_⟩;refine Zw rfl (by rintro _ ⟨z0,z1⟩;go_simp<;>rfl) (by go_simp<;>rfl) ?_;refine Xm ?_
 go_wp2_with fail
 refine Zs ?_;go_wp2;go_ret;exact Y0.out
end
section
variable{lo base Rb Pb:Nat}{w0 w w':World}{m:Yn}{r:Fl.RS}{fl:List FlS}{t:Nat}
def Zu.setP(h:Zu lo base Rb Pb w0 w m)(j:Nat)(hj:j<6)(v:Value)(m':Yn)(hn:m'.n=m.n)(hx:m'.xs=m.xs)(hv:m'.v=m.v)(hk:m'.keep=m.keep/\m'.wk=m.wk)(hR:∀i,i<11->rrC Pb m' i=rrC Pb m i)(hP:∀i,i<6->rpC m' i=if i=j then v else rpC m i):Zu lo base Rb Pb w0 (w.setCell ⟨Pb,j,none⟩ v) m':=by
 obtain⟨b1,b2,b3,b4,b5,b6,b7⟩:=h.hba;refine{bel:=h.bel.setCell (by show lo<=Pb;omega) _,hba:=⟨b1,b2,b3,b4,b5,by rw[Zy];omega,b7⟩,cR:= ?_,cP:=(h.cP.set hj v).congr λi hi=>(hP i hi).symm,own:=λi hi=>?_,dis:=by rw[hv];exact h.dis,kp:=λb hb=>?_}
 ·exact(h.cR.block (Zx _ _ _ _ _ b5)).congr λi hi=>(hR i hi).symm
 ·rw[hn,hx,hv]
  exact Yy (h.own i hi) (λb hb=>Zx _ _ _ _ _ (by have:=((h.own i hi).lt b hb).1;omega))
 rw[hk.1]at hb;obtain⟨k1,k2,k3,k4⟩:=h.kp b hb;rw[hv,hk.2];exact⟨k1,by rw[Zy];exact k2,(Zx _ _ _ _ _ (by omega)).trans k3,k4⟩
def Zu.setN(h:Zu lo base Rb Pb w0 w m)(n:Nat):Zu lo base Rb Pb w0 (w.setCell ⟨Pb,0,none⟩ (.int .i64 (n:Int))) {m with N:=n}:=
 h.setP 0 (by omega) _ _ rfl rfl rfl ⟨rfl,rfl⟩ (λ_ _=>rfl) (λi hi=>by
  rcases(show i=0\/i=1\/i=2\/i=3\/i=4\/i=5 by omega) with rfl|rfl|rfl|rfl|rfl|rfl<;>rfl)
def Zu.setLeq(h:Zu lo base Rb Pb w0 w m)(v:Value):Zu lo base Rb Pb w0 (w.setCell ⟨Pb,1,none⟩ v) {m with leq:=v}:=
 h.setP 1 (by omega) _ _ rfl rfl rfl ⟨rfl,rfl⟩ (λ_ _=>rfl) (λi hi=>by
  rcases(show i=0\/i=1\/i=2\/i=3\/i=4\/i=5 by omega) with rfl|rfl|rfl|rfl|rfl|rfl<;>rfl)
def Zu.setBegun(h:Zu lo base Rb Pb w0 w m)(v:Bool):Zu lo base Rb Pb w0 (w.setCell ⟨Rb,7,none⟩ (.bool v)) {m with begun:=v}:=by
 obtain⟨b1,b2,b3,b4,b5,b6,b7⟩:=h.hba;refine{bel:=h.bel.setCell (by show lo<=Rb;omega) _,hba:=⟨b1,b2,b3,b4,b5,by rw[Zy];omega,b7⟩,cR:=(h.cR.set (j:=7) (by omega) (.bool v)).congr λi hi=>?_,cP:= ?_,own:=λi hi=>Yy (h.own i hi) (λb hb=>Zx _ _ _ _ _ (by have:=((h.own i hi).lt b hb).1;omega)),dis:=h.dis,kp:=λb hb=>have k:=h.kp b hb;⟨k.1,by rw[Zy];exact k.2.1,(Zx _ _ _ _ _ (by have:=k.1;omega)).trans k.2.2.1,k.2.2.2⟩}
 ·unfold rrC
  by_cases h7:i=7
  ·subst h7;rfl
  simp[h7]
 exact(h.cP.block (Zx _ _ _ _ _ (Ne.symm b5))).congr λi hi=>rfl
def Zh.begins(h:Zh r fl t m)(N:Nat)(v:Value)(K:Nat->Prop)(wk:World)(ht:zi6 {m with N:=N,leq:=v,keep:=K,wk:=wk} r.levels.length r.tab):Zh {r with begun:=true} fl (t+1) {m with begun:=true,N:=N,leq:=v,keep:=K,wk:=wk}:=
 {r1:=h.r1,r2:=h.r2,r3:=h.r3,r4:=h.r4,r5:=h.r5,r6:=h.r6,r8:=h.r8,r10:=h.r10,r12:=h.r12,r13:=h.r13,bg:=rfl,st:=h.st,nm:=h.nm,lv:=h.lv,ce:=h.ce,ch:=h.ch,lo:=h.lo,sm:=h.sm,fr:=h.fr,lw:=by have:=h.lw;show r.low.length<=_;omega,ft:=by have:=h.ft;omega,pr:=h.pr,bw:=h.bw,cl:=h.cl,hl:=h.hl,lt:=λ_=>ht}
end
end Go.Proofs.YtaaejabalinojaaGreatDoor
namespace Go.Proofs.YtaaejabalinojaaGreatDoor
open Go.Proofs.Tryz
namespace Fl
def lattice_bad{n:Nat}{t:Tab}{i j:Nat}(hi:i<n)(hj:j<n)(h:pairOk n t i j=false):lattice n t=false:=by
 unfold lattice;rw[Bool.and_eq_false_iff]
 right
 rw[List.all_eq_false];refine⟨i,List.mem_range.mpr hi,?_⟩;rw[Bool.not_eq_true,List.all_eq_false];exact⟨j,List.mem_range.mpr hj,by rw[h];simp⟩
def lattice_good{n:Nat}{t:Tab}(h:∀i j,i<n->j<n->pairOk n t i j=true):lattice n t=decide (0<n):=by
 unfold lattice;have h2:((List.range n).all λi=>(List.range n).all λj=>pairOk n t i j)=true:=by
  rw[List.all_eq_true];intro i hi;rw[List.all_eq_true];intro j hj;exact h i j (List.mem_range.mp hi) (List.mem_range.mp hj)
 rw[h2,Bool.and_true]
def pair_both{n:Nat}{t:Tab}{i j:Nat}(a0:i≠j)(h1:t i j=true)(h2:t j i=true):pairOk n t i j=false:=by
 unfold pairOk;simp[h1,h2,a0]
def pair_none{n:Nat}{t:Tab}{i j:Nat}(h:join n t i j<0\/meet n t i j<0):pairOk n t i j=false:=by
 unfold pairOk;rw[Bool.and_eq_false_iff]
 right
 rw[Bool.and_eq_false_iff];rcases h with h|h
 ·left;simp;exact h
 right;simp;exact h
def pair_good{n:Nat}{t:Tab}{i j:Nat}(h:i=j\/t i j=false\/t j i=false)(h1:0<=join n t i j)(h2:0<=meet n t i j):pairOk n t i j=true:=by
 unfold pairOk;rcases h with rfl|h|h
 ·simp[h1,h2]
 ·simp[h,h1,h2]
 simp[h,h1,h2]
end Fl
open Go.RowKit
structure zcx(r:Fl.RS)(t:Nat)(m:Yn):Prop where
 r1:m.n 1=r.levels.length/\m.xs 1=r.levels.map strV
 r5:m.n 5=r.low.length/\m.xs 5=Yk r.low
 r6:m.n 6=r.high.length/\m.xs 6=Yk r.high
 lv:r.levels.length<=6
 lw:r.low.length<=t
 pr:r.low.length=r.high.length
 bw:(∀x∈r.low,x<r.levels.length)/\(∀x∈r.high,x<r.levels.length)
def zt1(lo base Rb Pb:Nat)(w0:World)(m:Yn)(n:Nat)(T:Fl.Tab)(res:Bool)(e:Ending)(w':World):Prop:=
 e=.returned (.bool res)/\∃N v K wk,Zu lo base Rb Pb w0 w' {m with N:=N,leq:=v,keep:=K,wk:=wk}/\zi6 {m with N:=N,leq:=v,keep:=K,wk:=wk} n T
section
variable{lo base Rb Pb:Nat}{w0 w w':World}{m:Yn}{r:Fl.RS}{fl:List FlS}{t:Nat}
def yrw(b0:∀(W:World) (m:Yn) (r:Fl.RS),Zu lo base Rb Pb w0 W m->zcx r t m->Calls prog 54 #[.pointer (some ⟨Rb,0,none⟩)] W (zt1 lo base Rb Pb w0 m r.levels.length r.tab (Fl.lattice r.levels.length r.tab)))
  (h:Zu lo base Rb Pb w0 w m) (hr:Zh r fl t m) (b off cap:Nat) (k:List UInt8) (hb:b<w.heap.size) (j0:b≠Rb) (h0:1<=cap/\cap<=maxLen) (c0:w.cell? ⟨b,off,none⟩=some (.string ⟨#[98,101,103,105,110]⟩)):
  Calls prog 29 #[.pointer (some ⟨Rb,0,none⟩),.slice (some ⟨b,off,none⟩) 1 cap] w (Yl lo base Rb Pb w0 fl t (r.head [k])):=by
 have hba:=h.hba;have HL:Hid (Calls prog 54 #[.pointer (some ⟨Rb,0,none⟩)] (w.setCell ⟨Rb,7,none⟩ (.bool true)) (zt1 lo base Rb Pb w0 {m with begun:=true} r.levels.length r.tab (Fl.lattice r.levels.length r.tab))):=b0 _ {m with begun:=true} r (h.setBegun true) {r1:=hr.r1,r5:=hr.r5,r6:=hr.r6,lv:=hr.lv,lw:=hr.lw,pr:=hr.pr,bw:=hr.bw};have HO:=Zz hr;have a0:Hid (r.head [k]=if Fl.lattice r.levels.length r.tab then(0,{r with begun:=true}) else(6,r)):=rfl;obtain⟨v7,x7⟩:∃v,w.cell? ⟨Rb,7,none⟩=some v:=⟨_,h.cR.c 7 (by omega)⟩;have z7:w.frozen? ⟨Rb,7,none⟩=false:=h.cR.z 7;obtain⟨res,d0⟩:=nmE (r.head [k]);rw[<-d0]at a0⊢
 have f0:(1:Int)<=(cap:Int):=by omega
 generalize Fl.lattice r.levels.length r.tab=ok at*;clear h hr d0 b0
 go_enter func29,ntmps29
 go_wp2_with fail
 refine HL.out.mono ?_;rintro e w1 ⟨rfl,N,v,K,wk,g0,e0⟩;have HW:=Zz g0;have i0:=Zz e0;clear g0 e0 HL
 cases ok
 ·have HE:Hid (Yl lo base Rb Pb w0 fl t res (.returned (.int .i64 6)) w1):=by
   show Yl _ _ _ _ _ _ _ _ _ _;rw[a0.out];exact⟨rfl,λh=>(by cases h),λ_=>HW.out.bel⟩
  go_wp2;go_ret;exact HE.out
 have HE:Hid (Yl lo base Rb Pb w0 fl t res (.returned (.int .i64 0)) w1):=by
  show Yl _ _ _ _ _ _ _ _ _ _;rw[a0.out];exact⟨rfl,λ_=>⟨_,HW.out,HO.out.begins N v K wk i0.out⟩,λhh=>absurd rfl hh⟩
 go_wp2;go_ret;exact HE.out
end
section
variable{lo base Rb Pb:Nat}{w0 w w':World}{m:Yn}{r:Fl.RS}{fl:List FlS}{t:Nat}
def yj4(f0:∀(W:World) (m:Yn) (r:Fl.RS),Zu lo base Rb Pb w0 W m->zcx r t m->Calls prog 54 #[.pointer (some ⟨Rb,0,none⟩)] W (zt1 lo base Rb Pb w0 m r.levels.length r.tab (Fl.lattice r.levels.length r.tab)))
  (h:Zu lo base Rb Pb w0 w m) (hr:Zh r fl t m) (g0:r.begun=false) (ht:t<=1000000) (v:Value) (ws:List (List UInt8)) (hw:Zg w.heap.size w v ws) (i0:∀b off k c,v=.slice (some ⟨b,off,none⟩) k c->b≠Rb/\∀j,Zt j->(m.v j).ownBlock≠some b) (hl:Fl.line ws=true) (hh:Fl.isHead (ws.getD 0 [])=true):
  Calls prog 29 #[.pointer (some ⟨Rb,0,none⟩),v] w (Yl lo base Rb Pb w0 fl t (r.head ws)):=by
 obtain⟨ao,cap,hv,c0,d0,l0,hx,b0⟩:=hw
 have j0:ws≠[]:=by intro h0;subst h0;simp[Fl.line]at hl
 obtain⟨b,off,k0,hb,a0⟩:=b0 j0;subst k0;have e0:=i0 b off ws.length cap hv;subst hv;clear b0 i0
 match ws,hl,hh with
 |[a],hl,hh=>
  have e:a=Fl.wBegin:=by
   simp[Fl.line,Fl.isHead]at hl hh;rcases hl with(h1|h1)|h1
   ·exact h1
   ·subst h1;simp[Fl.wElse,Fl.wLevel,Fl.wBelow,Fl.wCell,Fl.wChannel,Fl.wBegin]at hh
   subst h1;simp[Fl.wEnd,Fl.wLevel,Fl.wBelow,Fl.wCell,Fl.wChannel,Fl.wBegin]at hh
  subst e;exact yrw f0 h hr b off cap _ hb e0.1 ⟨c0,d0⟩ (a0 0 (by simp))
 |[a,n],hl,hh=>
  have e:a=Fl.wLevel:=by
   simp[Fl.line,Fl.isHead]at hl hh;rcases hl with h1|⟨h1|h1,_⟩
   ·exact h1.1
   ·subst h1;simp[Fl.wIf,Fl.wLevel,Fl.wBelow,Fl.wCell,Fl.wChannel,Fl.wBegin]at hh
   subst h1;simp[Fl.wWhile,Fl.wLevel,Fl.wBelow,Fl.wCell,Fl.wChannel,Fl.wBegin]at hh
  subst e;exact yry h hr g0 b off cap _ n (hx n (by simp)) hb e0 ⟨c0,d0⟩ (a0 0 (by simp)) (a0 1 (by simp))
 |[a,n,l],hl,hh=>
  have e:a=Fl.wBelow\/a=Fl.wCell\/a=Fl.wChannel:=by
   simp[Fl.line,Fl.isHead]at hl hh;rcases hl with⟨⟨h1,_⟩,_⟩|⟨⟨h1|h1,_⟩,_⟩
   ·rcases h1 with(h1|h1)|h1
    ·exact .inl h1
    ·exact .inr (.inl h1)
    exact .inr (.inr h1)
   ·subst h1;simp[Fl.wOut,Fl.wLevel,Fl.wBelow,Fl.wCell,Fl.wChannel,Fl.wBegin]at hh
   subst h1;simp[Fl.wSet,Fl.wLevel,Fl.wBelow,Fl.wCell,Fl.wChannel,Fl.wBegin]at hh
  rcases e with e|e|e
  ·subst e
   exact yrx h hr g0 ht b off cap n l hb e0 ⟨c0,d0⟩ (a0 0 (by simp)) (a0 1 (by simp)) (a0 2 (by simp))
  ·subst e
   exact yn8 h hr b off cap n l (hx n (by simp)) hb e0 ⟨c0,d0⟩ (a0 0 (by simp)) (a0 1 (by simp)) (a0 2 (by simp))
  subst e;exact yz4 h hr b off cap n l (hx n (by simp)) hb e0 ⟨c0,d0⟩ (a0 0 (by simp)) (a0 1 (by simp)) (a0 2 (by simp))
 |[_,_,_,_],hl,hh=>simp[Fl.line]at hl
 |[a,_,_,_,_],hl,hh=>
  simp[Fl.line,Fl.isHead]at hl hh;rw[hl.1.1.1.1]at hh;simp[Fl.wSet,Fl.wLevel,Fl.wBelow,Fl.wCell,Fl.wChannel,Fl.wBegin]at hh
 |_::_::_::_::_::_::_,hl,hh=>simp[Fl.line]at hl
end
def Up(b:Nat):∀(cs:List Value) (w:World) (o k:Nat),k≠b->(w.setCells b o cs).heap[k]?=w.heap[k]?
 |[],_,_,_,_=>rfl
 |v::r,w,o,k,h=>(Up b r _ _ k h).trans (Zx w b o v k h)
def zp5(b:Nat):∀(cs:List Value) (w:World) (o:Nat),(w.setCells b o cs).heap.size=w.heap.size
 |[],_,_=>rfl
 |v::r,w,o=>(zp5 b r _ _).trans (Zy w _ v)
def zp6(b:Nat):∀(cs:List Value) (w:World) (o:Nat),(w.setCells b o cs).os=w.os/\(w.setCells b o cs).tape=w.tape/\(w.setCells b o cs).output=w.output
 |[],_,_=>⟨rfl,rfl,rfl⟩
 |v::r,w,o=>zp6 b r (w.setCell ⟨b,o,none⟩ v) (o+1)
def zp7(l:List Value)(o:Nat)(v:Value)(h:o<l.length):(l.set o v).take (o+1)=l.take o++[v]:=by
 rw[List.set_eq_take_append_cons_drop,if_pos h,List.take_append,List.take_take]
 have h1:(l.take o).length=o:=by simp;omega
 rw[h1,show o+1 - o=1 by omega,show min (o+1) o=o by omega];simp
def zox(b:Nat)(e:TypeId):∀(cs:List Value) (w:World) (o:Nat) (cur:Array Value),w.heap[b]?=some (.cells cur e (0,0))->o+cs.length<=cur.size->
  ∃cur',(w.setCells b o cs).heap[b]?=some (.cells cur' e (0,0))/\cur'.size=cur.size/\cur'.toList.take (o+cs.length)=cur.toList.take o++cs
 |[],w,o,cur,hg,h=>⟨cur,hg,rfl,by simp⟩
 |v::r,w,o,cur,hg,h=>by
  have h0:o+(r.length+1)<=cur.size:=h;obtain⟨cur',e1,e2,e3⟩:=zox b e r (w.setCell ⟨b,o,none⟩ v) (o+1) (cur.setIfInBounds o v) (Go.heap_setCell_same w b o cur e v hg) (by rw[Array.size_setIfInBounds];omega);refine⟨cur',e1,by rw[e2,Array.size_setIfInBounds],?_⟩;rw[List.length_cons,show o+(r.length+1)=o+1+r.length by omega,e3,Array.toList_setIfInBounds,zp7 _ _ _ (by simp;omega)];simp
def own_put{W:World}{base:Nat}{e:TypeId}{g cap n:Nat}{xs z cs:List Value}(h:W.ownsRow base e 10 (.slice (some ⟨g,0,none⟩) (n+1) cap) (n+1) (xs++z))(hz:z.length=10)(hc:cs.length=10):(W.setCells g (n*10) cs).ownsRow base e 10 (.slice (some ⟨g,0,none⟩) (n+1) cap) (n+1) (xs++cs):=by
 obtain⟨h1,h2⟩:=h
 have hl:xs.length=n*10:=by simp at h1;omega
 refine⟨by simp;omega,?_⟩;rcases h2 with⟨h3,-⟩|⟨g',cap',cur,h3,hb,hg,a0,hm,hs,ht⟩
 ·cases h3
 simp only[Value.slice.injEq,Option.some.injEq,Addr.mk.injEq]at h3;obtain⟨⟨rfl,-⟩,-,rfl⟩:=h3;obtain⟨cur',e1,e2,e3⟩:=zox g e cs W (n*10) cur hg (by rw[hs,hc];omega);refine .inr ⟨g,cap,cur',rfl,hb,e1,a0,hm,by rw[e2];exact hs,?_⟩;rw[show (n+1)*10=n*10+cs.length by rw[hc];omega,e3];have:=congrArg (List.take (n*10)) ht;rw[List.take_take,show min (n*10) ((n+1)*10)=n*10 by omega,List.take_append_of_le_length (by omega),List.take_of_length_le (by omega:xs.length<=n*10)]at this;rw[this]
def zow{W:World}{base:Nat}{e:TypeId}{g cap n:Nat}{xs:List Value}(h:W.ownsRow base e 10 (.slice (some ⟨g,0,none⟩) (n+1) cap) (n+1) xs):W.there g (n*10) 10:=by
 obtain⟨h1,h2⟩:=h;rcases h2 with⟨h3,-⟩|⟨g',cap',cur,h3,hb,hg,b0,hm,hs,ht⟩
 ·cases h3
 simp only[Value.slice.injEq,Option.some.injEq,Addr.mk.injEq]at h3;obtain⟨⟨rfl,-⟩,-,rfl⟩:=h3;intro j hj
 have a0:n*10+j<cur.size:=by omega
 exact⟨by simp[World.cell?,hg,a0],by simp[World.frozen?,hg]⟩
def zg2{w w':World}{row:Option Nat}(h:w.grownBy w' row)(g o:Nat)(cs:List Value)(hg:some g=row\/w.heap.size<=g):w.grownBy (w'.setCells g o cs) row:=by
 obtain⟨r1,r2,r3⟩:=zp6 g cs w' o;refine⟨r1.trans h.os,r2.trans h.tape,r3.trans h.output,by rw[zp5];exact h.size,λk hk a0=>(Up g cs w' o k ?_).trans (h.block k hk a0)⟩;rintro rfl;rcases hg with h1|h1
 ·exact a0 h1
 omega
def yz5(w:World)(b c i j:Nat)(u v:Value)(h:b≠c):(w.setCell ⟨b,i,none⟩ u).setCell ⟨c,j,none⟩ v=(w.setCell ⟨c,j,none⟩ v).setCell ⟨b,i,none⟩ u:=by
 unfold World.setCell
 congr 1
 apply Array.ext_getElem?
 intro k;simp only[Array.getElem?_modify]
 by_cases h1:b=k
 ·by_cases h2:c=k
  ·exact absurd (h1.trans h2.symm) h
  simp[h1,h2]
 simp[h1]
def zx6(b c j:Nat)(v:Value)(h:b≠c):∀(cs:List Value) (w:World) (o:Nat),(w.setCell ⟨c,j,none⟩ v).setCells b o cs=(w.setCells b o cs).setCell ⟨c,j,none⟩ v
 |[],_,_=>rfl
 |u::r,w,o=>by
  show ((w.setCell ⟨c,j,none⟩ v).setCell ⟨b,o,none⟩ u).setCells b (o+1) r=((w.setCell ⟨b,o,none⟩ u).setCells b (o+1) r).setCell ⟨c,j,none⟩ v;rw[yz5 w c b j o v u (Ne.symm h),zx6 b c j v h r]
section
variable{lo base Rb Pb:Nat}{w0 w w':World}{m:Yn}{r:Fl.RS}{fl:List FlS}{t:Nat}
def Zu.flat(h:Zu lo base Rb Pb w0 w m){W3 W4:World}{g cap:Nat}{z cs:List Value}(b0:Below w.heap.size w W3)(c0:W4.ownsRow base 86 10 (.slice (some ⟨g,0,none⟩) (m.n 10+1) cap) (m.n 10+1) (m.xs 10++z))(hz:z.length=10)(hc:cs.length=10)(d0:W3.grownBy W4 (m.v 10).ownBlock)(a0:some g=(m.v 10).ownBlock\/some g=some W3.heap.size):
  Zu lo base Rb Pb w0 ((W4.setCells g (m.n 10*10) cs).setCell ⟨Rb,10,none⟩ (.slice (some ⟨g,0,none⟩) (m.n 10+1) cap)) (m.app 10 (.slice (some ⟨g,0,none⟩) (m.n 10+1) cap) cs):=
 h.appR 10 (by unfold Zt;omega) (by omega) b0 (own_put c0 hz hc) (zg2 d0 g _ _ (by rcases a0 with h1|h1;exact .inl h1;simp only[Option.some.injEq]at h1;exact .inr (by omega))) a0
def Zu.setStmts(h:Zu lo base Rb Pb w0 w m)(k:Nat):Zu lo base Rb Pb w0 (w.setCell ⟨Rb,9,none⟩ (.int .i64 (k:Int))) {m with stmts:=k}:=by
 obtain⟨b1,b2,b3,b4,b5,b6,b7⟩:=h.hba;refine{bel:=h.bel.setCell (by show lo<=Rb;omega) _,hba:=⟨b1,b2,b3,b4,b5,by rw[Zy];omega,b7⟩,cR:=(h.cR.set (j:=9) (by omega) (.int .i64 (k:Int))).congr λi hi=>?_,cP:= ?_,own:=λi hi=>Yy (h.own i hi) (λb hb=>Zx _ _ _ _ _ (by have:=((h.own i hi).lt b hb).1;omega)),dis:=h.dis,kp:=λb hb=>have k:=h.kp b hb;⟨k.1,by rw[Zy];exact k.2.1,(Zx _ _ _ _ _ (by have:=k.1;omega)).trans k.2.2.1,k.2.2.2⟩}
 ·unfold rrC
  by_cases h7:i=9
  ·subst h7;rfl
  simp[h7]
 exact(h.cP.block (Zx _ _ _ _ _ (Ne.symm b5))).congr λi hi=>rfl
def zy1(m:Yn)(v:Value)(n:Nat)(xs:List Value):Yn:={m with n:=λi=>if i=8 then n else m.n i,xs:=λi=>if i=8 then xs else m.xs i,v:=λi=>if i=8 then v else m.v i}
def Um(m:Yn)(v:Value)(n:Nat)(xs:List Value){i:Nat}(h:i≠8):(zy1 m v n xs).v i=m.v i/\(zy1 m v n xs).n i=m.n i/\(zy1 m v n xs).xs i=m.xs i:=by
 unfold zy1;simp[h]
def Zu.deepSet(h:Zu lo base Rb Pb w0 w m){g k cap:Nat}{xs:List Value}{x y:Value}(hv:m.v 8=.slice (some ⟨g,0,none⟩) (k+1) cap)(hn:m.n 8=k+1)(hx:m.xs 8=xs++[x]):Zu lo base Rb Pb w0 (w.setCell ⟨g,k,none⟩ y) (zy1 m (m.v 8) (m.n 8) (xs++[y])):=by
 obtain⟨b1,b2,b3,b4,b5,b6,b7⟩:=h.hba
 have h8:Zt 8:=by unfold Zt;omega
 have ho:=h.own 8 h8;have hg:=ho.lt g (by rw[hv];rfl)
 have a0:(λi=>if i=8 then m.v 8 else m.v i)=m.v:=by funext i;by_cases hi:i=8<;>simp[hi]
 refine{bel:=h.bel.setCell (by show lo<=g;omega) _,hba:=⟨b1,b2,b3,b4,b5,by rw[Zy];omega,b7⟩,cR:=(h.cR.block (Zx _ _ _ _ _ (by omega))).congr λi hi=>?_,cP:=(h.cP.block (Zx _ _ _ _ _ (by omega))).congr λi hi=>?_,own:=λi hi=>?_,dis:=λi j b hi hj hne=>by show ((λi=>if i=8 then m.v 8 else m.v i) i).ownBlock=_->((λi=>if i=8 then m.v 8 else m.v i) j).ownBlock≠_;rw[a0];exact h.dis i j b hi hj hne,kp:=λb hb=>?_}
 ·show rrC Pb m i=if i=0 then ptr Pb else if i=7 then .bool m.begun else if i=9 then .int .i64 m.stmts else(λi=>if i=8 then m.v 8 else m.v i) i
  rw[a0];rfl
 ·show rpC m i=if i=0 then _ else if i=1 then m.leq else if i=4 then _ else if i=5 then m.body else(λi=>if i=8 then m.v 8 else m.v i) (10+i)
  rw[a0];rfl
 ·by_cases b0:i=8
  ·subst b0
   show (w.setCell ⟨g,k,none⟩ y).ownsRow base (rTy 8) (rSz 8) (if 8=8 then m.v 8 else m.v 8) (if 8=8 then m.n 8 else m.n 8) (if 8=8 then xs++[y] else m.xs 8);rw[if_pos rfl,if_pos rfl,if_pos rfl];obtain⟨h1,h2⟩:=ho;rw[hx]at h1;have c0:rSz 8=1:=rfl;rw[c0]at h1 h2⊢;have hl:xs.length=k:=(by simp at h1;omega);refine⟨by simp;omega,?_⟩;rcases h2 with⟨h3,h4⟩|⟨g',cap',cur,h3,hb,d0,hc,hm,hs,ht⟩
   ·omega
   rw[hv]at h3;simp only[Value.slice.injEq,Option.some.injEq,Addr.mk.injEq]at h3;obtain⟨⟨rfl,-⟩,-,rfl⟩:=h3;refine .inr ⟨g,cap,cur.setIfInBounds k y,by rw[hv,hn],hb,Go.heap_setCell_same w g k cur _ y d0,hc,hm,by rw[Array.size_setIfInBounds];exact hs,?_⟩;rw[hn,Nat.mul_one]at ht⊢;rw[Array.toList_setIfInBounds,zp7 _ _ _ (by simp;omega)];have:=congrArg (List.take k) ht;rw[List.take_take,show min k (k+1)=k by omega,hx,List.take_append_of_le_length (by omega),List.take_of_length_le (by omega:xs.length<=k)]at this;rw[this]
  obtain⟨e1,e2,e3⟩:=Um m (m.v 8) (m.n 8) (xs++[y]) b0;rw[e1,e2,e3];refine Yy (h.own i hi) (λb hb=>Zx _ _ _ _ _ ?_);rintro rfl;exact h.dis i 8 b hi h8 b0 hb (by rw[hv];rfl)
 obtain⟨k1,k2,k3,k4⟩:=h.kp b hb;refine⟨k1,by rw[Zy];exact k2,(Zx _ _ _ _ _ ?_).trans k3,λj hj=>?_⟩
 ·rintro rfl;exact k4 8 h8 (by rw[hv];rfl)
 show ((λi=>if i=8 then m.v 8 else m.v i) j).ownBlock≠_;rw[a0];exact k4 j hj
def Zu.deepCut(h:Zu lo base Rb Pb w0 w m){g k cap:Nat}{xs:List Value}{x:Value}(hv:m.v 8=.slice (some ⟨g,0,none⟩) (k+1) cap)(hn:m.n 8=k+1)(hx:m.xs 8=xs++[x]):Zu lo base Rb Pb w0 (w.setCell ⟨Rb,8,none⟩ (.slice (some ⟨g,0,none⟩) k cap)) (zy1 m (.slice (some ⟨g,0,none⟩) k cap) k xs):=by
 obtain⟨b1,b2,b3,b4,b5,b6,b7⟩:=h.hba
 have h8:Zt 8:=by unfold Zt;omega
 have b0:∀i,((zy1 m (.slice (some ⟨g,0,none⟩) k cap) k xs).v i).ownBlock=(m.v i).ownBlock:=λi=>by
  by_cases hi:i=8
  ·subst hi;rw[hv];rfl
  rw[(Um m _ k xs hi).1]
 refine{bel:=h.bel.setCell (by show lo<=Rb;omega) _,hba:=⟨b1,b2,b3,b4,b5,by rw[Zy];omega,b7⟩,cR:=(h.cR.set (j:=8) (by omega) (.slice (some ⟨g,0,none⟩) k cap)).congr λi hi=>?_,cP:=(h.cP.block (Zx _ _ _ _ _ (Ne.symm b5))).congr λi hi=>?_,own:=λi hi=>?_,dis:=λi j b hi hj hne=>by rw[b0,b0];exact h.dis i j b hi hj hne,kp:=λb hb=>have k:=h.kp b hb;⟨k.1,by rw[Zy];exact k.2.1,(Zx _ _ _ _ _ (by have:=k.1;omega)).trans k.2.2.1,λj hj=>by rw[b0];exact k.2.2.2 j hj⟩}
 ·by_cases a0:i=8
  ·subst a0;rfl
  rw[if_neg a0];unfold rrC;rw[(Um m _ k xs a0).1];rfl
 ·unfold rpC
  rw[(Um m (.slice (some ⟨g,0,none⟩) k cap) k xs (show 10+i≠8 by omega)).1];rfl
 by_cases a0:i=8
 ·subst a0
  have ho:=h.own 8 h8;rw[hv,hn,hx]at ho;refine Yy (w:=w) ?_ (λb hb=>Zx _ _ _ _ _ ?_)
  ·exact zay ho
  have:=ho.lt b hb;omega
 obtain⟨e1,e2,e3⟩:=Um m (.slice (some ⟨g,0,none⟩) k cap) k xs a0;rw[e1,e2,e3];exact Yy (h.own i hi) (λb hb=>Zx _ _ _ _ _ (by have:=((h.own i hi).lt b hb).1;omega))
end
end Go.Proofs.YtaaejabalinojaaGreatDoor
