import Derived.Test.YtjmcibbdedlcoaaGreatDoorM17
set_option linter.all false
set_option maxRecDepth 100000
set_option maxHeartbeats 40000000
namespace Go.Proofs.YtjmcibbdedlcoaaGreatDoor
open Go.RowKit Go.Proofs.Tryz List World Value Fl
variable{w w0 w':World}{lo base Rb Pb t:Nat}{r:Fl.RS}
def zd2(W:World):(Instr.build 75 #[(0,I (-1))]).run prog W=.ok (.agg (Zn Xe).toArray) W:=by kernel_rfl
def yz7(W:World):(Instr.build 75 #[(0,I (-2))]).run prog W=.ok (.agg (Zn Xk).toArray) W:=by kernel_rfl
def Vf{P:Program}{ops:Array Oper}{rest:List Oper}{op:Oper}{a:Act}{W':World}{Q:Exit->Act->World->Prop}(a0:op.guard=none)(ty:TypeId)(x y:Operand)(ho:op.op=.store ty x y)
  (b o:Nat) (cells:Array Value) (hx:a.eval x=Pp b o) (hy:a.eval y=.agg cells)
  (ht:w.there b o cells.size) (hi:(P.info? ty).map (·.size)=some cells.size) (h1:cells.all (·.oneCell')=true) (hW:w.setCells b o cells.toList=W')
  (h:wpList P ops Q rest (a.put op.dst undef) W'):wpList P ops Q (op::rest) a w:=wpList_store_mid a0 ty x y ho b o cells hx hy ht hi h1 (by rw[hW];exact h)
def zj0:∀u∈Yv,u.oneCell'=true:=Array.all_eq_true_iff_forall_mem.1 (show Yv.all (·.oneCell')=true by kernel_rfl)
section
variable{m:Yo}{fl:List FlS}
def Zt.deep(h:Zt lo base Rb Pb w0 w m)(hr:Zk r fl t m){f:Fl.Frame}{fs:List Fl.Frame}(hf:r.fr=f::fs):∃g cap,m.v 8=Sq g 0 (fs.length+1) cap/\m.n 8=fs.length+1/\m.xs 8=Xf fs++[.int .u8 (zzy f:Nat)]/\base<=g/\g<w.heap.size/\w.cell? (Y g fs.length)=some (.int .u8 (zzy f:Nat))/\w.frozen? (Y g fs.length)=false:=by
 have h8:Zr 8:=by unfold Zr;omega
 have ho:=h.own 8 h8
 have h1:m.n 8=fs.length+1:=by rw[hr.r8.1,hf];rfl
 have h2:m.xs 8=Xf fs++[.int .u8 (zzy f:Nat)]:=by rw[hr.r8.2,hf,zzx]
 rcases ho.2 with⟨h3,h4⟩|⟨g,cap,cur,h3,hb,hg,hc,hm,hs,ht⟩
 ·omega
 have h5:m.v 8=Sq g 0 (fs.length+1) cap:=by rw[h3,h1]
 refine⟨g,cap,h5,h1,h2,hb,(ho.lt g (by rw[h5];rfl)).2,?_,by simp[frozen?,hg]⟩;have h6:=ho.cells (g:=g) (by rw[h5];rfl) fs.length (.int .u8 (zzy f:Nat)) (by rw[h2,getElem?_append_right (by rw[yz5];omega),yz5];simp)
 have h7:((Y g 0):Addr).add fs.length=(Y g fs.length):=by unfold Addr.add;split<;>simp_all
 rw[h7]at h6;exact h6
def yc1(h:Zt lo base Rb Pb w0 w m)(hr:Zk r fl t m)(s0:Xd fl r)(u0:dy fl=r.am)(v0:∀f∈r.fr,(f.kind=5\/(f.kind=6/\f.cA=false))/\(f.cA=false->f.fN=[]))(ht:t<=100000)(b off cap:Nat)(at_:Int)(c0:w.cell? (Y b off)=some (.string ⟨#[101,108,115,101]⟩))(hb:r.ae=true)(i:Nat):
  F 12 #[M Rb,Sq b off 1 cap,I at_] w (Xu lo base Rb Pb w0 t (r.bS i [eq])):=by
 obtain⟨b1,b2,b3,b4,b5,b6,b7⟩:=h.bP
 have i1:Rb<w.heap.size:=by omega
 have x7:w.cell? (Y Rb 7)=some (.bool true):=by rw[<-hb,<-hr.bg];exact h.cR.c 7 (by omega)
 have x8:D w Rb 8 (m.v 8):=h.cR.c 8 (by omega);obtain⟨d10,k10,b0⟩:=h.shape 10 (by unfold Zr;omega);rw[hr.gw.1]at b0
 have x10:w.cell? (Y Rb 10)=some (J d10 fl.length k10):=by rw[<-b0];exact h.cR.c 10 (by omega)
 have j1:=hr.ft
 have W0:fl.length<=100000:=by omega
 have O0:(fl.length:Int)<=100000:=by omega
 have H3:O (Xu lo base Rb Pb w0 t (3,r) (.returned (I 3)) w):=⟨rfl,λh=>(by cases h),λ_=>h.bel⟩
 cases hf:r.fr with
 |nil=>
  have e:r.bS i [eq]=(3,r):=(by simp[Fl.RS.bS,hf]);obtain⟨d8,k8,f0⟩:=h.shape 8 (by unfold Zr;omega);rw[hr.r8.1,hf]at f0;rw[f0]at x8;rw[e];clear h hr e hf s0 u0 v0 hb f0 b0;simp only[length_nil]at x8
  go_enter func12,ntmps12
  go_wp2;go_ret;exact H3
 |cons f fs=>
  obtain⟨g8,k8,f0,B0,x0,k1,X0,c8,z8⟩:=h.deep hr hf;rw[f0]at x8;have C0:=hr.fr;rw[hf,length_cons]at C0;obtain⟨kd,m0⟩:=U (fs.length);have l1:(kd:Int)<=2:=(by omega);obtain⟨D0,dS⟩:=v0 f (by rw[hf];simp)
  by_cases aQ:f.kind=5/\f.cA=false
  ·have h0:zzy f=105:=by simp[zzy,aQ.1,aQ.2]
   rw[h0]at c8 x0;have e:r.bS i [eq]=(0,r.cX):=(by simp[Fl.RS.bS,hf,aQ.1,aQ.2]);rw[e];obtain⟨m1,l0⟩:=U (zx9 m (m.v 8) (m.n 8) (Xf fs++[.int .u8 101]));obtain⟨W1,y0⟩:=U (w.setCell (Y g8 kd) (.int .u8 101));have n0:O (Zt lo base Rb Pb w0 W1 m1):=(by show Zt _ _ _ _ _ _ _;rw[l0,y0,m0];exact h.nA f0 B0 x0)
   have j0:O (∀v',Zk r.cX (fl++[Xe]) (t+1) (m1.app 10 v' (Zn Xe))):=λv'=>by rw[l0];exact hr.cX hf aQ.1 _ _
   have E0:O (Xd (fl++[Xe]) r.cX/\dy (fl++[Xe])=r.cX.am):=⟨yrw s0 hf aQ.2 (dS aQ.2),by rw[Uf,u0];unfold Fl.RS.cX;rw[hf];rfl⟩;have d0:O (m1.v 10=J d10 fl.length k10):=(by show _=_;rw[l0,(Jw _ _ _ _ (by decide)).1];exact b0);have e0:O (m1.n 10=fl.length):=(by show _=_;rw[l0,(Jw _ _ _ _ (by decide)).2.1];exact hr.gw.1);have k0:O (m1.xs 10=Jg fl):=(by show _=_;rw[l0,(Jw _ _ _ _ (by decide)).2.2];exact hr.gw.2);have y10:W1.cell? (Y Rb 10)=some (J d10 fl.length k10):=(by rw[<-d0.out];exact n0.cR.c 10 (by omega));have Y0:W1.heap.size=w.heap.size:=(by rw[y0,Zy]);have Z0:base<=W1.heap.size:=(by omega);have a1:Rb<W1.heap.size:=(by omega);have P0:=A y0;have c1:O (∀W:World,_):=zd2;rw[<-m0]at x8 c8 z8;clear h hr s0 u0 v0 hb hf l0 y0 m0 f0 B0 x0 dS D0 e b0 C0 Y0 aQ h0
   go_enter func12,ntmps12
   go_wp2_with fail
   rw[<-P0.out];clear P0 x7 x8 x10 c8 z8;refine zyz (λW=>D W Rb 10 (J d10 fl.length k10)) [8,9,10,11,12] [(0,0),(0,1),(0,2),(0,3),(0,4),(0,5),(1,6),(1,7)] [(0,8),(0,10),(0,11)] 9 12 (by kernel_rfl) (by kernel_rfl) rfl [(_,_),(_,_),(_,_),(_,_),(_,_),(_,_),(_,_),(_,_)] [(_,_),(_,_),(_,_)] _ _ rfl rfl rfl rfl (λc a d v w h=>by cases d<;>exact h) y10 (λops=>?_);simp only[getElem_toArray,getElem_cons_succ,getElem_cons_zero]
   iterate 4 refine Yj rfl (kE (by intro w' hw';have q1:=hw';go_simp<;>rfl) (by go_simp<;>rfl) ?_)
   refine Yj rfl (λWx hK=>?_);refine⟨.agg (Zn Xe).toArray,λw' hw'=>znv 75 _ rfl _ _ (by kernel_rfl) (zd2 _),hK _ ?_⟩;clear hK Wx
   iterate 1 refine Yj rfl (kE (by intro w' hw';have q1:=hw';go_simp<;>rfl) (by go_simp<;>rfl) ?_)
   refine Uv ?_
   go_wp2_with fail
   obtain⟨W3,o0⟩:=U ((W1.alloc (.cells Yv 75)).drew);obtain⟨tb,F0⟩:=U (W1.heap.size);have G0:E W1 W3:=(by rw[o0];exact(bA).drew);have n1:W1.heap.size+1=W3.heap.size:=(by rw[o0];simp);have t0:∀i u,(Yv.toList)[i]?=some u->W3.cell? (((Y tb 0):Addr).add i)=some u:=(by rw[o0,F0];exact zvy (l:=Yv.toList) rfl);have z0:=A G0;have H0:O (W3.ownsRow base 75 10 (J d10 fl.length k10) fl.length (Jg fl)):=by
    have h1:=(n0.below G0).own 10 (by unfold Zr;omega);rw[d0.out,e0.out,k0.out]at h1;exact h1
   have I0:(λW=>D W Rb 10 (J d10 fl.length k10)) W3:=cT z0 (by show Rb<_;omega) y10
   try rw[show ∀o,(W1.drew.alloc o)=(W1.alloc o).drew from λ_=>rfl]
   have eW3:(W1.alloc (.cells #[I 0,I 0,I 0,I 0,.bool false,I 0,.bool false,I 0,Zq,Zq] 75)).drew=W3:=o0.symm;rw[eW3,<-F0];clear o0 F0 eW3 G0;refine⟨I0,?_⟩;refine Uv ?_;obtain⟨i0,Q0,R0,S0,T0⟩:=info_parts Tryz.infoStmtP
   go_wp2_with (at_builtin;refine Ap underlying34 Q0 R0 S0 T0 rfl H0 rfl Yv.toList rfl rfl t0 ?c2 ?c3 ?c4 ?c5 ?_)
   case c2=>exact zj0
   case c3=>unfold maxLen;omega
   case c4=>omega
   case c5=>omega
   intro v' W4 a0 J0 p0;obtain⟨g,gc,rfl⟩:∃g gc,v'=Sq g 0 (fl.length+1) gc:=by
    rcases a0.2 with⟨h1,h2⟩|⟨g,cp,cur,h1,_⟩
    ·omega
    exact⟨g,cp,h1⟩
   have q0:∀k,(J d10 fl.length k10).ownBlock=some k->base<=k/\k<W1.heap.size+1:=λk hk=>by have:=H0.lt k hk;omega
   have o1:base<=g:=(a0.lt g rfl).1;have K0:W4.heap[Rb]?=W3.heap[Rb]?:=J0.block Rb (by omega) (λhh=>by have:=(q0 Rb hh.symm).1;omega);have A0:(λW=>D W Rb 10 (J d10 fl.length k10)) W4:=cQ K0 I0;have gz:∀j,W4.frozen? (Y Rb j)=false:=λj=>fQ K0 ((z0.frozen (p:=(Y Rb j)) (by show Rb<_;omega)).trans (n0.cR.z j));have g0:D W4 Rb 10 (J d10 fl.length k10):=A0;have L0:O (W4.there g (fl.length*10) 10):=zkw a0;have H5:O (Zt lo base Rb Pb w0 ((W4.setCells g (fl.length*10) (Zn Xe)).setCell (Y Rb 10) (Sq g 0 (fl.length+1) gc)) (m1.app 10 (Sq g 0 (fl.length+1) gc) (Zn Xe))):=by
    have h1:=n0.flat (W3:=W3) (W4:=W4) (g:=g) (cap:=gc) (z:=Yv.toList) (cs:=(Zn Xe)) z0 (by rw[e0.out,k0.out];exact a0) rfl rfl (by rw[d0.out];exact J0) (by rw[d0.out];exact p0);rw[e0.out]at h1;exact h1
   have U0:O ((W4.setCell (Y Rb 10) (Sq g 0 (fl.length+1) gc)).setCells g (fl.length*10) (Zn Xe)=(W4.setCells g (fl.length*10) (Zn Xe)).setCell (Y Rb 10) (Sq g 0 (fl.length+1) gc)):=zv0 g Rb 10 _ (by omega) _ _ _;obtain⟨W5,r0⟩:=U (W4.setCells g (fl.length*10) (Zn Xe));have d1:O (W4.setCells g (fl.length*10) ((Zn Xe)).toArray.toList=W5):=r0.symm;obtain⟨W6,M0⟩:=U (W5.setCell (Y Rb 10) (Sq g 0 (fl.length+1) gc));have e1:O ((W4.setCell (Y Rb 10) (Sq g 0 (fl.length+1) gc)).setCells g (fl.length*10) ((Zn Xe)).toArray.toList=W6):=(by show _=_;rw[M0,r0];exact U0);have V0:=A M0;rw[<-r0]at H5;have g0':D (W4.setCells g (fl.length*10) (Zn Xe)) Rb 10 (J d10 fl.length k10):=cQ (Ua g _ W4 _ Rb (by omega)) g0;have gz':(W4.setCells g (fl.length*10) (Zn Xe)).frozen? (Y Rb 10)=false:=(frozen?_setCells g _ _ _ _).trans (gz 10);have N0:O (∀v,(W4.setCell (Y Rb 10) v).there g (fl.length*10) 10):=λv j hj=>⟨by rw[Qc (a:=(Y g (fl.length*10+j))) (Zx _ _ _ _ _ (by show g≠Rb;omega))];exact(L0 j hj).1,by rw[frozen?_setCell];exact(L0 j hj).2⟩;rw[<-r0]at g0' gz';clear r0 M0 U0;have HE:O (Xu lo base Rb Pb w0 t (0,r.cX) (.returned (I 0)) (W5.setCell (Y Rb 10) (Sq g 0 (fl.length+1) gc))):=⟨rfl,λ_=>⟨_,_,H5,j0 _,E0.1,E0.2⟩,λhh=>absurd rfl hh⟩;have f1:O (Xu lo base Rb Pb w0 t (0,r.cX) (.returned (I 0)) W6):=(by show Xu _ _ _ _ _ _ _ _ _;rw[V0.out];exact HE);clear H5 j0 E0 V0;clear a0 J0 p0 K0 t0 H0 z0 q0 n0 d0 e0 k0 I0 Q0 R0 S0 T0 i0
   go_wp2_with fail
   refine⟨A0,?_⟩
   try (refine Xa ?_;refine⟨A0,?_⟩)
   clear A0;have g1:(fl.length:Int)<(fl.length:Int)+1:=(by omega)
   try simp only[getElem_toArray,getElem_cons_succ,getElem_cons_zero]
   iterate 3 refine Yj rfl (kE (by rintro _ -;go_simp<;>rfl) (by go_simp<;>rfl) ?_)
   refine Xa ?_;refine⟨trivial,?_,?_⟩
   ·go_wp2_with (refine Ya 86 ?_;refine Vf rfl 75 (.tmp 86) (.tmp 82) rfl g (fl.length*10) ((Zn Xe)).toArray rfl rfl L0.out Tryz.infoStmt10 (by kernel_rfl) d1 ?_)
    go_wp2;go_ret;exact HE
   go_wp2_with (refine Ya 86 ?_;refine Vf rfl 75 (.tmp 86) (.tmp 82) rfl g (fl.length*10) ((Zn Xe)).toArray rfl rfl (N0 _) Tryz.infoStmt10 (by kernel_rfl) e1 ?_)
   go_wp2;go_ret;exact f1
  have e:r.bS i [eq]=(3,r):=by
   simp only[Fl.RS.bS,hf];rw[G (by decide),Z aQ]
  rw[e];have h0:zzy f=119\/zzy f=101:=by
   unfold zzy;rcases D0 with h1|h1
   ·have h2:f.cA=true:=by
     cases h3:f.cA with
     |true=>rfl
     |false=>exact absurd ⟨h1,h3⟩ aQ
    right;simp[h1,h2]
   left;simp[h1.1]
  rw[<-m0]at x8 c8 z8;clear h hr s0 u0 v0 hb hf m0 f0 B0 x0 dS D0 e aQ b0 C0 x10;rcases h0 with h0|h0
  all_goals
   rw[h0]at c8;clear h0
   go_enter func12,ntmps12
   go_wp2;go_ret;exact H3
def row_end(h:Zt lo base Rb Pb w0 w m)(hr:Zk r fl t m)(u0:Xd fl r)(v0:dy fl=r.am)(x0:∀f∈r.fr,(f.kind=5\/(f.kind=6/\f.cA=false))/\(f.cA=false->f.fN=[]))(ht:t<=100000)(b off cap:Nat)(at_:Int)(c0:w.cell? (Y b off)=some (.string ⟨#[101,110,100]⟩))(hb:r.ae=true)(i:Nat):
  F 12 #[M Rb,Sq b off 1 cap,I at_] w (Xu lo base Rb Pb w0 t (r.bS i [gT])):=by
 obtain⟨b1,b2,b3,b4,b5,b6,b7⟩:=h.bP
 have j1:Rb<w.heap.size:=by omega
 have x7:w.cell? (Y Rb 7)=some (.bool true):=by rw[<-hb,<-hr.bg];exact h.cR.c 7 (by omega)
 have x8:D w Rb 8 (m.v 8):=h.cR.c 8 (by omega);obtain⟨d10,k10,b0⟩:=h.shape 10 (by unfold Zr;omega);rw[hr.gw.1]at b0
 have x10:w.cell? (Y Rb 10)=some (J d10 fl.length k10):=by rw[<-b0];exact h.cR.c 10 (by omega)
 have k1:=hr.ft
 have X0:fl.length<=100000:=by omega
 have K0:(fl.length:Int)<=100000:=by omega
 have H3:O (Xu lo base Rb Pb w0 t (3,r) (.returned (I 3)) w):=⟨rfl,λh=>(by cases h),λ_=>h.bel⟩
 cases hf:r.fr with
 |nil=>
  have e:r.bS i [gT]=(3,r):=(by simp[Fl.RS.bS,hf]);obtain⟨d8,k8,f0⟩:=h.shape 8 (by unfold Zr;omega);rw[hr.r8.1,hf]at f0;rw[f0]at x8;rw[e];clear h hr e hf u0 v0 x0 hb f0 b0;simp only[length_nil]at x8
  go_enter func12,ntmps12
  go_wp2;go_ret;exact H3
 |cons f fs=>
  obtain⟨g8,k8,f0,L0,M0,l1,Y0,c8,z8⟩:=h.deep hr hf;rw[f0]at x8;have N0:=hr.fr;rw[hf,length_cons]at N0;obtain⟨kd,y0⟩:=U (fs.length);have n1:(kd:Int)<=2:=(by omega);obtain⟨O0,dS⟩:=x0 f (by rw[hf];simp);have e:r.bS i [gT]=(0,r.bB):=(by simp[Fl.RS.bS,hf,gT,eq]);rw[e];obtain⟨m1,k0⟩:=U (zx9 m (Sq g8 0 kd k8) fs.length (Xf fs));obtain⟨W1,q0⟩:=U (w.setCell (Y Rb 8) (Sq g8 0 kd k8));have l0:O (Zt lo base Rb Pb w0 W1 m1):=(by show Zt _ _ _ _ _ _ _;rw[k0,q0,y0];exact h.ot f0 L0 M0)
  have h0:O (∀v',Zk r.bB (fl++[Xk]) (t+1) (m1.app 10 v' (Zn Xk))):=λv'=>by rw[k0];exact hr.bB hf _ _
  have z0:O (Xd (fl++[Xk]) r.bB/\dy (fl++[Xk])=r.bB.am):=⟨yk1 u0 hf (by rcases O0 with h1|h1;exact .inl h1;exact .inr h1.1) dS hr.fr,by rw[Uf,v0,(yz6 hf).2.2.2.2.2.2.2.2.2];rfl⟩;have z8R:w.frozen? (Y Rb 8)=false:=h.cR.z 8;have P0:kd+1<=k8:=by
   rcases(h.own 8 (by unfold Zr;omega)).2 with⟨h3,h4⟩|⟨g,cp,cur,h3,o1,p1,r1,s1,t1,u1⟩
   ·omega
   rw[f0]at h3;simp only[slice.injEq]at h3;omega
  have A0:(kd:Int)+1<=(k8:Int):=(by omega);have d0:O (m1.v 10=J d10 fl.length k10):=(by show _=_;rw[k0,(Jw _ _ _ _ (by decide)).1];exact b0);have e0:O (m1.n 10=fl.length):=(by show _=_;rw[k0,(Jw _ _ _ _ (by decide)).2.1];exact hr.gw.1);have j0:O (m1.xs 10=Jg fl):=(by show _=_;rw[k0,(Jw _ _ _ _ (by decide)).2.2];exact hr.gw.2);have y10:W1.cell? (Y Rb 10)=some (J d10 fl.length k10):=(by rw[<-d0.out];exact l0.cR.c 10 (by omega));have Z0:W1.heap.size=w.heap.size:=(by rw[q0,Zy]);have a1:base<=W1.heap.size:=(by omega);have c1:Rb<W1.heap.size:=(by omega);have Q0:=A q0;have d1:O (∀W:World,_):=yz7;rw[<-y0]at x8 c8 z8;clear h hr u0 v0 x0 hb hf k0 q0 y0 f0 L0 M0 dS O0 e b0 N0 Z0
  go_enter func12,ntmps12
  go_wp2_with fail
  rw[<-Q0.out];clear Q0 x7 x8 x10 c8 z8;refine zyz (λW=>D W Rb 10 (J d10 fl.length k10)) [8,9,10,11,12] [(0,0),(0,1),(0,2),(0,3),(0,4),(0,5),(1,6),(1,7)] [(0,8),(0,10),(0,11)] 9 12 (by kernel_rfl) (by kernel_rfl) rfl [(_,_),(_,_),(_,_),(_,_),(_,_),(_,_),(_,_),(_,_)] [(_,_),(_,_),(_,_)] _ _ rfl rfl rfl rfl (λc a d v w h=>by cases d<;>exact h) y10 (λops=>?_);simp only[getElem_toArray,getElem_cons_succ,getElem_cons_zero]
  iterate 4 refine Yj rfl (kE (by intro w' hw';have q1:=hw';go_simp<;>rfl) (by go_simp<;>rfl) ?_)
  refine Yj rfl (λWx hK=>?_);refine⟨.agg (Zn Xk).toArray,λw' hw'=>znv 75 _ rfl _ _ (by kernel_rfl) (yz7 _),hK _ ?_⟩;clear hK Wx
  iterate 1 refine Yj rfl (kE (by intro w' hw';have q1:=hw';go_simp<;>rfl) (by go_simp<;>rfl) ?_)
  refine Uv ?_
  go_wp2_with fail
  obtain⟨W3,m0⟩:=U ((W1.alloc (.cells Yv 75)).drew);obtain⟨tb,B0⟩:=U (W1.heap.size);have C0:E W1 W3:=(by rw[m0];exact(bA).drew);have v1:W1.heap.size+1=W3.heap.size:=(by rw[m0];simp);have t0:∀i u,(Yv.toList)[i]?=some u->W3.cell? (((Y tb 0):Addr).add i)=some u:=(by rw[m0,B0];exact zvy (l:=Yv.toList) rfl);have r0:=A C0;have D0:O (W3.ownsRow base 75 10 (J d10 fl.length k10) fl.length (Jg fl)):=by
   have h1:=(l0.below C0).own 10 (by unfold Zr;omega);rw[d0.out,e0.out,j0.out]at h1;exact h1
  have E0:(λW=>D W Rb 10 (J d10 fl.length k10)) W3:=cT r0 (by show Rb<_;omega) y10
  try rw[show ∀o,(W1.drew.alloc o)=(W1.alloc o).drew from λ_=>rfl]
  have eW3:(W1.alloc (.cells #[I 0,I 0,I 0,I 0,.bool false,I 0,.bool false,I 0,Zq,Zq] 75)).drew=W3:=m0.symm;rw[eW3,<-B0];clear m0 B0 eW3 C0;refine⟨E0,?_⟩;refine Uv ?_;obtain⟨i0,R0,S0,T0,U0⟩:=info_parts Tryz.infoStmtP
  go_wp2_with (at_builtin;refine Ap underlying34 R0 S0 T0 U0 rfl D0 rfl Yv.toList rfl rfl t0 ?c2 ?c3 ?c4 ?c5 ?_)
  case c2=>exact zj0
  case c3=>unfold maxLen;omega
  case c4=>omega
  case c5=>omega
  intro v' W4 a0 F0 n0;obtain⟨g,gc,rfl⟩:∃g gc,v'=Sq g 0 (fl.length+1) gc:=by
   rcases a0.2 with⟨h1,h2⟩|⟨g,cp,cur,h1,_⟩
   ·omega
   exact⟨g,cp,h1⟩
  have o0:∀k,(J d10 fl.length k10).ownBlock=some k->base<=k/\k<W1.heap.size+1:=λk hk=>by have:=D0.lt k hk;omega
  have x1:base<=g:=(a0.lt g rfl).1;have G0:W4.heap[Rb]?=W3.heap[Rb]?:=F0.block Rb (by omega) (λhh=>by have:=(o0 Rb hh.symm).1;omega);have s0:(λW=>D W Rb 10 (J d10 fl.length k10)) W4:=cQ G0 E0;have gz:∀j,W4.frozen? (Y Rb j)=false:=λj=>fQ G0 ((r0.frozen (p:=(Y Rb j)) (by show Rb<_;omega)).trans (l0.cR.z j));have g0:D W4 Rb 10 (J d10 fl.length k10):=s0;have H0:O (W4.there g (fl.length*10) 10):=zkw a0;have H5:O (Zt lo base Rb Pb w0 ((W4.setCells g (fl.length*10) (Zn Xk)).setCell (Y Rb 10) (Sq g 0 (fl.length+1) gc)) (m1.app 10 (Sq g 0 (fl.length+1) gc) (Zn Xk))):=by
   have h1:=l0.flat (W3:=W3) (W4:=W4) (g:=g) (cap:=gc) (z:=Yv.toList) (cs:=(Zn Xk)) r0 (by rw[e0.out,j0.out];exact a0) rfl rfl (by rw[d0.out];exact F0) (by rw[d0.out];exact n0);rw[e0.out]at h1;exact h1
  have V0:O ((W4.setCell (Y Rb 10) (Sq g 0 (fl.length+1) gc)).setCells g (fl.length*10) (Zn Xk)=(W4.setCells g (fl.length*10) (Zn Xk)).setCell (Y Rb 10) (Sq g 0 (fl.length+1) gc)):=zv0 g Rb 10 _ (by omega) _ _ _;obtain⟨W5,p0⟩:=U (W4.setCells g (fl.length*10) (Zn Xk));have e1:O (W4.setCells g (fl.length*10) ((Zn Xk)).toArray.toList=W5):=p0.symm;obtain⟨W6,I0⟩:=U (W5.setCell (Y Rb 10) (Sq g 0 (fl.length+1) gc));have f1:O ((W4.setCell (Y Rb 10) (Sq g 0 (fl.length+1) gc)).setCells g (fl.length*10) ((Zn Xk)).toArray.toList=W6):=(by show _=_;rw[I0,p0];exact V0);have W0:=A I0;rw[<-p0]at H5;have g0':D (W4.setCells g (fl.length*10) (Zn Xk)) Rb 10 (J d10 fl.length k10):=cQ (Ua g _ W4 _ Rb (by omega)) g0;have gz':(W4.setCells g (fl.length*10) (Zn Xk)).frozen? (Y Rb 10)=false:=(frozen?_setCells g _ _ _ _).trans (gz 10);have J0:O (∀v,(W4.setCell (Y Rb 10) v).there g (fl.length*10) 10):=λv j hj=>⟨by rw[Qc (a:=(Y g (fl.length*10+j))) (Zx _ _ _ _ _ (by show g≠Rb;omega))];exact(H0 j hj).1,by rw[frozen?_setCell];exact(H0 j hj).2⟩;rw[<-p0]at g0' gz';clear p0 I0 V0;have HE:O (Xu lo base Rb Pb w0 t (0,r.bB) (.returned (I 0)) (W5.setCell (Y Rb 10) (Sq g 0 (fl.length+1) gc))):=⟨rfl,λ_=>⟨_,_,H5,h0 _,z0.1,z0.2⟩,λhh=>absurd rfl hh⟩;have g1:O (Xu lo base Rb Pb w0 t (0,r.bB) (.returned (I 0)) W6):=(by show Xu _ _ _ _ _ _ _ _ _;rw[W0.out];exact HE);clear H5 h0 z0 W0;clear a0 F0 n0 G0 t0 D0 r0 o0 l0 d0 e0 j0 E0 R0 S0 T0 U0 i0
  go_wp2_with fail
  refine⟨s0,?_⟩
  try (refine Xa ?_;refine⟨s0,?_⟩)
  clear s0;have i1:(fl.length:Int)<(fl.length:Int)+1:=(by omega)
  try simp only[getElem_toArray,getElem_cons_succ,getElem_cons_zero]
  iterate 3 refine Yj rfl (kE (by rintro _ -;go_simp<;>rfl) (by go_simp<;>rfl) ?_)
  refine Xa ?_;refine⟨trivial,?_,?_⟩
  ·go_wp2_with (refine Ya 110 ?_;refine Vf rfl 75 (.tmp 110) (.tmp 106) rfl g (fl.length*10) ((Zn Xk)).toArray rfl rfl H0.out Tryz.infoStmt10 (by kernel_rfl) e1 ?_)
   go_wp2;go_ret;exact HE
  go_wp2_with (refine Ya 110 ?_;refine Vf rfl 75 (.tmp 110) (.tmp 106) rfl g (fl.length*10) ((Zn Xk)).toArray rfl rfl (J0 _) Tryz.infoStmt10 (by kernel_rfl) f1 ?_)
  go_wp2;go_ret;exact g1
end
section
variable{m:Yo}{fl:List FlS}
def zcx(lo base Rb Pb:Nat)(w0 w:World)(ow:Nat->Option Nat)(kp:Nat->Prop)(fl:List FlS)(t:Nat)(aX:Option (Nat×Fl.RS))(op:Int)(av:Bool)(an:Int)(bv:Bool)(bn:Int)(e:Ending)(w':World):Prop:=
 (∀b,b<w.heap.size->b≠Rb->ow 4≠some b->w'.heap[b]?=w.heap[b]?)/\
 (∀x r',aX=some (x,r')->e=.returned (.tuple #[.agg (Zg 3 x op av an bv bn),I 0])/\∃m',Zt lo base Rb Pb w0 w' m'/\Zk r' fl t m'/\m'.gy=kp/\∀j,Zr j->∀b,(m'.v j).ownBlock=some b->ow j=some b\/w.heap.size<=b)/\(aX=none->(∃x:Int,e=.returned (.tuple #[.agg (Zg 3 x op av an bv bn),I 5]))/\Below lo w0 w')
def ziw(h:Zt lo base Rb Pb w0 w m)(hr:Zk r fl t m)(x:K)(hx:x.length<=100000)(op:Int)(av:Bool)(an:Int)(bv:Bool)(bn:Int):
  F 34 #[M Rb,.agg #[I 3,I 0,I 0,I op,.bool av,I an,.bool bv,I bn,Zq,Zq],Tq x] w (zcx lo base Rb Pb w0 w (λj=>(m.v j).ownBlock) m.gy fl t (r.bj x) op av an bv bn):=by
 have bP:=h.bP
 have u0:Rb<w.heap.size:=by omega
 have v0:O (∀W,E w W->F 21 #[m.v 2,Tq x] W (Rq (I (ai r.cells x)) W)):=λW hW=>Xl ((h.below hW).cells hr) x;have x0:O (∀W,E w W->F 21 #[m.v 4,Tq x] W (Rq (I (ai r.ak x)) W)):=λW hW=>Xl ((h.below hW).ak hr) x;obtain⟨c2,k2,m0⟩:=h.shape 2 (by unfold Zr;omega);obtain⟨c4,k4,e0⟩:=h.shape 4 (by unfold Zr;omega);rw[hr.r2.1]at m0;rw[hr.r4.1]at e0;have f0:=A e0;rw[m0]at v0;rw[e0]at x0;have HH:=A h;have HO:=A hr;have Q2:O (∀W,E w W->W.cell? (Y Rb 2)=some (J c2 r.cells.length k2)):=λW hW=>cT hW u0 (by rw[<-m0];exact h.cR.c 2 (by omega));have Q4:O (∀W,E w W->W.cell? (Y Rb 4)=some (J c4 r.ak.length k4)):=λW hW=>cT hW u0 (by rw[<-e0];exact h.cR.c 4 (by omega));have HB:O (∀o o',E w ((w.alloc o).alloc o')):=λo o'=>(bA).alloc (by simp) _;have q2:∀o o',((w.alloc o).alloc o').cell? (Y Rb 2)=some (J c2 r.cells.length k2):=λo o'=>Q2 _ (HB _ _);have q4:∀o o',((w.alloc o).alloc o').cell? (Y Rb 4)=some (J c4 r.ak.length k4):=λo o'=>Q4 _ (HB _ _);have g0:O (r.bj x=if 0<=ai r.cells x then some ((ai r.cells x).toNat,r) else if 0<=ai r.ak x then some (r.cells.length+(ai r.ak x).toNat,r) else if r.ak.length=4 then none else some (r.cells.length+r.ak.length,{r with ak:=r.ak++[x]})):=rfl;obtain⟨aX,h0⟩:=U (r.bj x);rw[<-h0]at g0⊢;have M0:=aO r.cells x;have N0:=aO r.ak x;have O0:=hr.ce;have cq:=hr.lo;generalize ai r.cells x=pc at*;generalize ai r.ak x=pl at*
 have A0:(r.cells.length:Int)<=6:=by omega
 have B0:(r.ak.length:Int)<=4:=by omega
 have C0: -1<=pc/\pc<=6:=by omega
 have D0: -1<=pl/\pl<=4:=by omega
 clear h hr h0 m0 e0
 go_enter func34,ntmps34
 go_wp2_with fail
 refine(v0 _ (HB _ _)).mono ?_;rintro e w1 ⟨rfl,j0⟩;rw[j0];clear j0 w1
 by_cases hp:0<=pc
 ·have HR:O (aX=some (pc.toNat,r)):=by show _=_;rw[g0.out,G hp]
  have E1:O (((pc.toNat:Nat):Int)=pc):=(by show _=_;omega);go_wp2;refine bodyPost_ret (v:=.tuple #[.agg (Zg 3 pc op av an bv bn),I 0]) (by simp[results,results34,go_sem,Zg]) rfl ?_;rw[HR.out];refine⟨λb hb _ _=>(HB _ _).block b hb,λy r' hy=>?_,λh=>by cases h⟩;simp only[Ql,Prod.mk.injEq]at hy;obtain⟨rfl,rfl⟩:=hy;exact⟨by rw[E1.out],m,HH.below (HB _ _),HO,rfl,λj hj b hb=> .inl hb⟩
 have P0:pc<0:=by omega
 clear hp
 go_wp2_with fail
 refine(x0 _ (HB _ _)).mono ?_;rintro e w1 ⟨rfl,j0⟩;rw[j0];clear j0 w1
 by_cases hl:0<=pl
 ·have HR:O (aX=some (r.cells.length+pl.toNat,r)):=by show _=_;rw[g0.out,Z (show ¬0<=pc by omega),G hl]
  have E1:O (((r.cells.length+pl.toNat:Nat):Int)=(r.cells.length:Int)+pl):=(by show _=_;omega);go_wp2;refine bodyPost_ret (v:=.tuple #[.agg (Zg 3 ((r.cells.length:Int)+pl) op av an bv bn),I 0]) (by simp[results,results34,go_sem,Zg]) rfl ?_;rw[HR.out];refine⟨λb hb _ _=>(HB _ _).block b hb,λy r' hy=>?_,λh=>by cases h⟩;simp only[Ql,Prod.mk.injEq]at hy;obtain⟨rfl,rfl⟩:=hy;exact⟨by rw[E1.out],m,HH.below (HB _ _),HO,rfl,λj hj b hb=> .inl hb⟩
 have Q0:pl<0:=by omega
 clear hl
 by_cases h4:r.ak.length=4
 ·have b4:((r.ak.length:Int)==4)=true:=by simp[h4]
  have HR:O (aX=none):=(by show _=_;rw[g0.out,Z (show ¬0<=pc by omega),Z (show ¬0<=pl by omega),G h4]);clear h4;go_wp2;refine bodyPost_ret (v:=.tuple #[.agg (Zg 3 pc op av an bv bn),I 5]) (by simp[results,results34,go_sem,Zg]) rfl ?_;rw[HR.out];exact⟨λb hb _ _=>(HB _ _).block b hb,λy r' hy=>(by cases hy),λ_=>⟨⟨_,rfl⟩,HH.bel.trans ((HB _ _).mono (by omega))⟩⟩
 have b4:((r.ak.length:Int)==4)=false:=by simp;omega
 have HR:O (aX=some (r.cells.length+r.ak.length,{r with ak:=r.ak++[x]})):=by show _=_;rw[g0.out,Z (show ¬0<=pc by omega),Z (show ¬0<=pl by omega),Z h4]
 have E0:r.ak.length<4:=by omega
 clear h4;obtain⟨i0,F0,G0,H0,I0⟩:=info_parts Tryz.infoStr
 have n0:O (∀W,E w W->W.ownsRow base 9 1 (J c4 r.ak.length k4) r.ak.length (r.ak.map strV)):=λW hW=>by
  have h1:=(HH.below hW).own 4 (by unfold Zr;omega);rw[HO.r4.1,HO.r4.2,f0.out]at h1;exact h1
 have y0:∀o o' o'',E w (((w.alloc o).alloc o').alloc o''):=λo o' o''=>(HB _ _).alloc (by simp;omega) _;have o0:=A y0;clear y0
 go_wp2_with (at_builtin;refine Ap underlying49 F0 G0 H0 I0 rfl (n0 _ (o0 _ _ _)) rfl [strV x] rfl rfl (ziz (by simp)) ?c2 ?c3 ?c4 ?c5 ?_)
 case c2=>intro u hu;simp at hu;subst hu;rfl
 case c3=>unfold maxLen;omega
 case c4=>omega
 case c5=>simp;omega
 intro v' W4 a0 k0 c0;have d0:∀k,(J c4 r.ak.length k4).ownBlock=some k->k<w.heap.size:=λk hk=>((n0 w (Below.refl _ _)).lt k hk).2;have b0:O (Zt lo base Rb Pb w0 (W4.setCell (Y Rb 4) v') (m.app 4 v' [strV x])):=by
  refine HH.kA 4 (by unfold Zr;omega) (by omega) (o0 _ _ _) ?_ (by rw[f0.out];exact k0) (by rw[f0.out];rcases c0 with h1|h1;exact .inl h1;exact .inr (by rw[h1];try simp));rw[HO.r4.1,HO.r4.2];exact a0
 have J0:O (Zk {r with ak:=r.ak++[x]} fl t (m.app 4 v' [strV x])):=HO.jy x v' hx E0;obtain⟨va',vcap,rfl⟩:∃va vcap,v'=J va (r.ak.length+1) vcap:=by
  rcases a0.2 with⟨h1,h2⟩|⟨g,cp,cur,h1,_⟩
  ·omega
  exact⟨_,cp,h1⟩
 have q4:∀b,b<w.heap.size+2->(J c4 r.ak.length k4).ownBlock≠some b->W4.heap[b]?=_:=λb hb p0=>k0.block b (by simp;omega) (Ne.symm p0)
 have q0:∀b,w.heap.size<=b->(J c4 r.ak.length k4).ownBlock≠some b:=λb hb hh=>by have:=d0 b hh;omega
 have rS:W4.heap[w.heap.size]?=some (.cells #[I 3,I pc,I 0,I op,.bool av,I an,.bool bv,I bn,Zq,Zq] 75 (0,0)):=by
  rw[q4 _ (by omega) (q0 _ lE),Below.heap_alloc _ _ _ (by simp;omega),Below.heap_alloc _ _ _ (by simp)];exact heap_alloc_last _ _
 have rE:W4.heap[w.heap.size+1]?=some (.cells Yv 75 (0,0)):=by
  rw[q4 _ (by omega) (q0 _ (by omega)),Below.heap_alloc _ _ _ (by simp)];exact zx8 _ _ _ (by simp)
 have z4:W4.cell? (Y Rb 4)=some (J c4 r.ak.length k4):=by
  have h1:=b0.cR;have h2:=(HH.own 4 (by unfold Zr;omega)).lt;refine(Qc (a:=(Y Rb 4)) (q4 Rb (by omega) (λhh=>by have:=((n0 w (Below.refl _ _)).lt Rb hh).1;omega))).trans ?_;exact Q4 _ (o0 _ _ _)
 have fz:∀j,W4.frozen? (Y Rb j)=false:=λj=>by
  have:=b0.cR.z j;rw[frozen?_setCell]at this;exact this
 have s0:W4.cell? (Y w.heap.size 0)=some (I 3):=cR 0 rS;have s1:W4.cell? (Y w.heap.size 1)=some (I pc):=cR 1 rS;have s2:W4.cell? (Y w.heap.size 2)=some (I 0):=cR 2 rS;have s3:W4.cell? (Y w.heap.size 3)=some (I op):=cR 3 rS;have s4:W4.cell? (Y w.heap.size 4)=some (.bool av):=cR 4 rS;have s5:W4.cell? (Y w.heap.size 5)=some (I an):=cR 5 rS;have s6:W4.cell? (Y w.heap.size 6)=some (.bool bv):=cR 6 rS;have s7:W4.cell? (Y w.heap.size 7)=some (I bn):=cR 7 rS;have s8:W4.cell? (Y w.heap.size 8)=some Zq:=cR 8 rS;have s9:W4.cell? (Y w.heap.size 9)=some Zq:=cR 9 rS
 have sz:∀j,W4.frozen? (Y w.heap.size j)=false:=λj=>by simp[frozen?,rS]
 have p0:w.heap.size≠Rb:=by omega
 have c24:W4.cell? (Y Rb 2)=some (J c2 r.cells.length k2):=by
  have h1:=b0.cR.c 2 (by omega);have h2:=Q2 w (Below.refl _ _);rw[HH.cR.c 2 (by omega)]at h2;have h4:(W4.setCell (Y Rb 4) (J va' (r.ak.length+1) vcap)).cell? (Y Rb 2)=W4.cell? (Y Rb 2):=Qg _ _ _ _ (by simp);rw[<-h4,h1];exact h2
 have z0:O (∀v,((W4.setCell (Y Rb 4) (J va' (r.ak.length+1) vcap)).setCell (Y w.heap.size 1) v).heap[w.heap.size+1]?=some (.cells Yv 75 (0,0))):=λv=>(Zx _ _ _ _ _ (by omega)).trans ((Zx _ _ _ _ _ (by omega)).trans rE);have K0:O (w.heap.size+2<=W4.heap.size):=by
  show _<=_;have:=k0.size;simp at this;omega
 have L0:O (∀j,Zr j->∀b,((m.app 4 (J va' (r.ak.length+1) vcap) [strV x]).v j).ownBlock=some b->b≠w.heap.size/\b≠w.heap.size+1):=λj hj b hb=>by
  have hv:(m.app 4 (J va' (r.ak.length+1) vcap) [strV x]).v j=if j=4 then J va' (r.ak.length+1) vcap else m.v j:=rfl;rw[hv]at hb
  by_cases h4:j=4
  ·rw[G h4]at hb
   rcases c0 with h1|h1
   ·rw[h1]at hb;have:=d0 b hb;omega
   rw[h1]at hb;simp at hb;omega
  rw[Z h4]at hb;have:=((HH.own j hj).lt b hb).2;omega
 have r0:O (∀j,Zr j->∀b,((m.app 4 (J va' (r.ak.length+1) vcap) [strV x]).v j).ownBlock=some b->(m.v j).ownBlock=some b\/w.heap.size<=b):=λj hj b hb=>by
  have hv:(m.app 4 (J va' (r.ak.length+1) vcap) [strV x]).v j=if j=4 then J va' (r.ak.length+1) vcap else m.v j:=rfl;rw[hv]at hb
  by_cases h4:j=4
  ·rw[G h4]at hb
   rcases c0 with h1|h1
   ·left;rw[h4,f0.out,<-h1];exact hb
   right;rw[h1]at hb;simp at hb;omega
  rw[Z h4]at hb;exact .inl hb
 have t0:O (∀b,b<w.heap.size->(J c4 r.ak.length k4).ownBlock≠some b->W4.heap[b]?=w.heap[b]?):=λb hb p0=>(k0.block b (by simp;omega) (Ne.symm p0)).trans ((o0 _ _ _).block b hb);clear a0 k0 c0 q4 q0 rS rE d0 n0
 go_wp2_with (refine Jx rfl (.tmp 6) (.tmp 54) 75 rfl (w.heap.size+1) rfl Yv (Zg 3 ((r.cells.length:Int)+(r.ak.length:Int)) op av an bv bn) rfl 75 (z0 _) Tryz.infoStmt10 rfl (by simp[Zg,oneCell']) ?_)
 refine bodyPost_ret (v:=.tuple #[.agg (Zg 3 ((r.cells.length:Int)+(r.ak.length:Int)) op av an bv bn),I 0]) ?_ rfl ?_
 ·exact zq0 (p:=6) (q:=7) (ty:=75) results34 _ _ (Y (w.heap.size+1) 0) _ rfl (run_loadVar_row _ _ _ _ _ _ _ (setRow_heap _ _ _ _ _ _ (z0 _)) underlying75 rfl Tryz.infoStmt10)
 rw[HR.out];refine⟨λb hb h1 h2=>?_,λy r' hy=>?_,λh=>by cases h⟩
 ·rw[setRow_other _ _ _ _ (by omega),Zx _ _ _ _ _ (by omega),Zx _ _ _ _ _ h1]
  exact t0 b hb (by rw[<-f0.out];exact h2)
 simp only[Ql,Prod.mk.injEq]at hy;obtain⟨rfl,rfl⟩:=hy;refine⟨by push_cast;rfl,_,?_,J0,rfl,r0⟩;have hz:=K0.out;refine b0.aside ?_ ?_ (λb hb=>?_) ?_
 ·exact below_setRow (b0.bel.setCell (show lo<=w.heap.size by omega) _) (by omega) _
 ·simp only[setRow,Array.size_modify,Zy];omega
 ·have l0:b≠w.heap.size/\b≠w.heap.size+1:=by
   rcases hb with rfl|rfl|⟨j,hj,hb⟩|hb
   ·omega
   ·omega
   ·exact L0 j hj b hb
   have:=(HH.kp b hb).2.1;omega
  rw[setRow_other _ _ _ _ l0.2,Zx _ _ _ _ _ l0.1]
 simp only[setRow,Array.size_modify,Zy];exact Nat.le_refl _
end
def Us(r:Fl.RS)(n:K)(v:List K):Nat×aa×Fl.RS:=match r.value v with
 |none=>(4,noS,r)
 |some e=>if 0<=ai r.aj n then(4,noS,r) else match r.bj n with
  |none=>(5,noS,r)
  |some (x,r')=>(0,⟨3,x,0,e,[],[]⟩,r')
abbrev SAt(W:World)(s b off:Nat)(op:Int)(av:Bool)(an:Int)(bv:Bool)(bn:Int)(n:K):Prop:=
 W.cell? (Y s 0)=some (I 3)/\W.cell? (Y s 1)=some (I 0)/\W.cell? (Y s 2)=some (I 0)/\W.cell? (Y s 3)=some (I op)/\W.cell? (Y s 4)=some (.bool av)/\W.cell? (Y s 5)=some (I an)/\W.cell? (Y s 6)=some (.bool bv)/\W.cell? (Y s 7)=some (I bn)/\W.cell? (Y s 8)=some Zq/\W.cell? (Y s 9)=some Zq/\W.cell? (Y b (off+1))=some (Tq n)
def SAt.of{W:World}{s b off:Nat}{op an bn:Int}{av bv:Bool}{n:K}(h:W.heap[s]?=some (.cells (Zg 3 0 op av an bv bn) 75 (0,0)))(h2:W.cell? (Y b (off+1))=some (Tq n)):SAt W s b off op av an bv bn n:=
 ⟨cR 0 h,cR 1 h,cR 2 h,cR 3 h,cR 4 h,cR 5 h,cR 6 h,cR 7 h,cR 8 h,cR 9 h,h2⟩
section
variable{m:Yo}{fl:List FlS}
def st_set3(h:Zt lo base Rb Pb w0 w m)(hr:Zk r fl t m)(b off cap:Nat)(n a:K)(ha:a.length<=100000)(S0:n.length<=100000)(hb:b<w.heap.size)(B0:b≠Rb/\∀j,Zr j->(m.v j).ownBlock≠some b)(T0:3<=cap/\cap<=maxLen)(c0:w.cell? (Y b off)=some (.string ⟨#[115,101,116]⟩))(c1:w.cell? (Y b (off+1))=some (Tq n))(c2:w.cell? (Y b (off+2))=some (Tq a)):
  F 23 #[M Rb,Sq b off 3 cap] w (zwy lo base Rb Pb w0 w m fl t (Us r n [a])):=by
 have bP:=h.bP
 have U0:Rb<w.heap.size:=by omega
 have HH:=A h;have HO:=A hr;have C0:O (∀W,E w W->F 33 #[M Rb,Tq a] W (zo8 (r.atom a) W)):=λW hW=>zs2 (h.below hW) hr a ha;have D0:O (∀W,E w W->F 21 #[m.v 3,Tq n] W (Rq (I (ai r.aj n)) W)):=λW hW=>Xl ((h.below hW).aj hr) n;obtain⟨c3,k3,n0⟩:=h.shape 3 (by unfold Zr;omega);rw[hr.r3.1]at n0;rw[n0]at D0;have r0:O (∀W,E w W->D W Rb 3 (J c3 r.aj.length k3)/\D W b (off+1) (Tq n)):=λW hW=>⟨cT hW U0 (by rw[<-n0];exact h.cR.c 3 (by omega)),cT hW hb c1⟩;have f1:=aO r.aj n;have g1:=hr.ch
 have f0:O (Us r n [a]=match r.atom a with|none=>(4,noS,r)|some x=>if 0<=ai r.aj n then(4,noS,r) else match r.bj n with
  |none=>(5,noS,r)
  |some (y,r')=>(0,⟨3,y,0,⟨-1,x,kz⟩,[],[]⟩,r')):=by
  show _=_;have hv:r.value [a]=(r.atom a).map λx=>⟨-1,x,kz⟩:=rfl;unfold Us;rw[hv];generalize r.atom a=o
  cases o<;>rfl
 obtain⟨aX,g0⟩:=U (Us r n [a]);rw[<-g0]at f0⊢;obtain⟨oa,E0⟩:=U (r.atom a);rw[<-E0]at C0 f0;generalize ai r.aj n=pc at*
 have F0:(3:Int)<=(cap:Int):=by omega
 have V0: -1<=pc/\pc<=3:=by omega
 have HB:O (∀o o',E w ((w.alloc o).alloc o')):=λo o'=>(bA).alloc (by simp) _;have W0:O (∀W,E w W->∀(av:Bool) (an:Int),F 34 #[M Rb,.agg #[I 3,I 0,I 0,I (-1),.bool av,I an,.bool false,I 0,Zq,Zq],Tq n] W (zcx lo base Rb Pb w0 W (λj=>(m.v j).ownBlock) m.gy fl t (r.bj n) (-1) av an false 0)):=λW hW av an=>ziw (h.below hW) hr n S0 (-1) av an false 0;have X0:O (∀b,m.gy b->b<w.heap.size):=λb hb=>(h.kp b hb).2.1;have a0:O (∀j,Zr j->∀b,(m.v j).ownBlock=some b->b<w.heap.size):=λj hj b hb=>((h.own j hj).lt b hb).2;clear h hr g0 E0 n0 c1
 go_enter func23,ntmps23
 go_wp2_with fail
 refine(C0 _ (HB _ _)).mono ?_;rintro e W1 ⟨h0,aQ,i0⟩;have rE:W1.heap[w.heap.size]?=some (.cells Yv 75 (0,0)):=by
  rw[h0.block _ (by simp;omega),Below.heap_alloc _ _ _ (by simp)];exact zx8 _ _ _ rfl
 have rS:W1.heap[w.heap.size+1]?=some (.cells (Zg 3 0 (-1) false 0 false 0) 75 (0,0)):=by
  rw[h0.block _ (by simp)];exact zx8 _ _ _ (by simp)
 have Y0:O (E w W1):=(HB _ _).trans (h0.mono (by simp;omega))
 have Z0:w.heap.size+2<=W1.heap.size:=by have:=h0.size;simp at this;omega
 have G0:w.heap.size+1<W1.heap.size:=by omega
 have H0:w.heap.size<W1.heap.size:=by omega
 have s4:D W1 (w.heap.size+1) 4 (.bool false):=cR 4 rS;have s5:D W1 (w.heap.size+1) 5 (I 0):=cR 5 rS
 have sz:∀j,W1.frozen? (Y (w.heap.size+1) j)=false:=λj=>by simp[frozen?,rS]
 have HX:O (∀(u:Bool) (v:Int) a,E w (((W1.setCell (Y (w.heap.size+1) 4) (.bool u)).setCell (Y (w.heap.size+1) 5) (I v)).alloc a).drew/\
   (((W1.setCell (Y (w.heap.size+1) 4) (.bool u)).setCell (Y (w.heap.size+1) 5) (I v)).alloc a).drew.heap[w.heap.size]?=some (.cells Yv 75 (0,0))/\
   (((W1.setCell (Y (w.heap.size+1) 4) (.bool u)).setCell (Y (w.heap.size+1) 5) (I v)).alloc a).drew.heap[w.heap.size+1]?=some (.cells (Zg 3 0 (-1) u v false 0) 75 (0,0))/\
   w.heap.size+1<(((W1.setCell (Y (w.heap.size+1) 4) (.bool u)).setCell (Y (w.heap.size+1) 5) (I v)).alloc a).drew.heap.size):=λu v a=>by
  refine⟨(((Y0.setCell (by show w.heap.size<=w.heap.size+1;omega) _).setCell (by show w.heap.size<=w.heap.size+1;omega) _).alloc (by rw[Zy,Zy];omega) _).drew,?_,?_,?_⟩
  ·show (((W1.setCell _ _).setCell _ _).alloc a).heap[w.heap.size]?=_
   rw[Below.heap_alloc _ _ _ (by rw[Zy,Zy];exact H0),Zx _ _ _ _ _ (by omega),Zx _ _ _ _ _ (by omega)];exact rE
  ·show (((W1.setCell _ _).setCell _ _).alloc a).heap[w.heap.size+1]?=_
   rw[Below.heap_alloc _ _ _ (by rw[Zy,Zy];exact G0)];exact zy6 (zy6 rS 4 _ _ rfl) 5 _ _ rfl
  show w.heap.size+1<(((W1.setCell _ _).setCell _ _).alloc a).heap.size;simp[Zy];omega
 obtain⟨u,v,ok,rfl,I0⟩:∃(u:Bool) (v:Int) (ok:Bool),e=.returned (.tuple #[.agg #[.bool u,I v],.bool ok])/\((oa=none/\ok=false)\/∃x,oa=some x/\ok=true/\u=x.var/\v=(x.v:Int)):=by
  cases oa with
  |none=>obtain⟨v,hv⟩:=i0 rfl;exact⟨_,_,_,hv,.inl ⟨rfl,rfl⟩⟩
  |some x=>exact⟨_,_,_,aQ x rfl,.inr ⟨x,rfl,rfl,rfl,rfl⟩⟩
 have j0:=A I0;clear rE rS h0 aQ i0 I0 c2
 go_wp2_with fail
 refine Zb (λW=>E w W) [7] [] [] (HX _ _ _).1 (by kernel_rfl) (λ_ _ _ _ h=>h) (λops hG=>?_);clear hG
 iterate 7 refine Xj rfl (kE (by intro w' hw';obtain⟨x0,x1⟩:=r0 w' hw';clear hw';go_simp<;>rfl) (by go_simp<;>rfl) ?_)
 refine Zs ?_
 go_wp2_with fail
 refine(D0 _ (HX _ _ _).1).mono ?_;rintro e w1 ⟨rfl,J0⟩;rw[J0];clear J0 w1
 go_wp2_with fail
 refine⟨(HX _ _ _).1,?_⟩;refine Zv rfl (by rintro _ -;go_simp<;>rfl) (by go_simp<;>rfl) ?_;refine Zu ?_;obtain⟨X,s0⟩:=U ((((W1.setCell (Y (w.heap.size+1) 4) (.bool u)).setCell (Y (w.heap.size+1) 5) (I v)).alloc (.cells #[.bool u,I v] 71)).drew);have K0:=HX u v (.cells #[.bool u,I v] 71);rw[<-s0]at K0;obtain⟨x1,x2,x3,x4⟩:=K0;have b0:=A x1;have k0:=A x2;have o0:=A x3;rw[<-s0];clear s0 x1 x2 x3 s4 s5 sz Z0 G0 H0
 cases ok with
 |false=>
  have HR:O (aX=(4,noS,r)):=by
   show _=_;rcases j0.out with⟨h1,-⟩|⟨x,-,h2,-⟩
   ·rw[f0.out,h1]
   cases h2
  go_wp2_with (first|(refine zt4 6 ?_;refine Vt (w.heap.size+1) (Zg 3 0 (-1) u v false 0) o0 rfl rfl ?_)|(refine Ya 4 ?_;refine Ys w.heap.size Yv (Zg 3 0 (-1) u v false 0) k0 rfl rfl (Xp _ _ _ _ _ _ _) rfl rfl ?_))
  refine Jd results23 k0 rfl rfl rfl rfl ?_;rw[HR.out];exact⟨λh=>(by cases h),λ_=>⟨⟨_,_,_,_,_,_,_,rfl⟩,(HH.below (below_setRow b0 lE _)).bel⟩⟩
 |true=>
  obtain⟨x,hx,rfl,rfl⟩:∃x,oa=some x/\u=x.var/\v=(x.v:Int):=by
   rcases j0.out with⟨-,h2⟩|⟨x,h1,-,h3,h4⟩
   ·cases h2
   exact⟨x,h1,h3,h4⟩
  subst hx
  by_cases hp:0<=pc
  ·have HR:O (aX=(4,noS,r)):=by show _=_;rw[f0.out];exact G hp
   have t0:¬pc<0:=(by omega);have hd:decide (pc<0)=false:=decide_eq_false t0
   go_wp2_with (first|(refine zt4 6 ?_;refine Vt (w.heap.size+1) (Zg 3 0 (-1) x.var x.v false 0) o0 rfl rfl ?_)|(refine Ya 4 ?_;refine Ys w.heap.size Yv (Zg 3 0 (-1) x.var x.v false 0) k0 rfl rfl (Xp _ _ _ _ _ _ _) rfl rfl ?_))
   refine Jd results23 k0 rfl rfl rfl rfl ?_;rw[HR.out];exact⟨λh=>(by cases h),λ_=>⟨⟨_,_,_,_,_,_,_,rfl⟩,(HH.below (below_setRow b0 lE _)).bel⟩⟩
  have t0:pc<0:=(by omega);have hd:decide (pc<0)=true:=decide_eq_true t0;have L0:O (aX=match r.bj n with|none=>(5,noS,r)|some (y,r')=>(0,⟨3,y,0,⟨-1,x,kz⟩,[],[]⟩,r')):=(by show _=_;rw[f0.out];exact Z hp);have p0:O (∀W:World,W.heap[w.heap.size+1]?=some (.cells (Zg 3 0 (-1) x.var x.v false 0) 75 (0,0))->D W b (off+1) (Tq n)->SAt W (w.heap.size+1) b off (-1) x.var x.v false 0 n):=λW h1 h2=>SAt.of h1 h2;clear hp
  go_wp2_with fail
  refine Zb (λW=>SAt W (w.heap.size+1) b off (-1) x.var x.v false 0 n) [5,8] [] [] (p0 _ o0 (r0 X b0).2) (by kernel_rfl) (λ_ _ _ _ h=>h) (λops hG=>?_);clear hG
  iterate 5 refine Zv rfl (by intros;go_simp<;>rfl) (by go_simp<;>rfl) ?_
  refine Zs ?_
  go_wp2_with fail
  refine(W0 X.drew b0.drew x.var x.v).mono ?_;rintro e W5 ⟨l0,hg,u0⟩;have a1:=A l0;have M0:W5.heap[w.heap.size]?=some (.cells Yv 75 (0,0)):=(l0 w.heap.size (by show w.heap.size<X.heap.size;omega) (by omega) (λhh=>by have:=a0 4 (by unfold Zr;omega) _ hh;omega)).trans k0.out;have v0:W5.heap[w.heap.size+1]?=some (.cells (Zg 3 0 (-1) x.var x.v false 0) 75 (0,0)):=(l0 (w.heap.size+1) (by show w.heap.size+1<X.heap.size;omega) (by omega) (λhh=>by have:=a0 4 (by unfold Zr;omega) _ hh;omega)).trans o0.out;have y0:D W5 b (off+1) (Tq n):=cQ (l0 b (by show b<X.heap.size;omega) B0.1 (B0.2 4 (by unfold Zr;omega))) (r0 X b0).2;have q0:=A M0;have N0:O (SAt W5 (w.heap.size+1) b off (-1) x.var x.v false 0 n):=p0 W5 v0 y0;have O0:O (∀c:Array Value,SAt (W5.setRow w.heap.size c) (w.heap.size+1) b off (-1) x.var x.v false 0 n):=λc=>p0 _ ((setRow_other W5 w.heap.size (w.heap.size+1) c (by omega)).trans v0) (cQ (setRow_other W5 w.heap.size b c (by omega)) y0);have P0:lo<=w.heap.size:=(by omega);clear M0 l0 v0 y0 p0
  cases e0:r.bj n with
  |none=>
   obtain⟨⟨y,rfl⟩,Q0⟩:=u0 e0;have HR:O (aX=(5,noS,r)):=(by show _=_;rw[L0.out,e0]);have b1:=A Q0;clear hg u0 Q0 e0
   go_wp2_with fail
   refine⟨N0,?_⟩
   iterate 2 refine Zv rfl (by rintro _ -;go_simp<;>rfl) (by go_simp<;>rfl) ?_
   refine Zs ?_
   go_wp2_with (refine Ya 4 ?_;refine Ys w.heap.size Yv (Zg 3 y (-1) x.var x.v false 0) q0 rfl rfl (Xp _ _ _ _ _ _ _) rfl rfl ?_)
   refine⟨O0 _,?_⟩;refine Zv rfl (by rintro _ -;go_simp<;>rfl) (by go_simp<;>rfl) ?_;refine Zu ?_
   go_wp2_with fail
   refine Jd results23 q0 rfl rfl rfl rfl ?_;rw[HR.out];exact⟨λh=>(by cases h),λ_=>⟨⟨_,_,_,_,_,_,_,rfl⟩,below_setRow b1 P0 _⟩⟩
  |some yr=>
   obtain⟨y,r'⟩:=yr;obtain⟨rfl,m',hm',R0,m0,d0⟩:=hg y r' e0;have HR:O (aX=(0,⟨3,y,0,⟨-1,x,kz⟩,[],[]⟩,r')):=(by show _=_;rw[L0.out,e0]);have HM:O (Zt lo base Rb Pb w0 (W5.setRow w.heap.size (Zg 3 y (-1) x.var x.v false 0)) m'):=by
    refine hm'.aside (below_setRow hm'.bel P0 _) (by simp only[setRow,Array.size_modify];exact hm'.bP.2.2.2.2.2.1) (λb hb=>setRow_other _ _ _ _ ?_) (by simp only[setRow,Array.size_modify];exact Nat.le_refl _);rcases hb with rfl|rfl|⟨j,hj,hb⟩|hb
    ·omega
    ·omega
    ·rcases d0 j hj b hb with h1|h1
     ·have:=a0 j hj b h1;omega
     have:X.heap.size<=b:=h1;omega
    rw[m0]at hb;have:=X0 b hb;omega
   have A0:O (zm7 Rb w m (W5.setRow w.heap.size (Zg 3 y (-1) x.var x.v false 0)) m'):=λb hb d1 dS=>by
    have i1:=b0.size;refine⟨(setRow_other _ _ _ _ (by omega)).trans ((a1 b (by show b<X.heap.size;omega) d1 (dS 4 (by unfold Zr;omega))).trans (b0.block b hb)),λj hj hh=>?_⟩;rcases d0 j hj b hh with h1|h1
    ·exact dS j hj h1
    have:X.heap.size<=b:=h1;omega
   have e1:=A R0;clear hg u0 e0 hm' R0 d0
   go_wp2_with fail
   refine⟨N0,?_⟩
   iterate 2 refine Zv rfl (by rintro _ -;go_simp<;>rfl) (by go_simp<;>rfl) ?_
   refine Zs ?_
   go_wp2_with (refine Ya 4 ?_;refine Ys w.heap.size Yv (Zg 3 y (-1) x.var x.v false 0) q0 rfl rfl (Xp _ _ _ _ _ _ _) rfl rfl ?_)
   refine⟨O0 _,?_⟩;refine Zv rfl (by rintro _ -;go_simp<;>rfl) (by go_simp<;>rfl) ?_;refine Zu ?_
   go_wp2_with fail
   refine Jd results23 q0 rfl rfl rfl rfl ?_;rw[HR.out];exact⟨λ_=>⟨rfl,m',HM,e1,A0⟩,λh=>absurd rfl h⟩
end
def yq1(W:World)(o:K):F 21 #[Sq W.heap.size 0 5 5,Tq o] (W.alloc (.cells #[.string ⟨#[43]⟩,.string ⟨#[45]⟩,.string ⟨#[42]⟩,.string ⟨#[60]⟩,.string ⟨#[61,61]⟩] 9)) λe w'=>e=.returned (I (ai cC o))/\w'=W.alloc (.cells #[.string ⟨#[43]⟩,.string ⟨#[45]⟩,.string ⟨#[42]⟩,.string ⟨#[60]⟩,.string ⟨#[61,61]⟩] 9):=by
 have:=zl8 _ _ (⟨o.toArray⟩:ByteArray) _ (yt3 W);rw[yt2,Yu]at this;exact this
section
variable{m:Yo}{fl:List FlS}
def st_set5(h:Zt lo base Rb Pb w0 w m)(hr:Zk r fl t m)(b off cap:Nat)(n a o b2:K)(ha:a.length<=100000)(m1:b2.length<=100000)(n1:n.length<=100000)(hb:b<w.heap.size)(U0:b≠Rb/\∀j,Zr j->(m.v j).ownBlock≠some b)(p1:5<=cap/\cap<=maxLen)(c0:w.cell? (Y b off)=some (.string ⟨#[115,101,116]⟩))(c1:w.cell? (Y b (off+1))=some (Tq n))(c2:w.cell? (Y b (off+2))=some (Tq a))(c3':w.cell? (Y b (off+3))=some (Tq o))(c4':w.cell? (Y b (off+4))=some (Tq b2)):
  F 23 #[M Rb,Sq b off 5 cap] w (zwy lo base Rb Pb w0 w m fl t (Us r n [a,o,b2])):=by
 have bP:=h.bP
 have q1:Rb<w.heap.size:=by omega
 have HH:=A h;have HO:=A hr;have V0:O (∀W,E w W->F 33 #[M Rb,Tq a] W (zo8 (r.atom a) W)):=λW hW=>zs2 (h.below hW) hr a ha;have l0:O (∀W,E w W->F 33 #[M Rb,Tq b2] W (zo8 (r.atom b2) W)):=λW hW=>zs2 (h.below hW) hr b2 m1;have m0:O (∀W,E w W->D W b (off+3) (Tq o)/\D W b (off+4) (Tq b2)):=λW hW=>⟨cT hW hb c3',cT hW hb c4'⟩;have W0:O (∀W,E w W->F 21 #[m.v 3,Tq n] W (Rq (I (ai r.aj n)) W)):=λW hW=>Xl ((h.below hW).aj hr) n;obtain⟨c3,k3,E0⟩:=h.shape 3 (by unfold Zr;omega);rw[hr.r3.1]at E0;rw[E0]at W0;have J0:O (∀W,E w W->D W Rb 3 (J c3 r.aj.length k3)/\D W b (off+1) (Tq n)):=λW hW=>⟨cT hW q1 (by rw[<-E0];exact h.cR.c 3 (by omega)),cT hW hb c1⟩;have G1:=aO r.aj n;have H1:=hr.ch
 have d0:O (Us r n [a,o,b2]=match r.atom a,r.atom b2 with
  |some x,some y=>(if 0<=ai r.aj n then(4,noS,r) else match r.bj n with
   |none=>(5,noS,r)
   |some (z,r')=>(0,⟨3,z,0,⟨ai cC o,x,y⟩,[],[]⟩,r'))
  |_,_=>(4,noS,r)):=by
  show _=_;have hv:r.value [a,o,b2]=(r.atom a).bind λx=>(r.atom b2).map λy=>⟨ai cC o,x,y⟩:=rfl;unfold Us;rw[hv];generalize r.atom a=o1;generalize r.atom b2=o2
  cases o1<;>cases o2<;>rfl
 obtain⟨aX,n0⟩:=U (Us r n [a,o,b2]);rw[<-n0]at d0⊢;obtain⟨oa,X0⟩:=U (r.atom a);obtain⟨ob,Z0⟩:=U (r.atom b2);rw[<-X0]at V0 d0;rw[<-Z0]at l0 d0;have r1:=aO cC o;have s1:cC.length=5:=rfl;have t1:O (∀W:World,F 21 #[Sq W.heap.size 0 5 5,Tq o] (W.alloc (.cells #[.string ⟨#[43]⟩,.string ⟨#[45]⟩,.string ⟨#[42]⟩,.string ⟨#[60]⟩,.string ⟨#[61,61]⟩] 9)) λe w'=>e=.returned (I (ai cC o))/\w'=W.alloc (.cells #[.string ⟨#[43]⟩,.string ⟨#[45]⟩,.string ⟨#[42]⟩,.string ⟨#[60]⟩,.string ⟨#[61,61]⟩] 9)):=λW=>yq1 W o;generalize ai cC o=op at*
 have I1: -1<=op/\op<=4:=by omega
 generalize ai r.aj n=pc at*
 have a1:(5:Int)<=(cap:Int):=by omega
 have u1: -1<=pc/\pc<=3:=by omega
 have HB:O (∀o o',E w ((w.alloc o).alloc o')):=λo o'=>(bA).alloc (by simp) _;have v1:O (∀W,E w W->∀(av:Bool) (an:Int) (av2:Bool) (an2:Int),F 34 #[M Rb,.agg #[I 3,I 0,I 0,I op,.bool av,I an,.bool av2,I an2,Zq,Zq],Tq n] W (zcx lo base Rb Pb w0 W (λj=>(m.v j).ownBlock) m.gy fl t (r.bj n) op av an av2 an2)):=λW hW av an av2 an2=>ziw (h.below hW) hr n n1 op av an av2 an2;have y1:O (∀b,m.gy b->b<w.heap.size):=λb hb=>(h.kp b hb).2.1;have e0:O (∀j,Zr j->∀b,(m.v j).ownBlock=some b->b<w.heap.size):=λj hj b hb=>((h.own j hj).lt b hb).2;clear h hr n0 X0 Z0 E0 c1 c3' c4' r1 s1
 go_enter func23,ntmps23
 go_wp2_with fail
 refine(V0 _ (HB _ _)).mono ?_;rintro e W1 ⟨o0,aQ,a0⟩;have rE:W1.heap[w.heap.size]?=some (.cells Yv 75 (0,0)):=by
  rw[o0.block _ (by simp;omega),Below.heap_alloc _ _ _ (by simp)];exact zx8 _ _ _ rfl
 have rS:W1.heap[w.heap.size+1]?=some (.cells (Zg 3 0 (-1) false 0 false 0) 75 (0,0)):=by
  rw[o0.block _ (by simp)];exact zx8 _ _ _ (by simp)
 have F0:O (E w W1):=(HB _ _).trans (o0.mono (by simp;omega))
 have A1:w.heap.size+2<=W1.heap.size:=by have:=o0.size;simp at this;omega
 have p0:w.heap.size+1<W1.heap.size:=by omega
 have q0:w.heap.size<W1.heap.size:=by omega
 have s4:D W1 (w.heap.size+1) 4 (.bool false):=cR 4 rS;have s5:D W1 (w.heap.size+1) 5 (I 0):=cR 5 rS
 have sz:∀j,W1.frozen? (Y (w.heap.size+1) j)=false:=λj=>by simp[frozen?,rS]
 obtain⟨u,v,ok1,rfl,r0⟩:∃(u:Bool) (v:Int) (ok:Bool),e=.returned (.tuple #[.agg #[.bool u,I v],.bool ok])/\((oa=none/\ok=false)\/∃x,oa=some x/\ok=true/\u=x.var/\v=(x.v:Int)):=by
  cases oa with
  |none=>obtain⟨v,hv⟩:=a0 rfl;exact⟨_,_,_,hv,.inl ⟨rfl,rfl⟩⟩
  |some x=>exact⟨_,_,_,aQ x rfl,.inr ⟨x,rfl,rfl,rfl,rfl⟩⟩
 have s0:=A r0;have s3:D W1 (w.heap.size+1) 3 (I (-1)):=cR 3 rS;have RE1:=A rE;have RS1:=A rS;clear rE rS o0 aQ a0 r0 c2
 go_wp2_with fail
 refine(yz2 _).mono ?_;rintro e w1 ⟨rfl,b0⟩;rw[b0];clear b0 w1;obtain⟨Y0,j0⟩:=U (((W1.setCell (Y (w.heap.size+1) 4) (.bool u)).setCell (Y (w.heap.size+1) 5) (I v)).alloc (.cells #[.bool u,I v] 71))
 have B1:w.heap.size+2<=Y0.heap.size:=by rw[j0];simp[Zy];omega
 have K0:E w Y0:=by
  rw[j0];exact((F0.setCell (by show w.heap.size<=w.heap.size+1;omega) _).setCell (by show w.heap.size<=w.heap.size+1;omega) _).alloc (by rw[Zy,Zy];omega) _
 have rEY:Y0.heap[w.heap.size]?=some (.cells Yv 75 (0,0)):=by
  rw[j0,Below.heap_alloc _ _ _ (by rw[Zy,Zy];exact q0),Zx _ _ _ _ _ (by omega),Zx _ _ _ _ _ (by omega)];exact RE1
 have rSY:Y0.heap[w.heap.size+1]?=some (.cells (Zg 3 0 (-1) u v false 0) 75 (0,0)):=by
  rw[j0,Below.heap_alloc _ _ _ (by rw[Zy,Zy];exact p0)];exact zy6 (zy6 RS1 4 _ _ rfl) 5 _ _ rfl
 rw[<-j0];clear j0 s3 s4 s5 sz A1 p0 q0 RE1 RS1 F0
 have L0:w.heap.size+1<Y0.heap.size:=by omega
 have y3:D Y0 (w.heap.size+1) 3 (I (-1)):=cR 3 rSY
 have yz:∀j,Y0.frozen? (Y (w.heap.size+1) j)=false:=λj=>by simp[frozen?,rSY]
 have M0:O (∀o',E w (Y0.alloc o')):=λo'=>K0.alloc (by omega) _;have w3:∀o',D (Y0.alloc o') b (off+3) (Tq o):=λo'=>(m0 _ (M0 o')).1
 go_wp2_with fail
 refine(t1 Y0).mono ?_;rintro e w1 ⟨rfl,b0⟩;rw[b0];clear b0 w1;have f0:O (∀v o',E w ((Y0.setCell (Y (w.heap.size+1) 3) v).alloc o')):=λv o'=>(K0.setCell (by show w.heap.size<=w.heap.size+1;omega) _).alloc (by rw[Zy];omega) _;have w4:∀v o',((Y0.setCell (Y (w.heap.size+1) 3) v).alloc o').cell? (Y b (off+4))=some (Tq b2):=λv o'=>(m0 _ (f0 v o')).2
 go_wp2_with fail
 refine(l0 _ (f0 _ _)).mono ?_;rintro e W2 ⟨hb2',aQ,a0⟩
 have N0:w.heap.size+2<=W2.heap.size:=by have:=hb2'.size;simp[Zy]at this;omega
 have rE2:W2.heap[w.heap.size]?=some (.cells Yv 75 (0,0)):=by
  rw[hb2'.block _ (by simp[Zy];omega),Below.heap_alloc _ _ _ (by rw[Zy];omega),Zx _ _ _ _ _ (by omega)];exact rEY
 have rS2:W2.heap[w.heap.size+1]?=some (.cells (Zg 3 0 op u v false 0) 75 (0,0)):=by
  rw[hb2'.block _ (by simp[Zy];omega),Below.heap_alloc _ _ _ (by rw[Zy];omega)];exact zy6 rSY 3 _ _ rfl
 have F0:O (E w W2):=(f0 _ _).trans (hb2'.mono (by simp[Zy];omega))
 have p0:w.heap.size+1<W2.heap.size:=by omega
 have q0:w.heap.size<W2.heap.size:=by omega
 have s6:D W2 (w.heap.size+1) 6 (.bool false):=cR 6 rS2;have s7:D W2 (w.heap.size+1) 7 (I 0):=cR 7 rS2
 have sz:∀j,W2.frozen? (Y (w.heap.size+1) j)=false:=λj=>by simp[frozen?,rS2]
 obtain⟨u2,v2,ok2,rfl,t0⟩:∃(u:Bool) (v:Int) (ok:Bool),e=.returned (.tuple #[.agg #[.bool u,I v],.bool ok])/\((ob=none/\ok=false)\/∃x,ob=some x/\ok=true/\u=x.var/\v=(x.v:Int)):=by
  cases ob with
  |none=>obtain⟨v,hv⟩:=a0 rfl;exact⟨_,_,_,hv,.inl ⟨rfl,rfl⟩⟩
  |some x=>exact⟨_,_,_,aQ x rfl,.inr ⟨x,rfl,rfl,rfl,rfl⟩⟩
 have u0:=A t0
 have HX:O (∀(u2:Bool) (v2:Int) a,E w (((W2.setCell (Y (w.heap.size+1) 6) (.bool u2)).setCell (Y (w.heap.size+1) 7) (I v2)).alloc a).drew/\
   (((W2.setCell (Y (w.heap.size+1) 6) (.bool u2)).setCell (Y (w.heap.size+1) 7) (I v2)).alloc a).drew.heap[w.heap.size]?=some (.cells Yv 75 (0,0))/\
   (((W2.setCell (Y (w.heap.size+1) 6) (.bool u2)).setCell (Y (w.heap.size+1) 7) (I v2)).alloc a).drew.heap[w.heap.size+1]?=some (.cells (Zg 3 0 op u v u2 v2) 75 (0,0))/\
   w.heap.size+1<(((W2.setCell (Y (w.heap.size+1) 6) (.bool u2)).setCell (Y (w.heap.size+1) 7) (I v2)).alloc a).drew.heap.size):=λu2 v2 a=>by
  refine⟨(((F0.setCell (by show w.heap.size<=w.heap.size+1;omega) _).setCell (by show w.heap.size<=w.heap.size+1;omega) _).alloc (by rw[Zy,Zy];omega) _).drew,?_,?_,?_⟩
  ·show (((W2.setCell _ _).setCell _ _).alloc a).heap[w.heap.size]?=_
   rw[Below.heap_alloc _ _ _ (by rw[Zy,Zy];exact q0),Zx _ _ _ _ _ (by omega),Zx _ _ _ _ _ (by omega)];exact rE2
  ·show (((W2.setCell _ _).setCell _ _).alloc a).heap[w.heap.size+1]?=_
   rw[Below.heap_alloc _ _ _ (by rw[Zy,Zy];exact p0)];exact zy6 (zy6 rS2 6 _ _ rfl) 7 _ _ rfl
  show w.heap.size+1<(((W2.setCell _ _).setCell _ _).alloc a).heap.size;simp[Zy];omega
 obtain⟨ok,g0⟩:=U ((ok1 && ok2));have v0:O (((oa=none\/ob=none)/\ok=false)\/∃x y,oa=some x/\ob=some y/\ok=true/\u=x.var/\v=(x.v:Int)/\u2=y.var/\v2=(y.v:Int)):=by
  show _\/_;rw[g0];rcases s0.out with⟨h1,h2⟩|⟨x,h1,h2,h3,h4⟩
  ·left;rw[h2];exact⟨.inl h1,rfl⟩
  rcases u0.out with⟨g1,g2⟩|⟨y,g1,g2,g3,g4⟩
  ·left;rw[h2,g2];exact⟨.inr g1,rfl⟩
  right;rw[h2,g2];exact⟨x,y,h1,g1,rfl,h3,h4,g3,g4⟩
 clear rE2 rS2 hb2' aQ a0 t0 rEY rSY y3 yz w3 w4 B1 L0 K0 s0 u0;have y0:=A g0;clear g0
 cases ok1<;>cases ok2
 all_goals
  have A0:=y0.out;simp only[Bool.and_true,Bool.and_false,Bool.true_and,Bool.false_and,Bool.and_self]at A0;subst A0;clear y0
  go_wp2_with fail
  refine Zb (λW=>E w W) [7] [] [] (HX _ _ _).1 (by kernel_rfl) (λ_ _ _ _ h=>h) (λops hG=>?_);clear hG
  iterate 7 refine Xj rfl (kE (by intro w' hw';obtain⟨x0,x1⟩:=J0 w' hw';clear hw';go_simp<;>rfl) (by go_simp<;>rfl) ?_)
  refine Zs ?_
  go_wp2_with fail
  refine(W0 _ (HX _ _ _).1).mono ?_;rintro e w1 ⟨rfl,b0⟩;rw[b0];clear b0 w1
  go_wp2_with fail
  refine⟨(HX _ _ _).1,?_⟩;refine Zv rfl (by rintro _ -;go_simp<;>rfl) (by go_simp<;>rfl) ?_;refine Zu ?_;obtain⟨X,O0⟩:=U ((((W2.setCell (Y (w.heap.size+1) 6) (.bool u2)).setCell (Y (w.heap.size+1) 7) (I v2)).alloc (.cells #[.bool u2,I v2] 71)).drew);have b1:=HX u2 v2 (.cells #[.bool u2,I v2] 71);rw[<-O0]at b1;obtain⟨x1,x2,x3,x4⟩:=b1;have h0:=A x1;have B0:=A x2;have G0:=A x3;rw[<-O0];clear O0 x1 x2 x3 s6 s7 sz N0 p0 q0
 iterate 3
  focus
   have HR:O (aX=(4,noS,r)):=by
    show _=_;rcases v0.out with⟨h1|h1,-⟩|⟨x,y,-,-,h2,-⟩
    ·rw[d0.out,h1]
    ·rw[d0.out,h1];cases oa<;>rfl
    cases h2
   go_wp2_with (first|(refine zt4 6 ?_;refine Vt (w.heap.size+1) (Zg 3 0 op u v u2 v2) G0 rfl rfl ?_)|(refine Ya 4 ?_;refine Ys w.heap.size Yv (Zg 3 0 op u v u2 v2) B0 rfl rfl (Xp _ _ _ _ _ _ _) rfl rfl ?_))
   refine Jd results23 B0 rfl rfl rfl rfl ?_;rw[HR.out];exact⟨λh=>(by cases h),λ_=>⟨⟨_,_,_,_,_,_,_,rfl⟩,(HH.below (below_setRow h0 lE _)).bel⟩⟩
 skip
 obtain⟨x,y,hx,hy,rfl,rfl,rfl,rfl⟩:∃x y,oa=some x/\ob=some y/\u=x.var/\v=(x.v:Int)/\u2=y.var/\v2=(y.v:Int):=by
  rcases v0.out with⟨-,h2⟩|⟨x,y,h1,h1',-,h3,h4,h5,h6⟩
  ·cases h2
  exact⟨x,y,h1,h1',h3,h4,h5,h6⟩
 subst hx;subst hy
 by_cases hp:0<=pc
 ·have HR:O (aX=(4,noS,r)):=by show _=_;rw[d0.out];exact G hp
  have P0:¬pc<0:=(by omega);have hd:decide (pc<0)=false:=decide_eq_false P0
  go_wp2_with (first|(refine zt4 6 ?_;refine Vt (w.heap.size+1) (Zg 3 0 op x.var x.v y.var y.v) G0 rfl rfl ?_)|(refine Ya 4 ?_;refine Ys w.heap.size Yv (Zg 3 0 op x.var x.v y.var y.v) B0 rfl rfl (Xp _ _ _ _ _ _ _) rfl rfl ?_))
  refine Jd results23 B0 rfl rfl rfl rfl ?_;rw[HR.out];exact⟨λh=>(by cases h),λ_=>⟨⟨_,_,_,_,_,_,_,rfl⟩,(HH.below (below_setRow h0 lE _)).bel⟩⟩
 have P0:pc<0:=by omega
 have hd:decide (pc<0)=true:=decide_eq_true P0
 have d1:O (aX=match r.bj n with|none=>(5,noS,r)|some (z,r')=>(0,⟨3,z,0,⟨op,x,y⟩,[],[]⟩,r')):=by show _=_;rw[d0.out];exact Z hp
 have H0:O (∀W:World,W.heap[w.heap.size+1]?=some (.cells (Zg 3 0 op x.var x.v y.var y.v) 75 (0,0))->D W b (off+1) (Tq n)->SAt W (w.heap.size+1) b off op x.var x.v y.var y.v n):=λW h1 h2=>SAt.of h1 h2;clear hp
 go_wp2_with fail
 refine Zb (λW=>SAt W (w.heap.size+1) b off op x.var x.v y.var y.v n) [5,8] [] [] (H0 _ G0 (J0 X h0).2) (by kernel_rfl) (λ_ _ _ _ h=>h) (λops hG=>?_);clear hG
 iterate 5 refine Zv rfl (by intros;go_simp<;>rfl) (by go_simp<;>rfl) ?_
 refine Zs ?_
 go_wp2_with fail
 refine(v1 X.drew h0.drew x.var x.v y.var y.v).mono ?_;rintro e W5 ⟨C0,hg,Q0⟩;have C1:=A C0;have e1:W5.heap[w.heap.size]?=some (.cells Yv 75 (0,0)):=(C0 w.heap.size (by show w.heap.size<X.heap.size;omega) (by omega) (λhh=>by have:=e0 4 (by unfold Zr;omega) _ hh;omega)).trans B0.out;have R0:W5.heap[w.heap.size+1]?=some (.cells (Zg 3 0 op x.var x.v y.var y.v) 75 (0,0)):=(C0 (w.heap.size+1) (by show w.heap.size+1<X.heap.size;omega) (by omega) (λhh=>by have:=e0 4 (by unfold Zr;omega) _ hh;omega)).trans G0.out;have S0:D W5 b (off+1) (Tq n):=cQ (C0 b (by show b<X.heap.size;omega) U0.1 (U0.2 4 (by unfold Zr;omega))) (J0 X h0).2;have I0:=A e1;have f1:O (SAt W5 (w.heap.size+1) b off op x.var x.v y.var y.v n):=H0 W5 R0 S0;have i1:O (∀c:Array Value,SAt (W5.setRow w.heap.size c) (w.heap.size+1) b off op x.var x.v y.var y.v n):=λc=>H0 _ ((setRow_other W5 w.heap.size (w.heap.size+1) c (by omega)).trans R0) (cQ (setRow_other W5 w.heap.size b c (by omega)) S0)
 have j1:lo<=w.heap.size:=by omega
 clear e1 C0 R0 S0 H0
 cases k0:r.bj n with
 |none=>
  obtain⟨⟨z,rfl⟩,k1⟩:=Q0 k0;have HR:O (aX=(5,noS,r)):=(by show _=_;rw[d1.out,k0]);have D1:=A k1;clear hg Q0 k1 k0
  go_wp2_with fail
  refine⟨f1,?_⟩
  iterate 2 refine Zv rfl (by rintro _ -;go_simp<;>rfl) (by go_simp<;>rfl) ?_
  refine Zs ?_
  go_wp2_with (refine Ya 4 ?_;refine Ys w.heap.size Yv (Zg 3 z op x.var x.v y.var y.v) I0 rfl rfl (Xp _ _ _ _ _ _ _) rfl rfl ?_)
  refine⟨i1 _,?_⟩;refine Zv rfl (by rintro _ -;go_simp<;>rfl) (by go_simp<;>rfl) ?_;refine Zu ?_
  go_wp2_with fail
  refine Jd results23 I0 rfl rfl rfl rfl ?_;rw[HR.out];exact⟨λh=>(by cases h),λ_=>⟨⟨_,_,_,_,_,_,_,rfl⟩,below_setRow D1 j1 _⟩⟩
 |some yr=>
  obtain⟨z,r'⟩:=yr;obtain⟨rfl,m',hm',l1,D0,i0⟩:=hg z r' k0;have HR:O (aX=(0,⟨3,z,0,⟨op,x,y⟩,[],[]⟩,r')):=(by show _=_;rw[d1.out,k0]);have HM:O (Zt lo base Rb Pb w0 (W5.setRow w.heap.size (Zg 3 z op x.var x.v y.var y.v)) m'):=by
   refine hm'.aside (below_setRow hm'.bel j1 _) (by simp only[setRow,Array.size_modify];exact hm'.bP.2.2.2.2.2.1) (λb hb=>setRow_other _ _ _ _ ?_) (by simp only[setRow,Array.size_modify];exact Nat.le_refl _);rcases hb with rfl|rfl|⟨j,hj,hb⟩|hb
   ·omega
   ·omega
   ·rcases i0 j hj b hb with h1|h1
    ·have:=e0 j hj b h1;omega
    have:X.heap.size<=b:=h1;omega
   rw[D0]at hb;have:=y1 b hb;omega
  have T0:O (zm7 Rb w m (W5.setRow w.heap.size (Zg 3 z op x.var x.v y.var y.v)) m'):=λb hb E1 dS=>by
   have J1:=h0.size;refine⟨(setRow_other _ _ _ _ (by omega)).trans ((C1 b (by show b<X.heap.size;omega) E1 (dS 4 (by unfold Zr;omega))).trans (h0.block b hb)),λj hj hh=>?_⟩;rcases i0 j hj b hh with h1|h1
   ·exact dS j hj h1
   have:X.heap.size<=b:=h1;omega
  have F1:=A l1;clear hg Q0 k0 hm' l1 i0
  go_wp2_with fail
  refine⟨f1,?_⟩
  iterate 2 refine Zv rfl (by rintro _ -;go_simp<;>rfl) (by go_simp<;>rfl) ?_
  refine Zs ?_
  go_wp2_with (refine Ya 4 ?_;refine Ys w.heap.size Yv (Zg 3 z op x.var x.v y.var y.v) I0 rfl rfl (Xp _ _ _ _ _ _ _) rfl rfl ?_)
  refine⟨i1 _,?_⟩;refine Zv rfl (by rintro _ -;go_simp<;>rfl) (by go_simp<;>rfl) ?_;refine Zu ?_
  go_wp2_with fail
  refine Jd results23 I0 rfl rfl rfl rfl ?_;rw[HR.out];exact⟨λ_=>⟨rfl,m',HM,F1,T0⟩,λh=>absurd rfl h⟩
end
def zw5(r:Fl.RS)(n a:K):Nat×aa×Fl.RS:=match r.value [a] with
 |none=>(4,noS,r)
 |some e=>if ai r.aj n<0 then(4,noS,r) else(0,⟨4,(ai r.aj n).toNat,0,e,[],[]⟩,r)
section
variable{m:Yo}{fl:List FlS}
def st_out(h:Zt lo base Rb Pb w0 w m)(hr:Zk r fl t m)(b off cap:Nat)(n a:K)(ha:a.length<=100000)(hb:b<w.heap.size)(p0:3<=cap/\cap<=maxLen)(c0:w.cell? (Y b off)=some (.string ⟨#[111,117,116]⟩))(c1:w.cell? (Y b (off+1))=some (Tq n))(c2:w.cell? (Y b (off+2))=some (Tq a)):
  F 23 #[M Rb,Sq b off 3 cap] w (zwy lo base Rb Pb w0 w m fl t (zw5 r n a)):=by
 have bP:=h.bP
 have q0:Rb<w.heap.size:=by omega
 have HH:=A h;have HO:=A hr;have k0:O (∀W,E w W->F 33 #[M Rb,Tq a] W (zo8 (r.atom a) W)):=λW hW=>zs2 (h.below hW) hr a ha;have l0:O (∀W,E w W->F 21 #[m.v 3,Tq n] W (Rq (I (ai r.aj n)) W)):=λW hW=>Xl ((h.below hW).aj hr) n;obtain⟨c3,k3,g0⟩:=h.shape 3 (by unfold Zr;omega);rw[hr.r3.1]at g0;rw[g0]at l0;have r0:O (∀W,E w W->D W Rb 3 (J c3 r.aj.length k3)/\D W b (off+1) (Tq n)):=λW hW=>⟨cT hW q0 (by rw[<-g0];exact h.cR.c 3 (by omega)),cT hW hb c1⟩;have s0:O (∀W,E w W->D W b (off+2) (Tq a)):=λW hW=>cT hW hb c2;have z0:=aO r.aj n;have A0:=hr.ch;have d0:O (zw5 r n a=match r.atom a with|none=>(4,noS,r)|some x=>if ai r.aj n<0 then(4,noS,r) else(0,⟨4,(ai r.aj n).toNat,0,⟨-1,x,kz⟩,[],[]⟩,r)):=by
  show _=_;have hv:r.value [a]=(r.atom a).map λx=>⟨-1,x,kz⟩:=rfl;unfold zw5;rw[hv];generalize r.atom a=o
  cases o<;>rfl
 obtain⟨aX,e0⟩:=U (zw5 r n a);rw[<-e0]at d0⊢;obtain⟨oa,m0⟩:=U (r.atom a);rw[<-m0]at k0 d0;generalize ai r.aj n=pc at*
 have n0:(3:Int)<=(cap:Int):=by omega
 have t0: -1<=pc/\pc<=3:=by omega
 have HB:O (∀o o',E w ((w.alloc o).alloc o').drew):=λo o'=>((bA).alloc (by simp) _).drew;clear h hr e0 m0 g0 c1 c2
 go_enter func23,ntmps23
 go_wp2_with fail
 refine Ux (λW=>E w W) [] [(0,0),(0,1),(0,2),(0,3),(0,4),(0,5),(0,6),(1,7),(0,8)] [] (by kernel_rfl) (by kernel_rfl) rfl [(_,_),(_,_),(_,_),(_,_),(_,_),(_,_),(_,_),(_,_),(_,_)] rfl (λc a d v w h=>by cases d<;>exact h) (HB _ _) (λops hG=>?_);clear hG;simp only[getElem_toArray,getElem_cons_succ,getElem_cons_zero]
 iterate 7 refine Xj rfl (kE (by intro w' hw';obtain⟨x0,x1⟩:=r0 w' hw';clear hw';go_simp<;>rfl) (by go_simp<;>rfl) ?_)
 refine Zs ?_
 go_wp2_with fail
 refine(l0 _ (HB _ _)).mono ?_;rintro e w1 ⟨rfl,o0⟩;rw[o0];clear o0 w1
 go_wp2_with fail
 refine⟨HB _ _,?_⟩;refine Xj rfl (kE (by rintro _ -;go_simp<;>rfl) (by go_simp<;>rfl) ?_);refine Zu ?_;have k2:=s0 _ (HB (.cells Yv 75) (.cells (Zg 4 0 (-1) false 0 false 0) 75));unfold Yv Zg at k2
 go_wp2_with fail
 refine(k0 _ (HB _ _)).mono ?_;rintro e W1 ⟨f0,aQ,a0⟩;have rE:W1.heap[w.heap.size]?=some (.cells Yv 75 (0,0)):=by
  rw[f0.block _ (by simp;omega)];show ((w.alloc _).alloc _).heap[w.heap.size]?=_;rw[Below.heap_alloc _ _ _ (by simp)];exact zx8 _ _ _ rfl
 have rS:W1.heap[w.heap.size+1]?=some (.cells (Zg 4 0 (-1) false 0 false 0) 75 (0,0)):=by
  rw[f0.block _ (by simp)];show ((w.alloc _).alloc _).heap[w.heap.size+1]?=_;exact zx8 _ _ _ (by simp)
 have u0:O (E w W1):=(HB _ _).trans (f0.mono (by simp;omega))
 have B0:w.heap.size+2<=W1.heap.size:=by have:=f0.size;simp at this;omega
 have v0:w.heap.size+1<W1.heap.size:=by omega
 have y0:w.heap.size<W1.heap.size:=by omega
 have s1:D W1 (w.heap.size+1) 1 (I 0):=cR 1 rS;have s4:D W1 (w.heap.size+1) 4 (.bool false):=cR 4 rS;have s5:D W1 (w.heap.size+1) 5 (I 0):=cR 5 rS;have RS:=A rS
 have sz:∀j,W1.frozen? (Y (w.heap.size+1) j)=false:=λj=>by simp[frozen?,rS]
 have RE:=A rE;clear rE rS f0 k2
 have b0:O (∀z u v a,((((W1.setCell (Y (w.heap.size+1) 1) z).setCell (Y (w.heap.size+1) 4) u).setCell (Y (w.heap.size+1) 5) v).alloc a).heap[w.heap.size]?=some (.cells Yv 75 (0,0))):=λz u v a=>by
  rw[Below.heap_alloc _ _ _ (by rw[Zy,Zy,Zy];exact y0),Zx _ _ _ _ _ (by omega),Zx _ _ _ _ _ (by omega),Zx _ _ _ _ _ (by omega)];exact RE
 have i0:O (∀(z:Int) (u:Bool) (v:Int) a,((((W1.setCell (Y (w.heap.size+1) 1) (I z)).setCell (Y (w.heap.size+1) 4) (.bool u)).setCell (Y (w.heap.size+1) 5) (I v)).alloc a).heap[w.heap.size+1]?=some (.cells (Zg 4 z (-1) u v false 0) 75 (0,0))):=λz u v a=>by
  rw[Below.heap_alloc _ _ _ (by rw[Zy,Zy,Zy];exact v0)];exact zy6 (zy6 (zy6 RS 1 _ _ rfl) 4 _ _ rfl) 5 _ _ rfl
 have h0:O (∀z u v a c,E w (((((W1.setCell (Y (w.heap.size+1) 1) z).setCell (Y (w.heap.size+1) 4) u).setCell (Y (w.heap.size+1) 5) v).alloc a).setRow w.heap.size c)):=λz u v a c=>by
  refine below_setRow (((((u0.setCell (by show w.heap.size<=w.heap.size+1;omega) _).setCell (by show w.heap.size<=w.heap.size+1;omega) _)).setCell (by show w.heap.size<=w.heap.size+1;omega) _).alloc (by rw[Zy,Zy,Zy];omega) _) lE _
 cases oa with
 |none=>
  obtain⟨v,rfl⟩:=a0 rfl;have HR:=A d0.out;clear aQ a0
  go_wp2_with (first|(refine zt4 6 ?_;refine Vt (w.heap.size+1) (Zg 4 pc (-1) true v false 0) (i0 _ _ _ _) rfl rfl ?_)|(refine Ya 4 ?_;refine Ys w.heap.size Yv (Zg 4 pc (-1) true v false 0) (b0 _ _ _ _) rfl rfl (Xp _ _ _ _ _ _ _) rfl rfl ?_))
  refine Jd results23 (b0 _ _ _ _) rfl rfl rfl rfl ?_;rw[HR.out];exact⟨λh=>(by cases h),λ_=>⟨⟨_,_,_,_,_,_,_,rfl⟩,(HH.below (h0 _ _ _ _ _)).bel⟩⟩
 |some x=>
  obtain rfl:=aQ x rfl
  by_cases hp:pc<0
  ·have HR:O (aX=(4,noS,r)):=by show _=_;rw[d0.out];exact G hp
   have j0:¬0<=pc:=(by omega);have hd:decide (0<=pc)=false:=decide_eq_false j0;clear aQ a0
   go_wp2_with (first|(refine zt4 6 ?_;refine Vt (w.heap.size+1) (Zg 4 pc (-1) x.var x.v false 0) (i0 _ _ _ _) rfl rfl ?_)|(refine Ya 4 ?_;refine Ys w.heap.size Yv (Zg 4 pc (-1) x.var x.v false 0) (b0 _ _ _ _) rfl rfl (Xp _ _ _ _ _ _ _) rfl rfl ?_))
   refine Jd results23 (b0 _ _ _ _) rfl rfl rfl rfl ?_;rw[HR.out];exact⟨λh=>(by cases h),λ_=>⟨⟨_,_,_,_,_,_,_,rfl⟩,(HH.below (h0 _ _ _ _ _)).bel⟩⟩
  have HR:O (aX=(0,⟨4,pc.toNat,0,⟨-1,x,kz⟩,[],[]⟩,r)):=(by show _=_;rw[d0.out];exact Z hp);have j0:0<=pc:=(by omega);have hd:decide (0<=pc)=true:=decide_eq_true j0;have E1:O (((pc.toNat:Nat):Int)=pc):=(by show _=_;omega);clear aQ a0 hp
  go_wp2_with (first|(refine zt4 6 ?_;refine Vt (w.heap.size+1) (Zg 4 pc (-1) x.var x.v false 0) (i0 _ _ _ _) rfl rfl ?_)|(refine Ya 4 ?_;refine Ys w.heap.size Yv (Zg 4 pc (-1) x.var x.v false 0) (b0 _ _ _ _) rfl rfl (Xp _ _ _ _ _ _ _) rfl rfl ?_))
  refine Jd results23 (b0 _ _ _ _) rfl rfl rfl rfl ?_;rw[HR.out];exact⟨λ_=>⟨by simp only[E1.out];rfl,m,HH.below (h0 _ _ _ _ _),HO,zm7.below (h0 _ _ _ _ _)⟩,λh=>absurd rfl h⟩
end
end Go.Proofs.YtjmcibbdedlcoaaGreatDoor
