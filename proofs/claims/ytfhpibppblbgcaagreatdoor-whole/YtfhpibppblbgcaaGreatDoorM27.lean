import Derived.Test.YtfhpibppblbgcaaGreatDoorM26
set_option linter.all false
set_option maxRecDepth 100000
set_option maxHeartbeats 40000000
namespace Go.Proofs.YtfhpibppblbgcaaGreatDoor
open Go.RowKit Go.Proofs.Tryz
variable{lo base Rb Pb t:Nat}{w0 w w':World}{r:Fl.RS}
def Uw(r:Fl.RS)(n:List UInt8)(v:List (List UInt8)):Nat×Fl.aa×Fl.RS:=match r.value v with
 |none=>(4,noS,r)
 |some e=>if 0<=Fl.ai r.aj n then(4,noS,r) else match r.bm n with
  |none=>(5,noS,r)
  |some (x,r')=>(0,⟨3,x,0,e,[],[]⟩,r')
section
variable{m:Yl}{fl:List FlS}
def st_set3(h:Zs lo base Rb Pb w0 w m)(hr:Zg r fl t m)(b off cap:Nat)(n a:List UInt8)(ha:a.length<=100000)(S0:n.length<=100000)(hb:b<w.heap.size)(B0:b≠Rb/\∀j,Zr j->(m.v j).ownBlock≠some b)(T0:3<=cap/\cap<=maxLen)(c0:w.cell? (Aq b off)=some (.string ⟨#[115,101,116]⟩))(c1:w.cell? (Aq b (off+1))=some (.string ⟨n.toArray⟩))(c2:w.cell? (Aq b (off+2))=some (.string ⟨a.toArray⟩)):
  Cq 19 #[Pq Rb,.slice (some (Aq b off)) 3 cap] w (zv5 lo base Rb Pb w0 w m fl t (Uw r n [a])):=by
 have bL:=h.bL
 have U0:Rb<w.heap.size:=by omega
 have HH:=Zz h;have HO:=Zz hr;have C0:Hid (∀W,Bq w W->Cq 28 #[Pq Rb,.string ⟨a.toArray⟩] W (zsz (r.atom a) W)):=λW hW=>zwy (h.below hW) hr a ha;have D0:Hid (∀W,Bq w W->Cq 17 #[m.v 3,.string ⟨n.toArray⟩] W λe w'=>e=.returned (Iq (Fl.ai r.aj n))/\w'=W):=λW hW=>Yc ((h.below hW).aj hr) n;obtain⟨c3,k3,n0⟩:=h.shape 3 (by unfold Zr;omega);rw[hr.r3.1]at n0;rw[n0]at D0;have r0:Hid (∀W,Bq w W->Cl W Rb 3 (.slice c3 r.aj.length k3)/\Cl W b (off+1) (.string ⟨n.toArray⟩)):=λW hW=>⟨(hW.cell (p:=(Aq Rb 3)) U0).trans (by rw[<-n0];exact h.cR.c 3 (by omega)),(hW.cell (p:=(Aq b (off+1))) hb).trans c1⟩;have f1:=Fl.aR r.aj n;have g1:=hr.ch
 have f0:Hid (Uw r n [a]=match r.atom a with|none=>(4,noS,r)|some x=>if 0<=Fl.ai r.aj n then(4,noS,r) else match r.bm n with
  |none=>(5,noS,r)
  |some (y,r')=>(0,⟨3,y,0,⟨-1,x,Fl.ju⟩,[],[]⟩,r')):=by
  show _=_;have hv:r.value [a]=(r.atom a).map λx=>⟨-1,x,Fl.ju⟩:=rfl;unfold Uw;rw[hv];generalize r.atom a=o
  cases o<;>rfl
 obtain⟨aV,g0⟩:=nmE (Uw r n [a]);rw[<-g0]at f0⊢;obtain⟨oa,E0⟩:=nmE (r.atom a);rw[<-E0]at C0 f0;generalize Fl.ai r.aj n=pc at*
 have F0:(3:Int)<=(cap:Int):=by omega
 have V0: -1<=pc/\pc<=3:=by omega
 have HB:Hid (∀o o',Bq w ((w.alloc o).alloc o')):=λo o'=>(bA).alloc (by simp) _;have W0:Hid (∀W,Bq w W->∀(av:Bool) (an:Int),Cq 29 #[Pq Rb,.agg #[Iq 3,Iq 0,Iq 0,Iq (-1),.bool av,Iq an,.bool false,Iq 0,Zq,Zq],.string ⟨n.toArray⟩] W (ze8 lo base Rb Pb w0 W (λj=>(m.v j).ownBlock) m.fQ fl t (r.bm n) (-1) av an false 0)):=λW hW av an=>zkz (h.below hW) hr n S0 (-1) av an false 0;have X0:Hid (∀b,m.fQ b->b<w.heap.size):=λb hb=>(h.kp b hb).2.1;have a0:Hid (∀j,Zr j->∀b,(m.v j).ownBlock=some b->b<w.heap.size):=λj hj b hb=>((h.own j hj).lt b hb).2;clear h hr g0 E0 n0 c1
 go_enter func19,ntmps19
 go_wp2_with fail
 refine(C0 _ (HB _ _)).mono ?_;rintro e W1 ⟨h0,aQ,i0⟩;have rE:W1.heap[w.heap.size]?=some (.cells Yy 61 (0,0)):=by
  rw[h0.block _ (by simp;omega),Below.heap_alloc _ _ _ (by simp)];exact Jm _ _ _ rfl
 have rS:W1.heap[w.heap.size+1]?=some (.cells (Zm 3 0 (-1) false 0 false 0) 61 (0,0)):=by
  rw[h0.block _ (by simp)];exact Jm _ _ _ (by simp)
 have Y0:Hid (Bq w W1):=(HB _ _).trans (h0.mono (by simp;omega))
 have Z0:w.heap.size+2<=W1.heap.size:=by have:=h0.size;simp at this;omega
 have G0:w.heap.size+1<W1.heap.size:=by omega
 have H0:w.heap.size<W1.heap.size:=by omega
 have s4:Cl W1 (w.heap.size+1) 4 (.bool false):=cell_of_row _ _ 4 _ _ (0,0) rS;have s5:Cl W1 (w.heap.size+1) 5 (Iq 0):=cell_of_row _ _ 5 _ _ (0,0) rS
 have sz:∀j,W1.frozen? (Aq (w.heap.size+1) j)=false:=λj=>by simp[World.frozen?,rS]
 have HX:Hid (∀(u:Bool) (v:Int) a,Bq w (((W1.setCell (Aq (w.heap.size+1) 4) (.bool u)).setCell (Aq (w.heap.size+1) 5) (Iq v)).alloc a).drew/\
   (((W1.setCell (Aq (w.heap.size+1) 4) (.bool u)).setCell (Aq (w.heap.size+1) 5) (Iq v)).alloc a).drew.heap[w.heap.size]?=some (.cells Yy 61 (0,0))/\
   (((W1.setCell (Aq (w.heap.size+1) 4) (.bool u)).setCell (Aq (w.heap.size+1) 5) (Iq v)).alloc a).drew.heap[w.heap.size+1]?=some (.cells (Zm 3 0 (-1) u v false 0) 61 (0,0))/\
   w.heap.size+1<(((W1.setCell (Aq (w.heap.size+1) 4) (.bool u)).setCell (Aq (w.heap.size+1) 5) (Iq v)).alloc a).drew.heap.size):=λu v a=>by
  refine⟨(((Y0.setCell (by show w.heap.size<=w.heap.size+1;omega) _).setCell (by show w.heap.size<=w.heap.size+1;omega) _).alloc (by rw[Zy,Zy];omega) _).drew,?_,?_,?_⟩
  ·show (((W1.setCell _ _).setCell _ _).alloc a).heap[w.heap.size]?=_
   rw[Below.heap_alloc _ _ _ (by rw[Zy,Zy];exact H0),Zx _ _ _ _ _ (by omega),Zx _ _ _ _ _ (by omega)];exact rE
  ·show (((W1.setCell _ _).setCell _ _).alloc a).heap[w.heap.size+1]?=_
   rw[Below.heap_alloc _ _ _ (by rw[Zy,Zy];exact G0)];exact zz9 (zz9 rS 4 _ _ rfl) 5 _ _ rfl
  show w.heap.size+1<(((W1.setCell _ _).setCell _ _).alloc a).heap.size;simp[Zy];omega
 obtain⟨u,v,ok,rfl,I0⟩:∃(u:Bool) (v:Int) (ok:Bool),e=.returned (.tuple #[.agg #[.bool u,Iq v],.bool ok])/\((oa=none/\ok=false)\/∃x,oa=some x/\ok=true/\u=x.var/\v=(x.v:Int)):=by
  cases oa with
  |none=>obtain⟨v,hv⟩:=i0 rfl;exact⟨_,_,_,hv,.inl ⟨rfl,rfl⟩⟩
  |some x=>exact⟨_,_,_,aQ x rfl,.inr ⟨x,rfl,rfl,rfl,rfl⟩⟩
 have j0:=Zz I0;clear rE rS h0 aQ i0 I0 c2
 go_wp2_with fail
 refine Zi (λW=>Bq w W) [7] [] [] (HX _ _ _).1 (by kernel_rfl) (λc a d v w h=>by cases d<;>exact h) (λops hG=>?_);clear hG
 iterate 7 refine Xf rfl (kE (by intro w' hw';obtain⟨x0,x1⟩:=r0 w' hw';clear hw';go_simp<;>rfl) (by go_simp<;>rfl) ?_)
 refine Zt ?_
 go_wp2_with fail
 refine(D0 _ (HX _ _ _).1).mono ?_;rintro e w1 ⟨rfl,J0⟩;rw[J0];clear J0 w1
 go_wp2_with fail
 refine⟨(HX _ _ _).1,?_⟩;refine Zw rfl (by rintro _ -;go_simp<;>rfl) (by go_simp<;>rfl) ?_;refine Zu ?_;obtain⟨X,s0⟩:=nmE ((((W1.setCell (Aq (w.heap.size+1) 4) (.bool u)).setCell (Aq (w.heap.size+1) 5) (Iq v)).alloc (.cells #[.bool u,Iq v] 57)).drew);have K0:=HX u v (.cells #[.bool u,Iq v] 57);rw[<-s0]at K0;obtain⟨x1,x2,x3,x4⟩:=K0;have b0:=Zz x1;have k0:=Zz x2;have o0:=Zz x3;rw[<-s0];clear s0 x1 x2 x3 s4 s5 sz Z0 G0 H0
 cases ok with
 |false=>
  have HR:Hid (aV=(4,noS,r)):=by
   show _=_;rcases j0.out with⟨h1,-⟩|⟨x,-,h2,-⟩
   ·rw[f0.out,h1]
   cases h2
  go_wp2_with (first|(refine zx7 6 ?_;refine Xl (w.heap.size+1) (Zm 3 0 (-1) u v false 0) o0 rfl rfl ?_)|(refine Xx 4 ?_;refine Yo w.heap.size Yy (Zm 3 0 (-1) u v false 0) k0 rfl rfl (Xk _ _ _ _ _ _ _) rfl rfl ?_))
  refine bodyPost_ret (v:=.tuple #[.agg (Zm 3 0 (-1) u v false 0),Iq 4]) ?_ rfl ?_
  ·exact Yx (p:=4) (q:=5) (ty:=61) results19 _ _ (Aq w.heap.size 0) _ rfl (run_loadVar_row _ _ _ _ _ _ _ (setRow_heap _ _ _ _ _ _ k0) underlying61 rfl Tryz.infoStmt10)
  rw[HR.out];exact⟨λh=>(by cases h),λ_=>⟨⟨_,_,_,_,_,_,_,rfl⟩,(HH.below (below_setRow b0 (Nat.le_refl _) _)).bel⟩⟩
 |true=>
  obtain⟨x,hx,rfl,rfl⟩:∃x,oa=some x/\u=x.var/\v=(x.v:Int):=by
   rcases j0.out with⟨-,h2⟩|⟨x,h1,-,h3,h4⟩
   ·cases h2
   exact⟨x,h1,h3,h4⟩
  subst hx
  by_cases hp:0<=pc
  ·have HR:Hid (aV=(4,noS,r)):=by show _=_;rw[f0.out];exact if_pos hp
   have t0:¬pc<0:=(by omega);have hd:decide (pc<0)=false:=decide_eq_false t0
   go_wp2_with (first|(refine zx7 6 ?_;refine Xl (w.heap.size+1) (Zm 3 0 (-1) x.var x.v false 0) o0 rfl rfl ?_)|(refine Xx 4 ?_;refine Yo w.heap.size Yy (Zm 3 0 (-1) x.var x.v false 0) k0 rfl rfl (Xk _ _ _ _ _ _ _) rfl rfl ?_))
   refine bodyPost_ret (v:=.tuple #[.agg (Zm 3 0 (-1) x.var x.v false 0),Iq 4]) ?_ rfl ?_
   ·exact Yx (p:=4) (q:=5) (ty:=61) results19 _ _ (Aq w.heap.size 0) _ rfl (run_loadVar_row _ _ _ _ _ _ _ (setRow_heap _ _ _ _ _ _ k0) underlying61 rfl Tryz.infoStmt10)
   rw[HR.out];exact⟨λh=>(by cases h),λ_=>⟨⟨_,_,_,_,_,_,_,rfl⟩,(HH.below (below_setRow b0 (Nat.le_refl _) _)).bel⟩⟩
  have t0:pc<0:=(by omega);have hd:decide (pc<0)=true:=decide_eq_true t0;have L0:Hid (aV=match r.bm n with|none=>(5,noS,r)|some (y,r')=>(0,⟨3,y,0,⟨-1,x,Fl.ju⟩,[],[]⟩,r')):=(by show _=_;rw[f0.out];exact if_neg hp);have p0:Hid (∀W:World,W.heap[w.heap.size+1]?=some (.cells (Zm 3 0 (-1) x.var x.v false 0) 61 (0,0))->Cl W b (off+1) (.string ⟨n.toArray⟩)->Cl W (w.heap.size+1) 0 (Iq 3)/\Cl W (w.heap.size+1) 1 (Iq 0)/\Cl W (w.heap.size+1) 2 (Iq 0)/\Cl W (w.heap.size+1) 3 (Iq (-1))/\Cl W (w.heap.size+1) 4 (.bool x.var)/\Cl W (w.heap.size+1) 5 (Iq x.v)/\Cl W (w.heap.size+1) 6 (.bool false)/\Cl W (w.heap.size+1) 7 (Iq 0)/\Cl W (w.heap.size+1) 8 Zq/\Cl W (w.heap.size+1) 9 Zq/\Cl W b (off+1) (.string ⟨n.toArray⟩)):=λW h1 h2=>⟨cell_of_row _ _ 0 _ _ (0,0) h1,cell_of_row _ _ 1 _ _ (0,0) h1,cell_of_row _ _ 2 _ _ (0,0) h1,cell_of_row _ _ 3 _ _ (0,0) h1,cell_of_row _ _ 4 _ _ (0,0) h1,cell_of_row _ _ 5 _ _ (0,0) h1,cell_of_row _ _ 6 _ _ (0,0) h1,cell_of_row _ _ 7 _ _ (0,0) h1,cell_of_row _ _ 8 _ _ (0,0) h1,cell_of_row _ _ 9 _ _ (0,0) h1,h2⟩;clear hp
  go_wp2_with fail
  refine Zi (λW=>Cl W (w.heap.size+1) 0 (Iq 3)/\Cl W (w.heap.size+1) 1 (Iq 0)/\Cl W (w.heap.size+1) 2 (Iq 0)/\Cl W (w.heap.size+1) 3 (Iq (-1))/\Cl W (w.heap.size+1) 4 (.bool x.var)/\Cl W (w.heap.size+1) 5 (Iq x.v)/\Cl W (w.heap.size+1) 6 (.bool false)/\Cl W (w.heap.size+1) 7 (Iq 0)/\Cl W (w.heap.size+1) 8 Zq/\Cl W (w.heap.size+1) 9 Zq/\Cl W b (off+1) (.string ⟨n.toArray⟩)) [5,8] [] [] (p0 _ o0 (r0 X b0).2) (by kernel_rfl) (λc a d v w h=>by cases d<;>exact h) (λops hG=>?_);clear hG
  iterate 5 refine Zw rfl (by rintro _ ⟨z0,z1,z2,z3,z4,z5,z6,z7,z8,z9,z10⟩;go_simp<;>rfl) (by go_simp<;>rfl) ?_
  refine Zt ?_
  go_wp2_with fail
  refine(W0 X.drew b0.drew x.var x.v).mono ?_;rintro e W5 ⟨l0,hg,u0⟩;have a1:=Zz l0;have M0:W5.heap[w.heap.size]?=some (.cells Yy 61 (0,0)):=(l0 w.heap.size (by show w.heap.size<X.heap.size;omega) (by omega) (λhh=>by have:=a0 4 (by unfold Zr;omega) _ hh;omega)).trans k0.out;have v0:W5.heap[w.heap.size+1]?=some (.cells (Zm 3 0 (-1) x.var x.v false 0) 61 (0,0)):=(l0 (w.heap.size+1) (by show w.heap.size+1<X.heap.size;omega) (by omega) (λhh=>by have:=a0 4 (by unfold Zr;omega) _ hh;omega)).trans o0.out;have y0:Cl W5 b (off+1) (.string ⟨n.toArray⟩):=(Qc (a:=(Aq b (off+1))) (l0 b (by show b<X.heap.size;omega) B0.1 (B0.2 4 (by unfold Zr;omega)))).trans (r0 X b0).2;have q0:=Zz M0;have N0:Hid (Cl W5 (w.heap.size+1) 0 (Iq 3)/\Cl W5 (w.heap.size+1) 1 (Iq 0)/\Cl W5 (w.heap.size+1) 2 (Iq 0)/\Cl W5 (w.heap.size+1) 3 (Iq (-1))/\Cl W5 (w.heap.size+1) 4 (.bool x.var)/\Cl W5 (w.heap.size+1) 5 (Iq x.v)/\Cl W5 (w.heap.size+1) 6 (.bool false)/\Cl W5 (w.heap.size+1) 7 (Iq 0)/\Cl W5 (w.heap.size+1) 8 Zq/\Cl W5 (w.heap.size+1) 9 Zq/\Cl W5 b (off+1) (.string ⟨n.toArray⟩)):=p0 W5 v0 y0;have O0:Hid (∀c:Array Value,Cl (W5.setRow w.heap.size c) (w.heap.size+1) 0 (Iq 3)/\Cl (W5.setRow w.heap.size c) (w.heap.size+1) 1 (Iq 0)/\Cl (W5.setRow w.heap.size c) (w.heap.size+1) 2 (Iq 0)/\Cl (W5.setRow w.heap.size c) (w.heap.size+1) 3 (Iq (-1))/\Cl (W5.setRow w.heap.size c) (w.heap.size+1) 4 (.bool x.var)/\Cl (W5.setRow w.heap.size c) (w.heap.size+1) 5 (Iq x.v)/\Cl (W5.setRow w.heap.size c) (w.heap.size+1) 6 (.bool false)/\Cl (W5.setRow w.heap.size c) (w.heap.size+1) 7 (Iq 0)/\Cl (W5.setRow w.heap.size c) (w.heap.size+1) 8 Zq/\Cl (W5.setRow w.heap.size c) (w.heap.size+1) 9 Zq/\Cl (W5.setRow w.heap.size c) b (off+1) (.string ⟨n.toArray⟩)):=λc=>p0 _ ((setRow_other W5 w.heap.size (w.heap.size+1) c (by omega)).trans v0) ((Qc (a:=(Aq b (off+1))) (setRow_other W5 w.heap.size b c (by omega))).trans y0);have P0:lo<=w.heap.size:=(by omega);clear M0 l0 v0 y0 p0
  cases e0:r.bm n with
  |none=>
   obtain⟨⟨y,rfl⟩,Q0⟩:=u0 e0;have HR:Hid (aV=(5,noS,r)):=(by show _=_;rw[L0.out,e0]);have b1:=Zz Q0;clear hg u0 Q0 e0
   go_wp2_with fail
   refine⟨N0,?_⟩
   iterate 2 refine Zw rfl (by rintro _ -;go_simp<;>rfl) (by go_simp<;>rfl) ?_
   refine Zt ?_
   go_wp2_with (refine Xx 4 ?_;refine Yo w.heap.size Yy (Zm 3 y (-1) x.var x.v false 0) q0 rfl rfl (Xk _ _ _ _ _ _ _) rfl rfl ?_)
   refine⟨O0 _,?_⟩;refine Zw rfl (by rintro _ -;go_simp<;>rfl) (by go_simp<;>rfl) ?_;refine Zu ?_
   go_wp2_with fail
   refine bodyPost_ret (v:=.tuple #[.agg (Zm 3 y (-1) x.var x.v false 0),Iq 5]) ?_ rfl ?_
   ·exact Yx (p:=4) (q:=5) (ty:=61) results19 _ _ (Aq w.heap.size 0) _ rfl (run_loadVar_row _ _ _ _ _ _ _ (setRow_heap _ _ _ _ _ _ q0) underlying61 rfl Tryz.infoStmt10)
   rw[HR.out];exact⟨λh=>(by cases h),λ_=>⟨⟨_,_,_,_,_,_,_,rfl⟩,below_setRow b1 P0 _⟩⟩
  |some yr=>
   obtain⟨y,r'⟩:=yr;obtain⟨rfl,m',hm',R0,m0,d0⟩:=hg y r' e0;have HR:Hid (aV=(0,⟨3,y,0,⟨-1,x,Fl.ju⟩,[],[]⟩,r')):=(by show _=_;rw[L0.out,e0]);have HM:Hid (Zs lo base Rb Pb w0 (W5.setRow w.heap.size (Zm 3 y (-1) x.var x.v false 0)) m'):=by
    refine hm'.aside (below_setRow hm'.bel P0 _) (by simp only[World.setRow,Array.size_modify];exact hm'.bL.2.2.2.2.2.1) (λb hb=>setRow_other _ _ _ _ ?_) (by simp only[World.setRow,Array.size_modify];exact Nat.le_refl _);rcases hb with rfl|rfl|⟨j,hj,hb⟩|hb
    ·omega
    ·omega
    ·rcases d0 j hj b hb with h1|h1
     ·have:=a0 j hj b h1;omega
     have:X.heap.size<=b:=h1;omega
    rw[m0]at hb;have:=X0 b hb;omega
   have A0:Hid (zrz Rb w m (W5.setRow w.heap.size (Zm 3 y (-1) x.var x.v false 0)) m'):=λb hb d1 du=>by
    have i1:=b0.size;refine⟨(setRow_other _ _ _ _ (by omega)).trans ((a1 b (by show b<X.heap.size;omega) d1 (du 4 (by unfold Zr;omega))).trans (b0.block b hb)),λj hj hh=>?_⟩;rcases d0 j hj b hh with h1|h1
    ·exact du j hj h1
    have:X.heap.size<=b:=h1;omega
   have e1:=Zz R0;clear hg u0 e0 hm' R0 d0
   go_wp2_with fail
   refine⟨N0,?_⟩
   iterate 2 refine Zw rfl (by rintro _ -;go_simp<;>rfl) (by go_simp<;>rfl) ?_
   refine Zt ?_
   go_wp2_with (refine Xx 4 ?_;refine Yo w.heap.size Yy (Zm 3 y (-1) x.var x.v false 0) q0 rfl rfl (Xk _ _ _ _ _ _ _) rfl rfl ?_)
   refine⟨O0 _,?_⟩;refine Zw rfl (by rintro _ -;go_simp<;>rfl) (by go_simp<;>rfl) ?_;refine Zu ?_
   go_wp2_with fail
   refine bodyPost_ret (v:=.tuple #[.agg (Zm 3 y (-1) x.var x.v false 0),Iq 0]) ?_ rfl ?_
   ·exact Yx (p:=4) (q:=5) (ty:=61) results19 _ _ (Aq w.heap.size 0) _ rfl (run_loadVar_row _ _ _ _ _ _ _ (setRow_heap _ _ _ _ _ _ q0) underlying61 rfl Tryz.infoStmt10)
   rw[HR.out];exact⟨λ_=>⟨rfl,m',HM,e1,A0⟩,λh=>absurd rfl h⟩
end
def yt0(W:World)(o:List UInt8):Cq 17 #[.slice (some (Aq W.heap.size 0)) 5 5,.string ⟨o.toArray⟩] (W.alloc (.cells #[.string ⟨#[43]⟩,.string ⟨#[45]⟩,.string ⟨#[42]⟩,.string ⟨#[60]⟩,.string ⟨#[61,61]⟩] 9)) λe w'=>e=.returned (Iq (Fl.ai Fl.cH o))/\w'=W.alloc (.cells #[.string ⟨#[43]⟩,.string ⟨#[45]⟩,.string ⟨#[42]⟩,.string ⟨#[60]⟩,.string ⟨#[61,61]⟩] 9):=by
 have:=zn8 _ _ (⟨o.toArray⟩:ByteArray) _ (yw6 W);rw[yw5,Yr]at this;exact this
section
variable{m:Yl}{fl:List FlS}
def st_set5(h:Zs lo base Rb Pb w0 w m)(hr:Zg r fl t m)(b off cap:Nat)(n a o b2:List UInt8)(ha:a.length<=100000)(m1:b2.length<=100000)(n1:n.length<=100000)(hb:b<w.heap.size)(U0:b≠Rb/\∀j,Zr j->(m.v j).ownBlock≠some b)(p1:5<=cap/\cap<=maxLen)(c0:w.cell? (Aq b off)=some (.string ⟨#[115,101,116]⟩))(c1:w.cell? (Aq b (off+1))=some (.string ⟨n.toArray⟩))(c2:w.cell? (Aq b (off+2))=some (.string ⟨a.toArray⟩))(c3':w.cell? (Aq b (off+3))=some (.string ⟨o.toArray⟩))(c4':w.cell? (Aq b (off+4))=some (.string ⟨b2.toArray⟩)):
  Cq 19 #[Pq Rb,.slice (some (Aq b off)) 5 cap] w (zv5 lo base Rb Pb w0 w m fl t (Uw r n [a,o,b2])):=by
 have bL:=h.bL
 have q1:Rb<w.heap.size:=by omega
 have HH:=Zz h;have HO:=Zz hr;have V0:Hid (∀W,Bq w W->Cq 28 #[Pq Rb,.string ⟨a.toArray⟩] W (zsz (r.atom a) W)):=λW hW=>zwy (h.below hW) hr a ha;have o0:Hid (∀W,Bq w W->Cq 28 #[Pq Rb,.string ⟨b2.toArray⟩] W (zsz (r.atom b2) W)):=λW hW=>zwy (h.below hW) hr b2 m1;have p0:Hid (∀W,Bq w W->Cl W b (off+3) (.string ⟨o.toArray⟩)/\Cl W b (off+4) (.string ⟨b2.toArray⟩)):=λW hW=>⟨(hW.cell (p:=(Aq b (off+3))) hb).trans c3',(hW.cell (p:=(Aq b (off+4))) hb).trans c4'⟩;have W0:Hid (∀W,Bq w W->Cq 17 #[m.v 3,.string ⟨n.toArray⟩] W λe w'=>e=.returned (Iq (Fl.ai r.aj n))/\w'=W):=λW hW=>Yc ((h.below hW).aj hr) n;obtain⟨c3,k3,F0⟩:=h.shape 3 (by unfold Zr;omega);rw[hr.r3.1]at F0;rw[F0]at W0;have J0:Hid (∀W,Bq w W->Cl W Rb 3 (.slice c3 r.aj.length k3)/\Cl W b (off+1) (.string ⟨n.toArray⟩)):=λW hW=>⟨(hW.cell (p:=(Aq Rb 3)) q1).trans (by rw[<-F0];exact h.cR.c 3 (by omega)),(hW.cell (p:=(Aq b (off+1))) hb).trans c1⟩;have G1:=Fl.aR r.aj n;have H1:=hr.ch
 have a0:Hid (Uw r n [a,o,b2]=match r.atom a,r.atom b2 with
  |some x,some y=>(if 0<=Fl.ai r.aj n then(4,noS,r) else match r.bm n with
   |none=>(5,noS,r)
   |some (z,r')=>(0,⟨3,z,0,⟨Fl.ai Fl.cH o,x,y⟩,[],[]⟩,r'))
  |_,_=>(4,noS,r)):=by
  show _=_;have hv:r.value [a,o,b2]=(r.atom a).bind λx=>(r.atom b2).map λy=>⟨Fl.ai Fl.cH o,x,y⟩:=rfl;unfold Uw;rw[hv];generalize r.atom a=o1;generalize r.atom b2=o2
  cases o1<;>cases o2<;>rfl
 obtain⟨aV,q0⟩:=nmE (Uw r n [a,o,b2]);rw[<-q0]at a0⊢;obtain⟨oa,X0⟩:=nmE (r.atom a);obtain⟨ob,Z0⟩:=nmE (r.atom b2);rw[<-X0]at V0 a0;rw[<-Z0]at o0 a0;have r1:=Fl.aR Fl.cH o;have s1:Fl.cH.length=5:=rfl;have t1:Hid (∀W:World,Cq 17 #[.slice (some (Aq W.heap.size 0)) 5 5,.string ⟨o.toArray⟩] (W.alloc (.cells #[.string ⟨#[43]⟩,.string ⟨#[45]⟩,.string ⟨#[42]⟩,.string ⟨#[60]⟩,.string ⟨#[61,61]⟩] 9)) λe w'=>e=.returned (Iq (Fl.ai Fl.cH o))/\w'=W.alloc (.cells #[.string ⟨#[43]⟩,.string ⟨#[45]⟩,.string ⟨#[42]⟩,.string ⟨#[60]⟩,.string ⟨#[61,61]⟩] 9)):=λW=>yt0 W o;generalize Fl.ai Fl.cH o=op at*
 have I1: -1<=op/\op<=4:=by omega
 generalize Fl.ai r.aj n=pc at*
 have a1:(5:Int)<=(cap:Int):=by omega
 have u1: -1<=pc/\pc<=3:=by omega
 have HB:Hid (∀o o',Bq w ((w.alloc o).alloc o')):=λo o'=>(bA).alloc (by simp) _;have v1:Hid (∀W,Bq w W->∀(av:Bool) (an:Int) (av2:Bool) (an2:Int),Cq 29 #[Pq Rb,.agg #[Iq 3,Iq 0,Iq 0,Iq op,.bool av,Iq an,.bool av2,Iq an2,Zq,Zq],.string ⟨n.toArray⟩] W (ze8 lo base Rb Pb w0 W (λj=>(m.v j).ownBlock) m.fQ fl t (r.bm n) op av an av2 an2)):=λW hW av an av2 an2=>zkz (h.below hW) hr n n1 op av an av2 an2;have y1:Hid (∀b,m.fQ b->b<w.heap.size):=λb hb=>(h.kp b hb).2.1;have h0:Hid (∀j,Zr j->∀b,(m.v j).ownBlock=some b->b<w.heap.size):=λj hj b hb=>((h.own j hj).lt b hb).2;clear h hr q0 X0 Z0 F0 c1 c3' c4' r1 s1
 go_enter func19,ntmps19
 go_wp2_with fail
 refine(V0 _ (HB _ _)).mono ?_;rintro e W1 ⟨r0,aQ,b0⟩;have rE:W1.heap[w.heap.size]?=some (.cells Yy 61 (0,0)):=by
  rw[r0.block _ (by simp;omega),Below.heap_alloc _ _ _ (by simp)];exact Jm _ _ _ rfl
 have rS:W1.heap[w.heap.size+1]?=some (.cells (Zm 3 0 (-1) false 0 false 0) 61 (0,0)):=by
  rw[r0.block _ (by simp)];exact Jm _ _ _ (by simp)
 have G0:Hid (Bq w W1):=(HB _ _).trans (r0.mono (by simp;omega))
 have A1:w.heap.size+2<=W1.heap.size:=by have:=r0.size;simp at this;omega
 have s0:w.heap.size+1<W1.heap.size:=by omega
 have t0:w.heap.size<W1.heap.size:=by omega
 have s4:Cl W1 (w.heap.size+1) 4 (.bool false):=cell_of_row _ _ 4 _ _ (0,0) rS;have s5:Cl W1 (w.heap.size+1) 5 (Iq 0):=cell_of_row _ _ 5 _ _ (0,0) rS
 have sz:∀j,W1.frozen? (Aq (w.heap.size+1) j)=false:=λj=>by simp[World.frozen?,rS]
 obtain⟨u,v,ok1,rfl,u0⟩:∃(u:Bool) (v:Int) (ok:Bool),e=.returned (.tuple #[.agg #[.bool u,Iq v],.bool ok])/\((oa=none/\ok=false)\/∃x,oa=some x/\ok=true/\u=x.var/\v=(x.v:Int)):=by
  cases oa with
  |none=>obtain⟨v,hv⟩:=b0 rfl;exact⟨_,_,_,hv,.inl ⟨rfl,rfl⟩⟩
  |some x=>exact⟨_,_,_,aQ x rfl,.inr ⟨x,rfl,rfl,rfl,rfl⟩⟩
 have v0:=Zz u0;have s3:Cl W1 (w.heap.size+1) 3 (Iq (-1)):=cell_of_row _ _ 3 _ _ (0,0) rS;have RE1:=Zz rE;have RS1:=Zz rS;clear rE rS r0 aQ b0 u0 c2
 go_wp2_with fail
 refine(zcy _).mono ?_;rintro e w1 ⟨rfl,g0⟩;rw[g0];clear g0 w1;obtain⟨Y0,l0⟩:=nmE (((W1.setCell (Aq (w.heap.size+1) 4) (.bool u)).setCell (Aq (w.heap.size+1) 5) (Iq v)).alloc (.cells #[.bool u,Iq v] 57))
 have B1:w.heap.size+2<=Y0.heap.size:=by rw[l0];simp[Zy];omega
 have K0:Bq w Y0:=by
  rw[l0];exact((G0.setCell (by show w.heap.size<=w.heap.size+1;omega) _).setCell (by show w.heap.size<=w.heap.size+1;omega) _).alloc (by rw[Zy,Zy];omega) _
 have rEY:Y0.heap[w.heap.size]?=some (.cells Yy 61 (0,0)):=by
  rw[l0,Below.heap_alloc _ _ _ (by rw[Zy,Zy];exact t0),Zx _ _ _ _ _ (by omega),Zx _ _ _ _ _ (by omega)];exact RE1
 have rSY:Y0.heap[w.heap.size+1]?=some (.cells (Zm 3 0 (-1) u v false 0) 61 (0,0)):=by
  rw[l0,Below.heap_alloc _ _ _ (by rw[Zy,Zy];exact s0)];exact zz9 (zz9 RS1 4 _ _ rfl) 5 _ _ rfl
 rw[<-l0];clear l0 s3 s4 s5 sz A1 s0 t0 RE1 RS1 G0
 have L0:w.heap.size+1<Y0.heap.size:=by omega
 have y3:Cl Y0 (w.heap.size+1) 3 (Iq (-1)):=cell_of_row _ _ 3 _ _ (0,0) rSY
 have yz:∀j,Y0.frozen? (Aq (w.heap.size+1) j)=false:=λj=>by simp[World.frozen?,rSY]
 have M0:Hid (∀o',Bq w (Y0.alloc o')):=λo'=>K0.alloc (by omega) _;have w3:∀o',Cl (Y0.alloc o') b (off+3) (.string ⟨o.toArray⟩):=λo'=>(p0 _ (M0 o')).1
 go_wp2_with fail
 refine(t1 Y0).mono ?_;rintro e w1 ⟨rfl,g0⟩;rw[g0];clear g0 w1;have i0:Hid (∀v o',Bq w ((Y0.setCell (Aq (w.heap.size+1) 3) v).alloc o')):=λv o'=>(K0.setCell (by show w.heap.size<=w.heap.size+1;omega) _).alloc (by rw[Zy];omega) _;have w4:∀v o',((Y0.setCell (Aq (w.heap.size+1) 3) v).alloc o').cell? (Aq b (off+4))=some (.string ⟨b2.toArray⟩):=λv o'=>(p0 _ (i0 v o')).2
 go_wp2_with fail
 refine(o0 _ (i0 _ _)).mono ?_;rintro e W2 ⟨hb2',aQ,b0⟩
 have N0:w.heap.size+2<=W2.heap.size:=by have:=hb2'.size;simp[Zy]at this;omega
 have rE2:W2.heap[w.heap.size]?=some (.cells Yy 61 (0,0)):=by
  rw[hb2'.block _ (by simp[Zy];omega),Below.heap_alloc _ _ _ (by rw[Zy];omega),Zx _ _ _ _ _ (by omega)];exact rEY
 have rS2:W2.heap[w.heap.size+1]?=some (.cells (Zm 3 0 op u v false 0) 61 (0,0)):=by
  rw[hb2'.block _ (by simp[Zy];omega),Below.heap_alloc _ _ _ (by rw[Zy];omega)];exact zz9 rSY 3 _ _ rfl
 have G0:Hid (Bq w W2):=(i0 _ _).trans (hb2'.mono (by simp[Zy];omega))
 have s0:w.heap.size+1<W2.heap.size:=by omega
 have t0:w.heap.size<W2.heap.size:=by omega
 have s6:Cl W2 (w.heap.size+1) 6 (.bool false):=cell_of_row _ _ 6 _ _ (0,0) rS2;have s7:Cl W2 (w.heap.size+1) 7 (Iq 0):=cell_of_row _ _ 7 _ _ (0,0) rS2
 have sz:∀j,W2.frozen? (Aq (w.heap.size+1) j)=false:=λj=>by simp[World.frozen?,rS2]
 obtain⟨u2,v2,ok2,rfl,y0⟩:∃(u:Bool) (v:Int) (ok:Bool),e=.returned (.tuple #[.agg #[.bool u,Iq v],.bool ok])/\((ob=none/\ok=false)\/∃x,ob=some x/\ok=true/\u=x.var/\v=(x.v:Int)):=by
  cases ob with
  |none=>obtain⟨v,hv⟩:=b0 rfl;exact⟨_,_,_,hv,.inl ⟨rfl,rfl⟩⟩
  |some x=>exact⟨_,_,_,aQ x rfl,.inr ⟨x,rfl,rfl,rfl,rfl⟩⟩
 have A0:=Zz y0
 have HX:Hid (∀(u2:Bool) (v2:Int) a,Bq w (((W2.setCell (Aq (w.heap.size+1) 6) (.bool u2)).setCell (Aq (w.heap.size+1) 7) (Iq v2)).alloc a).drew/\
   (((W2.setCell (Aq (w.heap.size+1) 6) (.bool u2)).setCell (Aq (w.heap.size+1) 7) (Iq v2)).alloc a).drew.heap[w.heap.size]?=some (.cells Yy 61 (0,0))/\
   (((W2.setCell (Aq (w.heap.size+1) 6) (.bool u2)).setCell (Aq (w.heap.size+1) 7) (Iq v2)).alloc a).drew.heap[w.heap.size+1]?=some (.cells (Zm 3 0 op u v u2 v2) 61 (0,0))/\
   w.heap.size+1<(((W2.setCell (Aq (w.heap.size+1) 6) (.bool u2)).setCell (Aq (w.heap.size+1) 7) (Iq v2)).alloc a).drew.heap.size):=λu2 v2 a=>by
  refine⟨(((G0.setCell (by show w.heap.size<=w.heap.size+1;omega) _).setCell (by show w.heap.size<=w.heap.size+1;omega) _).alloc (by rw[Zy,Zy];omega) _).drew,?_,?_,?_⟩
  ·show (((W2.setCell _ _).setCell _ _).alloc a).heap[w.heap.size]?=_
   rw[Below.heap_alloc _ _ _ (by rw[Zy,Zy];exact t0),Zx _ _ _ _ _ (by omega),Zx _ _ _ _ _ (by omega)];exact rE2
  ·show (((W2.setCell _ _).setCell _ _).alloc a).heap[w.heap.size+1]?=_
   rw[Below.heap_alloc _ _ _ (by rw[Zy,Zy];exact s0)];exact zz9 (zz9 rS2 6 _ _ rfl) 7 _ _ rfl
  show w.heap.size+1<(((W2.setCell _ _).setCell _ _).alloc a).heap.size;simp[Zy];omega
 obtain⟨ok,j0⟩:=nmE ((ok1 && ok2));have d0:Hid (((oa=none\/ob=none)/\ok=false)\/∃x y,oa=some x/\ob=some y/\ok=true/\u=x.var/\v=(x.v:Int)/\u2=y.var/\v2=(y.v:Int)):=by
  show _\/_;rw[j0];rcases v0.out with⟨h1,h2⟩|⟨x,h1,h2,h3,h4⟩
  ·left;rw[h2];exact⟨.inl h1,rfl⟩
  rcases A0.out with⟨g1,g2⟩|⟨y,g1,g2,g3,g4⟩
  ·left;rw[h2,g2];exact⟨.inr g1,rfl⟩
  right;rw[h2,g2];exact⟨x,y,h1,g1,rfl,h3,h4,g3,g4⟩
 clear rE2 rS2 hb2' aQ b0 y0 rEY rSY y3 yz w3 w4 B1 L0 K0 v0 A0;have B0:=Zz j0;clear j0
 cases ok1<;>cases ok2
 all_goals
  have C0:=B0.out;simp only[Bool.and_true,Bool.and_false,Bool.true_and,Bool.false_and,Bool.and_self]at C0;subst C0;clear B0
  go_wp2_with fail
  refine Zi (λW=>Bq w W) [7] [] [] (HX _ _ _).1 (by kernel_rfl) (λc a d v w h=>by cases d<;>exact h) (λops hG=>?_);clear hG
  iterate 7 refine Xf rfl (kE (by intro w' hw';obtain⟨x0,x1⟩:=J0 w' hw';clear hw';go_simp<;>rfl) (by go_simp<;>rfl) ?_)
  refine Zt ?_
  go_wp2_with fail
  refine(W0 _ (HX _ _ _).1).mono ?_;rintro e w1 ⟨rfl,g0⟩;rw[g0];clear g0 w1
  go_wp2_with fail
  refine⟨(HX _ _ _).1,?_⟩;refine Zw rfl (by rintro _ -;go_simp<;>rfl) (by go_simp<;>rfl) ?_;refine Zu ?_;obtain⟨X,O0⟩:=nmE ((((W2.setCell (Aq (w.heap.size+1) 6) (.bool u2)).setCell (Aq (w.heap.size+1) 7) (Iq v2)).alloc (.cells #[.bool u2,Iq v2] 57)).drew);have b1:=HX u2 v2 (.cells #[.bool u2,Iq v2] 57);rw[<-O0]at b1;obtain⟨x1,x2,x3,x4⟩:=b1;have e0:=Zz x1;have f0:=Zz x2;have m0:=Zz x3;rw[<-O0];clear O0 x1 x2 x3 s6 s7 sz N0 s0 t0
 ·skip
  have HR:Hid (aV=(4,noS,r)):=by
   show _=_;rcases d0.out with⟨h1|h1,-⟩|⟨x,y,-,-,h2,-⟩
   ·rw[a0.out,h1]
   ·rw[a0.out,h1];cases oa<;>rfl
   cases h2
  go_wp2_with (first|(refine zx7 6 ?_;refine Xl (w.heap.size+1) (Zm 3 0 op u v u2 v2) m0 rfl rfl ?_)|(refine Xx 4 ?_;refine Yo w.heap.size Yy (Zm 3 0 op u v u2 v2) f0 rfl rfl (Xk _ _ _ _ _ _ _) rfl rfl ?_))
  refine bodyPost_ret (v:=.tuple #[.agg (Zm 3 0 op u v u2 v2),Iq 4]) ?_ rfl ?_
  ·exact Yx (p:=4) (q:=5) (ty:=61) results19 _ _ (Aq w.heap.size 0) _ rfl (run_loadVar_row _ _ _ _ _ _ _ (setRow_heap _ _ _ _ _ _ f0) underlying61 rfl Tryz.infoStmt10)
  rw[HR.out];exact⟨λh=>(by cases h),λ_=>⟨⟨_,_,_,_,_,_,_,rfl⟩,(HH.below (below_setRow e0 (Nat.le_refl _) _)).bel⟩⟩
 ·skip
  have HR:Hid (aV=(4,noS,r)):=by
   show _=_;rcases d0.out with⟨h1|h1,-⟩|⟨x,y,-,-,h2,-⟩
   ·rw[a0.out,h1]
   ·rw[a0.out,h1];cases oa<;>rfl
   cases h2
  go_wp2_with (first|(refine zx7 6 ?_;refine Xl (w.heap.size+1) (Zm 3 0 op u v u2 v2) m0 rfl rfl ?_)|(refine Xx 4 ?_;refine Yo w.heap.size Yy (Zm 3 0 op u v u2 v2) f0 rfl rfl (Xk _ _ _ _ _ _ _) rfl rfl ?_))
  refine bodyPost_ret (v:=.tuple #[.agg (Zm 3 0 op u v u2 v2),Iq 4]) ?_ rfl ?_
  ·exact Yx (p:=4) (q:=5) (ty:=61) results19 _ _ (Aq w.heap.size 0) _ rfl (run_loadVar_row _ _ _ _ _ _ _ (setRow_heap _ _ _ _ _ _ f0) underlying61 rfl Tryz.infoStmt10)
  rw[HR.out];exact⟨λh=>(by cases h),λ_=>⟨⟨_,_,_,_,_,_,_,rfl⟩,(HH.below (below_setRow e0 (Nat.le_refl _) _)).bel⟩⟩
 ·skip
  have HR:Hid (aV=(4,noS,r)):=by
   show _=_;rcases d0.out with⟨h1|h1,-⟩|⟨x,y,-,-,h2,-⟩
   ·rw[a0.out,h1]
   ·rw[a0.out,h1];cases oa<;>rfl
   cases h2
  go_wp2_with (first|(refine zx7 6 ?_;refine Xl (w.heap.size+1) (Zm 3 0 op u v u2 v2) m0 rfl rfl ?_)|(refine Xx 4 ?_;refine Yo w.heap.size Yy (Zm 3 0 op u v u2 v2) f0 rfl rfl (Xk _ _ _ _ _ _ _) rfl rfl ?_))
  refine bodyPost_ret (v:=.tuple #[.agg (Zm 3 0 op u v u2 v2),Iq 4]) ?_ rfl ?_
  ·exact Yx (p:=4) (q:=5) (ty:=61) results19 _ _ (Aq w.heap.size 0) _ rfl (run_loadVar_row _ _ _ _ _ _ _ (setRow_heap _ _ _ _ _ _ f0) underlying61 rfl Tryz.infoStmt10)
  rw[HR.out];exact⟨λh=>(by cases h),λ_=>⟨⟨_,_,_,_,_,_,_,rfl⟩,(HH.below (below_setRow e0 (Nat.le_refl _) _)).bel⟩⟩
 skip
 obtain⟨x,y,hx,hy,rfl,rfl,rfl,rfl⟩:∃x y,oa=some x/\ob=some y/\u=x.var/\v=(x.v:Int)/\u2=y.var/\v2=(y.v:Int):=by
  rcases d0.out with⟨-,h2⟩|⟨x,y,h1,h1',-,h3,h4,h5,h6⟩
  ·cases h2
  exact⟨x,y,h1,h1',h3,h4,h5,h6⟩
 subst hx;subst hy
 by_cases hp:0<=pc
 ·have HR:Hid (aV=(4,noS,r)):=by show _=_;rw[a0.out];exact if_pos hp
  have P0:¬pc<0:=(by omega);have hd:decide (pc<0)=false:=decide_eq_false P0
  go_wp2_with (first|(refine zx7 6 ?_;refine Xl (w.heap.size+1) (Zm 3 0 op x.var x.v y.var y.v) m0 rfl rfl ?_)|(refine Xx 4 ?_;refine Yo w.heap.size Yy (Zm 3 0 op x.var x.v y.var y.v) f0 rfl rfl (Xk _ _ _ _ _ _ _) rfl rfl ?_))
  refine bodyPost_ret (v:=.tuple #[.agg (Zm 3 0 op x.var x.v y.var y.v),Iq 4]) ?_ rfl ?_
  ·exact Yx (p:=4) (q:=5) (ty:=61) results19 _ _ (Aq w.heap.size 0) _ rfl (run_loadVar_row _ _ _ _ _ _ _ (setRow_heap _ _ _ _ _ _ f0) underlying61 rfl Tryz.infoStmt10)
  rw[HR.out];exact⟨λh=>(by cases h),λ_=>⟨⟨_,_,_,_,_,_,_,rfl⟩,(HH.below (below_setRow e0 (Nat.le_refl _) _)).bel⟩⟩
 have P0:pc<0:=by omega
 have hd:decide (pc<0)=true:=decide_eq_true P0
 have d1:Hid (aV=match r.bm n with|none=>(5,noS,r)|some (z,r')=>(0,⟨3,z,0,⟨op,x,y⟩,[],[]⟩,r')):=by show _=_;rw[a0.out];exact if_neg hp
 have H0:Hid (∀W:World,W.heap[w.heap.size+1]?=some (.cells (Zm 3 0 op x.var x.v y.var y.v) 61 (0,0))->Cl W b (off+1) (.string ⟨n.toArray⟩)->Cl W (w.heap.size+1) 0 (Iq 3)/\Cl W (w.heap.size+1) 1 (Iq 0)/\Cl W (w.heap.size+1) 2 (Iq 0)/\Cl W (w.heap.size+1) 3 (Iq op)/\Cl W (w.heap.size+1) 4 (.bool x.var)/\Cl W (w.heap.size+1) 5 (Iq x.v)/\Cl W (w.heap.size+1) 6 (.bool y.var)/\Cl W (w.heap.size+1) 7 (Iq y.v)/\Cl W (w.heap.size+1) 8 Zq/\Cl W (w.heap.size+1) 9 Zq/\Cl W b (off+1) (.string ⟨n.toArray⟩)):=λW h1 h2=>⟨cell_of_row _ _ 0 _ _ (0,0) h1,cell_of_row _ _ 1 _ _ (0,0) h1,cell_of_row _ _ 2 _ _ (0,0) h1,cell_of_row _ _ 3 _ _ (0,0) h1,cell_of_row _ _ 4 _ _ (0,0) h1,cell_of_row _ _ 5 _ _ (0,0) h1,cell_of_row _ _ 6 _ _ (0,0) h1,cell_of_row _ _ 7 _ _ (0,0) h1,cell_of_row _ _ 8 _ _ (0,0) h1,cell_of_row _ _ 9 _ _ (0,0) h1,h2⟩;clear hp
 go_wp2_with fail
 refine Zi (λW=>Cl W (w.heap.size+1) 0 (Iq 3)/\Cl W (w.heap.size+1) 1 (Iq 0)/\Cl W (w.heap.size+1) 2 (Iq 0)/\Cl W (w.heap.size+1) 3 (Iq op)/\Cl W (w.heap.size+1) 4 (.bool x.var)/\Cl W (w.heap.size+1) 5 (Iq x.v)/\Cl W (w.heap.size+1) 6 (.bool y.var)/\Cl W (w.heap.size+1) 7 (Iq y.v)/\Cl W (w.heap.size+1) 8 Zq/\Cl W (w.heap.size+1) 9 Zq/\Cl W b (off+1) (.string ⟨n.toArray⟩)) [5,8] [] [] (H0 _ m0 (J0 X e0).2) (by kernel_rfl) (λc a d v w h=>by cases d<;>exact h) (λops hG=>?_);clear hG
 iterate 5 refine Zw rfl (by rintro _ ⟨z0,z1,z2,z3,z4,z5,z6,z7,z8,z9,z10⟩;go_simp<;>rfl) (by go_simp<;>rfl) ?_
 refine Zt ?_
 go_wp2_with fail
 refine(v1 X.drew e0.drew x.var x.v y.var y.v).mono ?_;rintro e W5 ⟨D0,hg,Q0⟩;have C1:=Zz D0;have e1:W5.heap[w.heap.size]?=some (.cells Yy 61 (0,0)):=(D0 w.heap.size (by show w.heap.size<X.heap.size;omega) (by omega) (λhh=>by have:=h0 4 (by unfold Zr;omega) _ hh;omega)).trans f0.out;have R0:W5.heap[w.heap.size+1]?=some (.cells (Zm 3 0 op x.var x.v y.var y.v) 61 (0,0)):=(D0 (w.heap.size+1) (by show w.heap.size+1<X.heap.size;omega) (by omega) (λhh=>by have:=h0 4 (by unfold Zr;omega) _ hh;omega)).trans m0.out;have S0:Cl W5 b (off+1) (.string ⟨n.toArray⟩):=(Qc (a:=(Aq b (off+1))) (D0 b (by show b<X.heap.size;omega) U0.1 (U0.2 4 (by unfold Zr;omega)))).trans (J0 X e0).2;have I0:=Zz e1;have f1:Hid (Cl W5 (w.heap.size+1) 0 (Iq 3)/\Cl W5 (w.heap.size+1) 1 (Iq 0)/\Cl W5 (w.heap.size+1) 2 (Iq 0)/\Cl W5 (w.heap.size+1) 3 (Iq op)/\Cl W5 (w.heap.size+1) 4 (.bool x.var)/\Cl W5 (w.heap.size+1) 5 (Iq x.v)/\Cl W5 (w.heap.size+1) 6 (.bool y.var)/\Cl W5 (w.heap.size+1) 7 (Iq y.v)/\Cl W5 (w.heap.size+1) 8 Zq/\Cl W5 (w.heap.size+1) 9 Zq/\Cl W5 b (off+1) (.string ⟨n.toArray⟩)):=H0 W5 R0 S0;have i1:Hid (∀c:Array Value,Cl (W5.setRow w.heap.size c) (w.heap.size+1) 0 (Iq 3)/\Cl (W5.setRow w.heap.size c) (w.heap.size+1) 1 (Iq 0)/\Cl (W5.setRow w.heap.size c) (w.heap.size+1) 2 (Iq 0)/\Cl (W5.setRow w.heap.size c) (w.heap.size+1) 3 (Iq op)/\Cl (W5.setRow w.heap.size c) (w.heap.size+1) 4 (.bool x.var)/\Cl (W5.setRow w.heap.size c) (w.heap.size+1) 5 (Iq x.v)/\Cl (W5.setRow w.heap.size c) (w.heap.size+1) 6 (.bool y.var)/\Cl (W5.setRow w.heap.size c) (w.heap.size+1) 7 (Iq y.v)/\Cl (W5.setRow w.heap.size c) (w.heap.size+1) 8 Zq/\Cl (W5.setRow w.heap.size c) (w.heap.size+1) 9 Zq/\Cl (W5.setRow w.heap.size c) b (off+1) (.string ⟨n.toArray⟩)):=λc=>H0 _ ((setRow_other W5 w.heap.size (w.heap.size+1) c (by omega)).trans R0) ((Qc (a:=(Aq b (off+1))) (setRow_other W5 w.heap.size b c (by omega))).trans S0)
 have j1:lo<=w.heap.size:=by omega
 clear e1 D0 R0 S0 H0
 cases n0:r.bm n with
 |none=>
  obtain⟨⟨z,rfl⟩,k1⟩:=Q0 n0;have HR:Hid (aV=(5,noS,r)):=(by show _=_;rw[d1.out,n0]);have D1:=Zz k1;clear hg Q0 k1 n0
  go_wp2_with fail
  refine⟨f1,?_⟩
  iterate 2 refine Zw rfl (by rintro _ -;go_simp<;>rfl) (by go_simp<;>rfl) ?_
  refine Zt ?_
  go_wp2_with (refine Xx 4 ?_;refine Yo w.heap.size Yy (Zm 3 z op x.var x.v y.var y.v) I0 rfl rfl (Xk _ _ _ _ _ _ _) rfl rfl ?_)
  refine⟨i1 _,?_⟩;refine Zw rfl (by rintro _ -;go_simp<;>rfl) (by go_simp<;>rfl) ?_;refine Zu ?_
  go_wp2_with fail
  refine bodyPost_ret (v:=.tuple #[.agg (Zm 3 z op x.var x.v y.var y.v),Iq 5]) ?_ rfl ?_
  ·exact Yx (p:=4) (q:=5) (ty:=61) results19 _ _ (Aq w.heap.size 0) _ rfl (run_loadVar_row _ _ _ _ _ _ _ (setRow_heap _ _ _ _ _ _ I0) underlying61 rfl Tryz.infoStmt10)
  rw[HR.out];exact⟨λh=>(by cases h),λ_=>⟨⟨_,_,_,_,_,_,_,rfl⟩,below_setRow D1 j1 _⟩⟩
 |some yr=>
  obtain⟨z,r'⟩:=yr;obtain⟨rfl,m',hm',l1,E0,k0⟩:=hg z r' n0;have HR:Hid (aV=(0,⟨3,z,0,⟨op,x,y⟩,[],[]⟩,r')):=(by show _=_;rw[d1.out,n0]);have HM:Hid (Zs lo base Rb Pb w0 (W5.setRow w.heap.size (Zm 3 z op x.var x.v y.var y.v)) m'):=by
   refine hm'.aside (below_setRow hm'.bel j1 _) (by simp only[World.setRow,Array.size_modify];exact hm'.bL.2.2.2.2.2.1) (λb hb=>setRow_other _ _ _ _ ?_) (by simp only[World.setRow,Array.size_modify];exact Nat.le_refl _);rcases hb with rfl|rfl|⟨j,hj,hb⟩|hb
   ·omega
   ·omega
   ·rcases k0 j hj b hb with h1|h1
    ·have:=h0 j hj b h1;omega
    have:X.heap.size<=b:=h1;omega
   rw[E0]at hb;have:=y1 b hb;omega
  have T0:Hid (zrz Rb w m (W5.setRow w.heap.size (Zm 3 z op x.var x.v y.var y.v)) m'):=λb hb E1 du=>by
   have J1:=e0.size;refine⟨(setRow_other _ _ _ _ (by omega)).trans ((C1 b (by show b<X.heap.size;omega) E1 (du 4 (by unfold Zr;omega))).trans (e0.block b hb)),λj hj hh=>?_⟩;rcases k0 j hj b hh with h1|h1
   ·exact du j hj h1
   have:X.heap.size<=b:=h1;omega
  have F1:=Zz l1;clear hg Q0 n0 hm' l1 k0
  go_wp2_with fail
  refine⟨f1,?_⟩
  iterate 2 refine Zw rfl (by rintro _ -;go_simp<;>rfl) (by go_simp<;>rfl) ?_
  refine Zt ?_
  go_wp2_with (refine Xx 4 ?_;refine Yo w.heap.size Yy (Zm 3 z op x.var x.v y.var y.v) I0 rfl rfl (Xk _ _ _ _ _ _ _) rfl rfl ?_)
  refine⟨i1 _,?_⟩;refine Zw rfl (by rintro _ -;go_simp<;>rfl) (by go_simp<;>rfl) ?_;refine Zu ?_
  go_wp2_with fail
  refine bodyPost_ret (v:=.tuple #[.agg (Zm 3 z op x.var x.v y.var y.v),Iq 0]) ?_ rfl ?_
  ·exact Yx (p:=4) (q:=5) (ty:=61) results19 _ _ (Aq w.heap.size 0) _ rfl (run_loadVar_row _ _ _ _ _ _ _ (setRow_heap _ _ _ _ _ _ I0) underlying61 rfl Tryz.infoStmt10)
  rw[HR.out];exact⟨λ_=>⟨rfl,m',HM,F1,T0⟩,λh=>absurd rfl h⟩
end
def zx8(r:Fl.RS)(n a:List UInt8):Nat×Fl.aa×Fl.RS:=match r.value [a] with
 |none=>(4,noS,r)
 |some e=>if Fl.ai r.aj n<0 then(4,noS,r) else(0,⟨4,(Fl.ai r.aj n).toNat,0,e,[],[]⟩,r)
section
variable{m:Yl}{fl:List FlS}
def st_out(h:Zs lo base Rb Pb w0 w m)(hr:Zg r fl t m)(b off cap:Nat)(n a:List UInt8)(ha:a.length<=100000)(hb:b<w.heap.size)(p0:3<=cap/\cap<=maxLen)(c0:w.cell? (Aq b off)=some (.string ⟨#[111,117,116]⟩))(c1:w.cell? (Aq b (off+1))=some (.string ⟨n.toArray⟩))(c2:w.cell? (Aq b (off+2))=some (.string ⟨a.toArray⟩)):
  Cq 19 #[Pq Rb,.slice (some (Aq b off)) 3 cap] w (zv5 lo base Rb Pb w0 w m fl t (zx8 r n a)):=by
 have bL:=h.bL
 have q0:Rb<w.heap.size:=by omega
 have HH:=Zz h;have HO:=Zz hr;have k0:Hid (∀W,Bq w W->Cq 28 #[Pq Rb,.string ⟨a.toArray⟩] W (zsz (r.atom a) W)):=λW hW=>zwy (h.below hW) hr a ha;have l0:Hid (∀W,Bq w W->Cq 17 #[m.v 3,.string ⟨n.toArray⟩] W λe w'=>e=.returned (Iq (Fl.ai r.aj n))/\w'=W):=λW hW=>Yc ((h.below hW).aj hr) n;obtain⟨c3,k3,g0⟩:=h.shape 3 (by unfold Zr;omega);rw[hr.r3.1]at g0;rw[g0]at l0;have r0:Hid (∀W,Bq w W->Cl W Rb 3 (.slice c3 r.aj.length k3)/\Cl W b (off+1) (.string ⟨n.toArray⟩)):=λW hW=>⟨(hW.cell (p:=(Aq Rb 3)) q0).trans (by rw[<-g0];exact h.cR.c 3 (by omega)),(hW.cell (p:=(Aq b (off+1))) hb).trans c1⟩;have s0:Hid (∀W,Bq w W->Cl W b (off+2) (.string ⟨a.toArray⟩)):=λW hW=>(hW.cell (p:=(Aq b (off+2))) hb).trans c2;have z0:=Fl.aR r.aj n;have A0:=hr.ch;have d0:Hid (zx8 r n a=match r.atom a with|none=>(4,noS,r)|some x=>if Fl.ai r.aj n<0 then(4,noS,r) else(0,⟨4,(Fl.ai r.aj n).toNat,0,⟨-1,x,Fl.ju⟩,[],[]⟩,r)):=by
  show _=_;have hv:r.value [a]=(r.atom a).map λx=>⟨-1,x,Fl.ju⟩:=rfl;unfold zx8;rw[hv];generalize r.atom a=o
  cases o<;>rfl
 obtain⟨aV,e0⟩:=nmE (zx8 r n a);rw[<-e0]at d0⊢;obtain⟨oa,m0⟩:=nmE (r.atom a);rw[<-m0]at k0 d0;generalize Fl.ai r.aj n=pc at*
 have n0:(3:Int)<=(cap:Int):=by omega
 have t0: -1<=pc/\pc<=3:=by omega
 have HB:Hid (∀o o',Bq w ((w.alloc o).alloc o').drew):=λo o'=>((bA).alloc (by simp) _).drew;clear h hr e0 m0 g0 c1 c2
 go_enter func19,ntmps19
 go_wp2_with fail
 refine zyv (λW=>Bq w W) [] [(0,0),(0,1),(0,2),(0,3),(0,4),(0,5),(0,6),(1,7),(0,8)] [] (by kernel_rfl) (by kernel_rfl) rfl [(_,_),(_,_),(_,_),(_,_),(_,_),(_,_),(_,_),(_,_),(_,_)] rfl (λc a d v w h=>by cases d<;>exact h) (HB _ _) (λops hG=>?_);clear hG;simp only[List.getElem_toArray,List.getElem_cons_succ,List.getElem_cons_zero]
 iterate 7 refine Xf rfl (kE (by intro w' hw';obtain⟨x0,x1⟩:=r0 w' hw';clear hw';go_simp<;>rfl) (by go_simp<;>rfl) ?_)
 refine Zt ?_
 go_wp2_with fail
 refine(l0 _ (HB _ _)).mono ?_;rintro e w1 ⟨rfl,o0⟩;rw[o0];clear o0 w1
 go_wp2_with fail
 refine⟨HB _ _,?_⟩;refine Xf rfl (kE (by rintro _ -;go_simp<;>rfl) (by go_simp<;>rfl) ?_);refine Zu ?_;have k2:=s0 _ (HB (.cells Yy 61) (.cells (Zm 4 0 (-1) false 0 false 0) 61));unfold Yy Zm at k2
 go_wp2_with fail
 refine(k0 _ (HB _ _)).mono ?_;rintro e W1 ⟨f0,aQ,a0⟩;have rE:W1.heap[w.heap.size]?=some (.cells Yy 61 (0,0)):=by
  rw[f0.block _ (by simp;omega)];show ((w.alloc _).alloc _).heap[w.heap.size]?=_;rw[Below.heap_alloc _ _ _ (by simp)];exact Jm _ _ _ rfl
 have rS:W1.heap[w.heap.size+1]?=some (.cells (Zm 4 0 (-1) false 0 false 0) 61 (0,0)):=by
  rw[f0.block _ (by simp)];show ((w.alloc _).alloc _).heap[w.heap.size+1]?=_;exact Jm _ _ _ (by simp)
 have u0:Hid (Bq w W1):=(HB _ _).trans (f0.mono (by simp;omega))
 have B0:w.heap.size+2<=W1.heap.size:=by have:=f0.size;simp at this;omega
 have v0:w.heap.size+1<W1.heap.size:=by omega
 have y0:w.heap.size<W1.heap.size:=by omega
 have s1:Cl W1 (w.heap.size+1) 1 (Iq 0):=cell_of_row _ _ 1 _ _ (0,0) rS;have s4:Cl W1 (w.heap.size+1) 4 (.bool false):=cell_of_row _ _ 4 _ _ (0,0) rS;have s5:Cl W1 (w.heap.size+1) 5 (Iq 0):=cell_of_row _ _ 5 _ _ (0,0) rS;have RS:=Zz rS
 have sz:∀j,W1.frozen? (Aq (w.heap.size+1) j)=false:=λj=>by simp[World.frozen?,rS]
 have RE:=Zz rE;clear rE rS f0 k2
 have b0:Hid (∀z u v a,((((W1.setCell (Aq (w.heap.size+1) 1) z).setCell (Aq (w.heap.size+1) 4) u).setCell (Aq (w.heap.size+1) 5) v).alloc a).heap[w.heap.size]?=some (.cells Yy 61 (0,0))):=λz u v a=>by
  rw[Below.heap_alloc _ _ _ (by rw[Zy,Zy,Zy];exact y0),Zx _ _ _ _ _ (by omega),Zx _ _ _ _ _ (by omega),Zx _ _ _ _ _ (by omega)];exact RE
 have i0:Hid (∀(z:Int) (u:Bool) (v:Int) a,((((W1.setCell (Aq (w.heap.size+1) 1) (Iq z)).setCell (Aq (w.heap.size+1) 4) (.bool u)).setCell (Aq (w.heap.size+1) 5) (Iq v)).alloc a).heap[w.heap.size+1]?=some (.cells (Zm 4 z (-1) u v false 0) 61 (0,0))):=λz u v a=>by
  rw[Below.heap_alloc _ _ _ (by rw[Zy,Zy,Zy];exact v0)];exact zz9 (zz9 (zz9 RS 1 _ _ rfl) 4 _ _ rfl) 5 _ _ rfl
 have h0:Hid (∀z u v a c,Bq w (((((W1.setCell (Aq (w.heap.size+1) 1) z).setCell (Aq (w.heap.size+1) 4) u).setCell (Aq (w.heap.size+1) 5) v).alloc a).setRow w.heap.size c)):=λz u v a c=>by
  refine below_setRow (((((u0.setCell (by show w.heap.size<=w.heap.size+1;omega) _).setCell (by show w.heap.size<=w.heap.size+1;omega) _)).setCell (by show w.heap.size<=w.heap.size+1;omega) _).alloc (by rw[Zy,Zy,Zy];omega) _) (Nat.le_refl _) _
 cases oa with
 |none=>
  obtain⟨v,rfl⟩:=a0 rfl;have HR:=Zz d0.out;clear aQ a0
  go_wp2_with (first|(refine zx7 6 ?_;refine Xl (w.heap.size+1) (Zm 4 pc (-1) true v false 0) (i0 _ _ _ _) rfl rfl ?_)|(refine Xx 4 ?_;refine Yo w.heap.size Yy (Zm 4 pc (-1) true v false 0) (b0 _ _ _ _) rfl rfl (Xk _ _ _ _ _ _ _) rfl rfl ?_))
  refine bodyPost_ret (v:=.tuple #[.agg (Zm 4 pc (-1) true v false 0),Iq 4]) ?_ rfl ?_
  ·exact Yx (p:=4) (q:=5) (ty:=61) results19 _ _ (Aq w.heap.size 0) _ rfl (run_loadVar_row _ _ _ _ _ _ _ (setRow_heap _ _ _ _ _ _ (b0 _ _ _ _)) underlying61 rfl Tryz.infoStmt10)
  rw[HR.out];exact⟨λh=>(by cases h),λ_=>⟨⟨_,_,_,_,_,_,_,rfl⟩,(HH.below (h0 _ _ _ _ _)).bel⟩⟩
 |some x=>
  obtain rfl:=aQ x rfl
  by_cases hp:pc<0
  ·have HR:Hid (aV=(4,noS,r)):=by show _=_;rw[d0.out];exact if_pos hp
   have j0:¬0<=pc:=(by omega);have hd:decide (0<=pc)=false:=decide_eq_false j0;clear aQ a0
   go_wp2_with (first|(refine zx7 6 ?_;refine Xl (w.heap.size+1) (Zm 4 pc (-1) x.var x.v false 0) (i0 _ _ _ _) rfl rfl ?_)|(refine Xx 4 ?_;refine Yo w.heap.size Yy (Zm 4 pc (-1) x.var x.v false 0) (b0 _ _ _ _) rfl rfl (Xk _ _ _ _ _ _ _) rfl rfl ?_))
   refine bodyPost_ret (v:=.tuple #[.agg (Zm 4 pc (-1) x.var x.v false 0),Iq 4]) ?_ rfl ?_
   ·exact Yx (p:=4) (q:=5) (ty:=61) results19 _ _ (Aq w.heap.size 0) _ rfl (run_loadVar_row _ _ _ _ _ _ _ (setRow_heap _ _ _ _ _ _ (b0 _ _ _ _)) underlying61 rfl Tryz.infoStmt10)
   rw[HR.out];exact⟨λh=>(by cases h),λ_=>⟨⟨_,_,_,_,_,_,_,rfl⟩,(HH.below (h0 _ _ _ _ _)).bel⟩⟩
  have HR:Hid (aV=(0,⟨4,pc.toNat,0,⟨-1,x,Fl.ju⟩,[],[]⟩,r)):=(by show _=_;rw[d0.out];exact if_neg hp);have j0:0<=pc:=(by omega);have hd:decide (0<=pc)=true:=decide_eq_true j0;have E1:Hid (((pc.toNat:Nat):Int)=pc):=(by show _=_;omega);clear aQ a0 hp
  go_wp2_with (first|(refine zx7 6 ?_;refine Xl (w.heap.size+1) (Zm 4 pc (-1) x.var x.v false 0) (i0 _ _ _ _) rfl rfl ?_)|(refine Xx 4 ?_;refine Yo w.heap.size Yy (Zm 4 pc (-1) x.var x.v false 0) (b0 _ _ _ _) rfl rfl (Xk _ _ _ _ _ _ _) rfl rfl ?_))
  refine bodyPost_ret (v:=.tuple #[.agg (Zm 4 pc (-1) x.var x.v false 0),Iq 0]) ?_ rfl ?_
  ·exact Yx (p:=4) (q:=5) (ty:=61) results19 _ _ (Aq w.heap.size 0) _ rfl (run_loadVar_row _ _ _ _ _ _ _ (setRow_heap _ _ _ _ _ _ (b0 _ _ _ _)) underlying61 rfl Tryz.infoStmt10)
  rw[HR.out];exact⟨λ_=>⟨by simp only[E1.out];rfl,m,HH.below (h0 _ _ _ _ _),HO,zrz.below (h0 _ _ _ _ _)⟩,λh=>absurd rfl h⟩
end
end Go.Proofs.YtfhpibppblbgcaaGreatDoor
