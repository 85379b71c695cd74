import Derived.Test.YtaaejabalinojaaGreatDoorM30
set_option linter.all false
set_option maxRecDepth 100000
set_option maxHeartbeats 40000000
namespace Go.Proofs.YtaaejabalinojaaGreatDoor
open Go.RowKit Go.Proofs.Tryz
def Vf(r:Fl.RS)(n:List UInt8)(v:List (List UInt8)):Nat×Fl.Stmt×Fl.RS:=match r.value v with
 |none=>(4,noS,r)
 |some e=>if 0<=Fl.place r.chans n then(4,noS,r) else match r.target n with
  |none=>(5,noS,r)
  |some (x,r')=>(0,⟨3,x,0,e,[],[]⟩,r')
section
variable{lo base Rb Pb:Nat}{w0 w w':World}{m:Yn}{r:Fl.RS}{fl:List FlS}{t:Nat}
def st_set3(h:Zu lo base Rb Pb w0 w m)(hr:Zh r fl t m)(b off cap:Nat)(n a:List UInt8)(ha:a.length<=100000)(S0:n.length<=100000)(hb:b<w.heap.size)(B0:b≠Rb/\∀j,Zt j->(m.v j).ownBlock≠some b)(T0:3<=cap/\cap<=maxLen)(c0:w.cell? ⟨b,off,none⟩=some (.string ⟨#[115,101,116]⟩))(c1:w.cell? ⟨b,off+1,none⟩=some (.string ⟨n.toArray⟩))(c2:w.cell? ⟨b,off+2,none⟩=some (.string ⟨a.toArray⟩)):
  Calls prog 30 #[.pointer (some ⟨Rb,0,none⟩),.slice (some ⟨b,off,none⟩) 3 cap] w (zw8 lo base Rb Pb w0 w m fl t (Vf r n [a])):=by
 have hba:=h.hba
 have U0:Rb<w.heap.size:=by omega
 have HH:=Zz h;have HO:=Zz hr;have C0:Hid (∀W,Below w.heap.size w W->Calls prog 55 #[.pointer (some ⟨Rb,0,none⟩),.string ⟨a.toArray⟩] W (zt9 (r.atom a) W)):=λW hW=>zw0 (h.below hW) hr a ha;have D0:Hid (∀W,Below w.heap.size w W->Calls prog 28 #[m.v 3,.string ⟨n.toArray⟩] W λe w'=>e=.returned (.int .i64 (Fl.place r.chans n))/\w'=W):=λW hW=>Yd ((h.below hW).chans hr) n;obtain⟨c3,k3,n0⟩:=h.shape 3 (by unfold Zt;omega);rw[hr.r3.1]at n0;rw[n0]at D0;have r0:Hid (∀W,Below w.heap.size w W->W.cell? ⟨Rb,3,none⟩=some (.slice c3 r.chans.length k3)/\W.cell? ⟨b,off+1,none⟩=some (.string ⟨n.toArray⟩)):=λW hW=>⟨(hW.cell (p:=⟨Rb,3,none⟩) U0).trans (by rw[<-n0];exact h.cR.c 3 (by omega)),(hW.cell (p:=⟨b,off+1,none⟩) hb).trans c1⟩;have f1:=Fl.place_cases r.chans n;have g1:=hr.ch
 have f0:Hid (Vf r n [a]=match r.atom a with|none=>(4,noS,r)|some x=>if 0<=Fl.place r.chans n then(4,noS,r) else match r.target n with
  |none=>(5,noS,r)
  |some (y,r')=>(0,⟨3,y,0,⟨-1,x,Fl.no0⟩,[],[]⟩,r')):=by
  show _=_;have hv:r.value [a]=(r.atom a).map λx=>⟨-1,x,Fl.no0⟩:=rfl;unfold Vf;rw[hv];generalize r.atom a=o
  cases o<;>rfl
 obtain⟨res,g0⟩:=nmE (Vf r n [a]);rw[<-g0]at f0⊢;obtain⟨oa,E0⟩:=nmE (r.atom a);rw[<-E0]at C0 f0;generalize Fl.place r.chans n=pc at*
 have F0:(3:Int)<=(cap:Int):=by omega
 have V0: -1<=pc/\pc<=3:=by omega
 have HB:Hid (∀o o',Below w.heap.size w ((w.alloc o).alloc o')):=λo o'=>(bA).alloc (by simp) _;have W0:Hid (∀W,Below w.heap.size w W->∀(av:Bool) (an:Int),Calls prog 56 #[.pointer (some ⟨Rb,0,none⟩),.agg #[.int .i64 3,.int .i64 0,.int .i64 0,.int .i64 (-1),.bool av,.int .i64 an,.bool false,.int .i64 0,.slice none 0 0,.slice none 0 0],.string ⟨n.toArray⟩] W (zg3 lo base Rb Pb w0 W (λj=>(m.v j).ownBlock) m.keep fl t (r.target n) (-1) av an false 0)):=λW hW av an=>zm7 (h.below hW) hr n S0 (-1) av an false 0;have X0:Hid (∀b,m.keep b->b<w.heap.size):=λb hb=>(h.kp b hb).2.1;have a0:Hid (∀j,Zt j->∀b,(m.v j).ownBlock=some b->b<w.heap.size):=λj hj b hb=>((h.own j hj).lt b hb).2;clear h hr g0 E0 n0 c1
 go_enter func30,ntmps30
 go_wp2_with fail
 refine(C0.out _ (HB.out _ _)).mono ?_;rintro e W1 ⟨h0,hgood,i0⟩;have rE:W1.heap[w.heap.size]?=some (.cells Zb 86 (0,0)):=by
  rw[h0.block _ (by simp;omega),Below.heap_alloc _ _ _ (by simp)];exact Jt _ _ _ rfl
 have rS:W1.heap[w.heap.size+1]?=some (.cells (Zq 3 0 (-1) false 0 false 0) 86 (0,0)):=by
  rw[h0.block _ (by simp)];exact Jt _ _ _ (by simp)
 have Y0:Hid (Below w.heap.size w W1):=(HB.out _ _).trans (h0.mono (by simp;omega))
 have Z0:w.heap.size+2<=W1.heap.size:=by have:=h0.size;simp at this;omega
 have G0:w.heap.size+1<W1.heap.size:=by omega
 have H0:w.heap.size<W1.heap.size:=by omega
 have s4:W1.cell? ⟨w.heap.size+1,4,none⟩=some (.bool false):=cell_of_row _ _ 4 _ _ (0,0) rS;have s5:W1.cell? ⟨w.heap.size+1,5,none⟩=some (.int .i64 0):=cell_of_row _ _ 5 _ _ (0,0) rS
 have sz:∀j,W1.frozen? ⟨w.heap.size+1,j,none⟩=false:=λj=>by simp[World.frozen?,rS]
 have HX:Hid (∀(u:Bool) (v:Int) a,Below w.heap.size w (((W1.setCell ⟨w.heap.size+1,4,none⟩ (.bool u)).setCell ⟨w.heap.size+1,5,none⟩ (.int .i64 v)).alloc a).drew/\
   (((W1.setCell ⟨w.heap.size+1,4,none⟩ (.bool u)).setCell ⟨w.heap.size+1,5,none⟩ (.int .i64 v)).alloc a).drew.heap[w.heap.size]?=some (.cells Zb 86 (0,0))/\
   (((W1.setCell ⟨w.heap.size+1,4,none⟩ (.bool u)).setCell ⟨w.heap.size+1,5,none⟩ (.int .i64 v)).alloc a).drew.heap[w.heap.size+1]?=some (.cells (Zq 3 0 (-1) u v false 0) 86 (0,0))/\
   w.heap.size+1<(((W1.setCell ⟨w.heap.size+1,4,none⟩ (.bool u)).setCell ⟨w.heap.size+1,5,none⟩ (.int .i64 v)).alloc a).drew.heap.size):=λu v a=>by
  refine⟨(((Y0.out.setCell (by show w.heap.size<=w.heap.size+1;omega) _).setCell (by show w.heap.size<=w.heap.size+1;omega) _).alloc (by rw[Zy,Zy];omega) _).drew,?_,?_,?_⟩
  ·show (((W1.setCell _ _).setCell _ _).alloc a).heap[w.heap.size]?=_
   rw[Below.heap_alloc _ _ _ (by rw[Zy,Zy];exact H0),Zx _ _ _ _ _ (by omega),Zx _ _ _ _ _ (by omega)];exact rE
  ·show (((W1.setCell _ _).setCell _ _).alloc a).heap[w.heap.size+1]?=_
   rw[Below.heap_alloc _ _ _ (by rw[Zy,Zy];exact G0)];exact zz6 (zz6 rS 4 _ _ rfl) 5 _ _ rfl
  show w.heap.size+1<(((W1.setCell _ _).setCell _ _).alloc a).heap.size;simp[Zy];omega
 obtain⟨u,v,ok,rfl,I0⟩:∃(u:Bool) (v:Int) (ok:Bool),e=.returned (.tuple #[.agg #[.bool u,.int .i64 v],.bool ok])/\((oa=none/\ok=false)\/∃x,oa=some x/\ok=true/\u=x.var/\v=(x.v:Int)):=by
  cases oa with
  |none=>obtain⟨v,hv⟩:=i0 rfl;exact⟨_,_,_,hv,.inl ⟨rfl,rfl⟩⟩
  |some x=>exact⟨_,_,_,hgood x rfl,.inr ⟨x,rfl,rfl,rfl,rfl⟩⟩
 have j0:=Zz I0;clear rE rS h0 hgood i0 I0 c2
 go_wp2_with fail
 refine Zi (λW=>Below w.heap.size w W) [7] [] [] (HX.out _ _ _).1 (by kernel_rfl) (λc a d v w h=>by cases d<;>exact h) (λops hG=>?_);clear hG
 iterate 7 refine Xn rfl (kE (by intro w' hw';obtain⟨x0,x1⟩:=r0.out w' hw';clear hw';go_simp<;>rfl) (by go_simp<;>rfl) ?_)
 refine Zk ?_
 go_wp2_with fail
 refine(D0.out _ (HX.out _ _ _).1).mono ?_;rintro e w1 ⟨rfl,J0⟩;rw[J0];clear J0 w1
 go_wp2_with fail
 refine⟨(HX.out _ _ _).1,?_⟩;refine Zw rfl (by rintro _ -;go_simp<;>rfl) (by go_simp<;>rfl) ?_;refine Zs ?_;obtain⟨X,s0⟩:=nmE ((((W1.setCell ⟨w.heap.size+1,4,none⟩ (.bool u)).setCell ⟨w.heap.size+1,5,none⟩ (.int .i64 v)).alloc (.cells #[.bool u,.int .i64 v] 82)).drew);have K0:=HX.out u v (.cells #[.bool u,.int .i64 v] 82);rw[<-s0]at K0;obtain⟨x1,x2,x3,x4⟩:=K0;have b0:=Zz x1;have k0:=Zz x2;have o0:=Zz x3;rw[<-s0];clear s0 x1 x2 x3 s4 s5 sz Z0 G0 H0
 cases ok with
 |false=>
  have HR:Hid (res=(4,noS,r)):=by
   show _=_;rcases j0.out with⟨h1,-⟩|⟨x,-,h2,-⟩
   ·rw[f0.out,h1]
   cases h2
  go_wp2_with (first|(refine zyx 6 ?_;refine Xr (w.heap.size+1) (Zq 3 0 (-1) u v false 0) o0.out rfl rfl ?_)|(refine Xz 4 ?_;refine Yq w.heap.size Zb (Zq 3 0 (-1) u v false 0) k0.out rfl rfl (Xq _ _ _ _ _ _ _) rfl rfl ?_))
  refine bodyPost_ret (v:=.tuple #[.agg (Zq 3 0 (-1) u v false 0),.int .i64 4]) ?_ rfl ?_
  ·exact Za (p:=4) (q:=5) (ty:=86) results30 _ _ ⟨w.heap.size,0,none⟩ _ rfl (run_loadVar_row _ _ _ _ _ _ _ (setRow_heap _ _ _ _ _ _ k0.out) underlying86 rfl Tryz.infoStmt10)
  rw[HR.out];exact⟨λh=>(by cases h),λ_=>⟨⟨_,_,_,_,_,_,_,rfl⟩,(HH.out.below (below_setRow b0.out (Nat.le_refl _) _)).bel⟩⟩
 |true=>
  obtain⟨x,hx,rfl,rfl⟩:∃x,oa=some x/\u=x.var/\v=(x.v:Int):=by
   rcases j0.out with⟨-,h2⟩|⟨x,h1,-,h3,h4⟩
   ·cases h2
   exact⟨x,h1,h3,h4⟩
  subst hx
  by_cases hp:0<=pc
  ·have HR:Hid (res=(4,noS,r)):=by show _=_;rw[f0.out];exact if_pos hp
   have t0:¬pc<0:=(by omega);have hd:decide (pc<0)=false:=decide_eq_false t0
   go_wp2_with (first|(refine zyx 6 ?_;refine Xr (w.heap.size+1) (Zq 3 0 (-1) x.var x.v false 0) o0.out rfl rfl ?_)|(refine Xz 4 ?_;refine Yq w.heap.size Zb (Zq 3 0 (-1) x.var x.v false 0) k0.out rfl rfl (Xq _ _ _ _ _ _ _) rfl rfl ?_))
   refine bodyPost_ret (v:=.tuple #[.agg (Zq 3 0 (-1) x.var x.v false 0),.int .i64 4]) ?_ rfl ?_
   ·exact Za (p:=4) (q:=5) (ty:=86) results30 _ _ ⟨w.heap.size,0,none⟩ _ rfl (run_loadVar_row _ _ _ _ _ _ _ (setRow_heap _ _ _ _ _ _ k0.out) underlying86 rfl Tryz.infoStmt10)
   rw[HR.out];exact⟨λh=>(by cases h),λ_=>⟨⟨_,_,_,_,_,_,_,rfl⟩,(HH.out.below (below_setRow b0.out (Nat.le_refl _) _)).bel⟩⟩
  have t0:pc<0:=(by omega);have hd:decide (pc<0)=true:=decide_eq_true t0;have L0:Hid (res=match r.target n with|none=>(5,noS,r)|some (y,r')=>(0,⟨3,y,0,⟨-1,x,Fl.no0⟩,[],[]⟩,r')):=(by show _=_;rw[f0.out];exact if_neg hp);have p0:Hid (∀W:World,W.heap[w.heap.size+1]?=some (.cells (Zq 3 0 (-1) x.var x.v false 0) 86 (0,0))->W.cell? ⟨b,off+1,none⟩=some (.string ⟨n.toArray⟩)->W.cell? ⟨w.heap.size+1,0,none⟩=some (.int .i64 3)/\W.cell? ⟨w.heap.size+1,1,none⟩=some (.int .i64 0)/\W.cell? ⟨w.heap.size+1,2,none⟩=some (.int .i64 0)/\W.cell? ⟨w.heap.size+1,3,none⟩=some (.int .i64 (-1))/\W.cell? ⟨w.heap.size+1,4,none⟩=some (.bool x.var)/\W.cell? ⟨w.heap.size+1,5,none⟩=some (.int .i64 x.v)/\W.cell? ⟨w.heap.size+1,6,none⟩=some (.bool false)/\W.cell? ⟨w.heap.size+1,7,none⟩=some (.int .i64 0)/\W.cell? ⟨w.heap.size+1,8,none⟩=some (.slice none 0 0)/\W.cell? ⟨w.heap.size+1,9,none⟩=some (.slice none 0 0)/\W.cell? ⟨b,off+1,none⟩=some (.string ⟨n.toArray⟩)):=λW h1 h2=>⟨cell_of_row _ _ 0 _ _ (0,0) h1,cell_of_row _ _ 1 _ _ (0,0) h1,cell_of_row _ _ 2 _ _ (0,0) h1,cell_of_row _ _ 3 _ _ (0,0) h1,cell_of_row _ _ 4 _ _ (0,0) h1,cell_of_row _ _ 5 _ _ (0,0) h1,cell_of_row _ _ 6 _ _ (0,0) h1,cell_of_row _ _ 7 _ _ (0,0) h1,cell_of_row _ _ 8 _ _ (0,0) h1,cell_of_row _ _ 9 _ _ (0,0) h1,h2⟩;clear hp
  go_wp2_with fail
  refine Zi (λW=>W.cell? ⟨w.heap.size+1,0,none⟩=some (.int .i64 3)/\W.cell? ⟨w.heap.size+1,1,none⟩=some (.int .i64 0)/\W.cell? ⟨w.heap.size+1,2,none⟩=some (.int .i64 0)/\W.cell? ⟨w.heap.size+1,3,none⟩=some (.int .i64 (-1))/\W.cell? ⟨w.heap.size+1,4,none⟩=some (.bool x.var)/\W.cell? ⟨w.heap.size+1,5,none⟩=some (.int .i64 x.v)/\W.cell? ⟨w.heap.size+1,6,none⟩=some (.bool false)/\W.cell? ⟨w.heap.size+1,7,none⟩=some (.int .i64 0)/\W.cell? ⟨w.heap.size+1,8,none⟩=some (.slice none 0 0)/\W.cell? ⟨w.heap.size+1,9,none⟩=some (.slice none 0 0)/\W.cell? ⟨b,off+1,none⟩=some (.string ⟨n.toArray⟩)) [5,8] [] [] (p0.out _ o0.out (r0.out X b0.out).2) (by kernel_rfl) (λc a d v w h=>by cases d<;>exact h) (λops hG=>?_);clear hG
  iterate 5 refine Zw rfl (by rintro _ ⟨z0,z1,z2,z3,z4,z5,z6,z7,z8,z9,z10⟩;go_simp<;>rfl) (by go_simp<;>rfl) ?_
  refine Zk ?_
  go_wp2_with fail
  refine(W0.out X.drew b0.out.drew x.var x.v).mono ?_;rintro e W5 ⟨l0,hg,u0⟩;have a1:=Zz l0;have M0:W5.heap[w.heap.size]?=some (.cells Zb 86 (0,0)):=(l0 w.heap.size (by show w.heap.size<X.heap.size;omega) (by omega) (λhh=>by have:=a0.out 4 (by unfold Zt;omega) _ hh;omega)).trans k0.out;have v0:W5.heap[w.heap.size+1]?=some (.cells (Zq 3 0 (-1) x.var x.v false 0) 86 (0,0)):=(l0 (w.heap.size+1) (by show w.heap.size+1<X.heap.size;omega) (by omega) (λhh=>by have:=a0.out 4 (by unfold Zt;omega) _ hh;omega)).trans o0.out;have y0:W5.cell? ⟨b,off+1,none⟩=some (.string ⟨n.toArray⟩):=(Qc (a:=⟨b,off+1,none⟩) (l0 b (by show b<X.heap.size;omega) B0.1 (B0.2 4 (by unfold Zt;omega)))).trans (r0.out X b0.out).2;have q0:=Zz M0;have N0:Hid (W5.cell? ⟨w.heap.size+1,0,none⟩=some (.int .i64 3)/\W5.cell? ⟨w.heap.size+1,1,none⟩=some (.int .i64 0)/\W5.cell? ⟨w.heap.size+1,2,none⟩=some (.int .i64 0)/\W5.cell? ⟨w.heap.size+1,3,none⟩=some (.int .i64 (-1))/\W5.cell? ⟨w.heap.size+1,4,none⟩=some (.bool x.var)/\W5.cell? ⟨w.heap.size+1,5,none⟩=some (.int .i64 x.v)/\W5.cell? ⟨w.heap.size+1,6,none⟩=some (.bool false)/\W5.cell? ⟨w.heap.size+1,7,none⟩=some (.int .i64 0)/\W5.cell? ⟨w.heap.size+1,8,none⟩=some (.slice none 0 0)/\W5.cell? ⟨w.heap.size+1,9,none⟩=some (.slice none 0 0)/\W5.cell? ⟨b,off+1,none⟩=some (.string ⟨n.toArray⟩)):=p0.out W5 v0 y0;have O0:Hid (∀c:Array Value,(W5.setRow w.heap.size c).cell? ⟨w.heap.size+1,0,none⟩=some (.int .i64 3)/\(W5.setRow w.heap.size c).cell? ⟨w.heap.size+1,1,none⟩=some (.int .i64 0)/\(W5.setRow w.heap.size c).cell? ⟨w.heap.size+1,2,none⟩=some (.int .i64 0)/\(W5.setRow w.heap.size c).cell? ⟨w.heap.size+1,3,none⟩=some (.int .i64 (-1))/\(W5.setRow w.heap.size c).cell? ⟨w.heap.size+1,4,none⟩=some (.bool x.var)/\(W5.setRow w.heap.size c).cell? ⟨w.heap.size+1,5,none⟩=some (.int .i64 x.v)/\(W5.setRow w.heap.size c).cell? ⟨w.heap.size+1,6,none⟩=some (.bool false)/\(W5.setRow w.heap.size c).cell? ⟨w.heap.size+1,7,none⟩=some (.int .i64 0)/\(W5.setRow w.heap.size c).cell? ⟨w.heap.size+1,8,none⟩=some (.slice none 0 0)/\(W5.setRow w.heap.size c).cell? ⟨w.heap.size+1,9,none⟩=some (.slice none 0 0)/\(W5.setRow w.heap.size c).cell? ⟨b,off+1,none⟩=some (.string ⟨n.toArray⟩)):=λc=>p0.out _ ((setRow_other W5 w.heap.size (w.heap.size+1) c (by omega)).trans v0) ((Qc (a:=⟨b,off+1,none⟩) (setRow_other W5 w.heap.size b c (by omega))).trans y0);have P0:lo<=w.heap.size:=(by omega);clear M0 l0 v0 y0 p0
  cases e0:r.target n with
  |none=>
   obtain⟨⟨y,rfl⟩,Q0⟩:=u0 e0;have HR:Hid (res=(5,noS,r)):=(by show _=_;rw[L0.out,e0]);have b1:=Zz Q0;clear hg u0 Q0 e0
   go_wp2_with fail
   refine⟨N0.out,?_⟩
   iterate 2 refine Zw rfl (by rintro _ -;go_simp<;>rfl) (by go_simp<;>rfl) ?_
   refine Zk ?_
   go_wp2_with (refine Xz 4 ?_;refine Yq w.heap.size Zb (Zq 3 y (-1) x.var x.v false 0) q0.out rfl rfl (Xq _ _ _ _ _ _ _) rfl rfl ?_)
   refine⟨O0.out _,?_⟩;refine Zw rfl (by rintro _ -;go_simp<;>rfl) (by go_simp<;>rfl) ?_;refine Zs ?_
   go_wp2_with fail
   refine bodyPost_ret (v:=.tuple #[.agg (Zq 3 y (-1) x.var x.v false 0),.int .i64 5]) ?_ rfl ?_
   ·exact Za (p:=4) (q:=5) (ty:=86) results30 _ _ ⟨w.heap.size,0,none⟩ _ rfl (run_loadVar_row _ _ _ _ _ _ _ (setRow_heap _ _ _ _ _ _ q0.out) underlying86 rfl Tryz.infoStmt10)
   rw[HR.out];exact⟨λh=>(by cases h),λ_=>⟨⟨_,_,_,_,_,_,_,rfl⟩,below_setRow b1.out P0 _⟩⟩
  |some yr=>
   obtain⟨y,r'⟩:=yr;obtain⟨rfl,m',hm',R0,m0,d0⟩:=hg y r' e0;have HR:Hid (res=(0,⟨3,y,0,⟨-1,x,Fl.no0⟩,[],[]⟩,r')):=(by show _=_;rw[L0.out,e0]);have HM:Hid (Zu lo base Rb Pb w0 (W5.setRow w.heap.size (Zq 3 y (-1) x.var x.v false 0)) m'):=by
    refine hm'.aside (below_setRow hm'.bel P0 _) (by simp only[World.setRow,Array.size_modify];exact hm'.hba.2.2.2.2.2.1) (λb hb=>setRow_other _ _ _ _ ?_) (by simp only[World.setRow,Array.size_modify];exact Nat.le_refl _);rcases hb with rfl|rfl|⟨j,hj,hb⟩|hb
    ·omega
    ·omega
    ·rcases d0 j hj b hb with h1|h1
     ·have:=a0.out j hj b h1;omega
     have:X.heap.size<=b:=h1;omega
    rw[m0]at hb;have:=X0.out b hb;omega
   have A0:Hid (zs5 Rb w m (W5.setRow w.heap.size (Zq 3 y (-1) x.var x.v false 0)) m'):=λb hb d1 hno=>by
    have i1:=b0.out.size;refine⟨(setRow_other _ _ _ _ (by omega)).trans ((a1.out b (by show b<X.heap.size;omega) d1 (hno 4 (by unfold Zt;omega))).trans (b0.out.block b hb)),λj hj hh=>?_⟩;rcases d0 j hj b hh with h1|h1
    ·exact hno j hj h1
    have:X.heap.size<=b:=h1;omega
   have e1:=Zz R0;clear hg u0 e0 hm' R0 d0
   go_wp2_with fail
   refine⟨N0.out,?_⟩
   iterate 2 refine Zw rfl (by rintro _ -;go_simp<;>rfl) (by go_simp<;>rfl) ?_
   refine Zk ?_
   go_wp2_with (refine Xz 4 ?_;refine Yq w.heap.size Zb (Zq 3 y (-1) x.var x.v false 0) q0.out rfl rfl (Xq _ _ _ _ _ _ _) rfl rfl ?_)
   refine⟨O0.out _,?_⟩;refine Zw rfl (by rintro _ -;go_simp<;>rfl) (by go_simp<;>rfl) ?_;refine Zs ?_
   go_wp2_with fail
   refine bodyPost_ret (v:=.tuple #[.agg (Zq 3 y (-1) x.var x.v false 0),.int .i64 0]) ?_ rfl ?_
   ·exact Za (p:=4) (q:=5) (ty:=86) results30 _ _ ⟨w.heap.size,0,none⟩ _ rfl (run_loadVar_row _ _ _ _ _ _ _ (setRow_heap _ _ _ _ _ _ q0.out) underlying86 rfl Tryz.infoStmt10)
   rw[HR.out];exact⟨λ_=>⟨rfl,m',HM.out,e1.out,A0.out⟩,λh=>absurd rfl h⟩
end
end Go.Proofs.YtaaejabalinojaaGreatDoor
