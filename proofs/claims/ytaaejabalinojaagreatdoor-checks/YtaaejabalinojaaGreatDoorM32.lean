import Derived.Test.YtaaejabalinojaaGreatDoorM31
set_option linter.all false
set_option maxRecDepth 100000
set_option maxHeartbeats 40000000
namespace Go.Proofs.YtaaejabalinojaaGreatDoor
open Go.RowKit Go.Proofs.Tryz
def yw5(W:World)(o:List UInt8):Calls prog 28 #[.slice (some ⟨W.heap.size,0,none⟩) 5 5,.string ⟨o.toArray⟩] (W.alloc (.cells #[.string ⟨#[43]⟩,.string ⟨#[45]⟩,.string ⟨#[42]⟩,.string ⟨#[60]⟩,.string ⟨#[61,61]⟩] 9)) λe w'=>e=.returned (.int .i64 (Fl.place Fl.signs o))/\w'=W.alloc (.cells #[.string ⟨#[43]⟩,.string ⟨#[45]⟩,.string ⟨#[42]⟩,.string ⟨#[60]⟩,.string ⟨#[61,61]⟩] 9):=by
 have:=zpv _ _ (⟨o.toArray⟩:ByteArray) _ (yz0 W);rw[zav,Yt]at this;exact this
section
variable{lo base Rb Pb:Nat}{w0 w w':World}{m:Yn}{r:Fl.RS}{fl:List FlS}{t:Nat}
def st_set5(h:Zu lo base Rb Pb w0 w m)(hr:Zh r fl t m)(b off cap:Nat)(n a o b2:List UInt8)(ha:a.length<=100000)(m1:b2.length<=100000)(n1:n.length<=100000)(hb:b<w.heap.size)(U0:b≠Rb/\∀j,Zt j->(m.v j).ownBlock≠some b)(p1:5<=cap/\cap<=maxLen)(c0:w.cell? ⟨b,off,none⟩=some (.string ⟨#[115,101,116]⟩))(c1:w.cell? ⟨b,off+1,none⟩=some (.string ⟨n.toArray⟩))(c2:w.cell? ⟨b,off+2,none⟩=some (.string ⟨a.toArray⟩))(c3':w.cell? ⟨b,off+3,none⟩=some (.string ⟨o.toArray⟩))(c4':w.cell? ⟨b,off+4,none⟩=some (.string ⟨b2.toArray⟩)):
  Calls prog 30 #[.pointer (some ⟨Rb,0,none⟩),.slice (some ⟨b,off,none⟩) 5 cap] w (zw8 lo base Rb Pb w0 w m fl t (Vf r n [a,o,b2])):=by
 have hba:=h.hba
 have q1:Rb<w.heap.size:=by omega
 have HH:=Zz h;have HO:=Zz hr;have V0:Hid (∀W,Below w.heap.size w W->Calls prog 55 #[.pointer (some ⟨Rb,0,none⟩),.string ⟨a.toArray⟩] W (zt9 (r.atom a) W)):=λW hW=>zw0 (h.below hW) hr a ha;have o0:Hid (∀W,Below w.heap.size w W->Calls prog 55 #[.pointer (some ⟨Rb,0,none⟩),.string ⟨b2.toArray⟩] W (zt9 (r.atom b2) W)):=λW hW=>zw0 (h.below hW) hr b2 m1;have p0:Hid (∀W,Below w.heap.size w W->W.cell? ⟨b,off+3,none⟩=some (.string ⟨o.toArray⟩)/\W.cell? ⟨b,off+4,none⟩=some (.string ⟨b2.toArray⟩)):=λW hW=>⟨(hW.cell (p:=⟨b,off+3,none⟩) hb).trans c3',(hW.cell (p:=⟨b,off+4,none⟩) hb).trans c4'⟩;have W0:Hid (∀W,Below w.heap.size w W->Calls prog 28 #[m.v 3,.string ⟨n.toArray⟩] W λe w'=>e=.returned (.int .i64 (Fl.place r.chans n))/\w'=W):=λW hW=>Yd ((h.below hW).chans hr) n;obtain⟨c3,k3,F0⟩:=h.shape 3 (by unfold Zt;omega);rw[hr.r3.1]at F0;rw[F0]at W0;have J0:Hid (∀W,Below w.heap.size w W->W.cell? ⟨Rb,3,none⟩=some (.slice c3 r.chans.length k3)/\W.cell? ⟨b,off+1,none⟩=some (.string ⟨n.toArray⟩)):=λW hW=>⟨(hW.cell (p:=⟨Rb,3,none⟩) q1).trans (by rw[<-F0];exact h.cR.c 3 (by omega)),(hW.cell (p:=⟨b,off+1,none⟩) hb).trans c1⟩;have G1:=Fl.place_cases r.chans n;have H1:=hr.ch
 have a0:Hid (Vf r n [a,o,b2]=match r.atom a,r.atom b2 with|some x,some y=>(if 0<=Fl.place r.chans n then(4,noS,r) else match r.target n with
  |none=>(5,noS,r)
  |some (z,r')=>(0,⟨3,z,0,⟨Fl.place Fl.signs o,x,y⟩,[],[]⟩,r'))|_,_=>(4,noS,r)):=by
  show _=_;have hv:r.value [a,o,b2]=(r.atom a).bind λx=>(r.atom b2).map λy=>⟨Fl.place Fl.signs o,x,y⟩:=rfl;unfold Vf;rw[hv];generalize r.atom a=o1;generalize r.atom b2=o2
  cases o1<;>cases o2<;>rfl
 obtain⟨res,q0⟩:=nmE (Vf r n [a,o,b2]);rw[<-q0]at a0⊢;obtain⟨oa,X0⟩:=nmE (r.atom a);obtain⟨ob,Z0⟩:=nmE (r.atom b2);rw[<-X0]at V0 a0;rw[<-Z0]at o0 a0;have r1:=Fl.place_cases Fl.signs o;have s1:Fl.signs.length=5:=rfl;have t1:Hid (∀W:World,Calls prog 28 #[.slice (some ⟨W.heap.size,0,none⟩) 5 5,.string ⟨o.toArray⟩] (W.alloc (.cells #[.string ⟨#[43]⟩,.string ⟨#[45]⟩,.string ⟨#[42]⟩,.string ⟨#[60]⟩,.string ⟨#[61,61]⟩] 9)) λe w'=>e=.returned (.int .i64 (Fl.place Fl.signs o))/\w'=W.alloc (.cells #[.string ⟨#[43]⟩,.string ⟨#[45]⟩,.string ⟨#[42]⟩,.string ⟨#[60]⟩,.string ⟨#[61,61]⟩] 9)):=λW=>yw5 W o;generalize Fl.place Fl.signs o=op at*
 have I1: -1<=op/\op<=4:=by omega
 generalize Fl.place r.chans n=pc at*
 have a1:(5:Int)<=(cap:Int):=by omega
 have u1: -1<=pc/\pc<=3:=by omega
 have HB:Hid (∀o o',Below w.heap.size w ((w.alloc o).alloc o')):=λo o'=>(bA).alloc (by simp) _;have v1:Hid (∀W,Below w.heap.size w W->∀(av:Bool) (an:Int) (av2:Bool) (an2:Int),Calls prog 56 #[.pointer (some ⟨Rb,0,none⟩),.agg #[.int .i64 3,.int .i64 0,.int .i64 0,.int .i64 op,.bool av,.int .i64 an,.bool av2,.int .i64 an2,.slice none 0 0,.slice none 0 0],.string ⟨n.toArray⟩] W (zg3 lo base Rb Pb w0 W (λj=>(m.v j).ownBlock) m.keep fl t (r.target n) op av an av2 an2)):=λW hW av an av2 an2=>zm7 (h.below hW) hr n n1 op av an av2 an2;have y1:Hid (∀b,m.keep b->b<w.heap.size):=λb hb=>(h.kp b hb).2.1;have h0:Hid (∀j,Zt j->∀b,(m.v j).ownBlock=some b->b<w.heap.size):=λj hj b hb=>((h.own j hj).lt b hb).2;clear h hr q0 X0 Z0 F0 c1 c3' c4' r1 s1
 go_enter func30,ntmps30
 go_wp2_with fail
 refine(V0.out _ (HB.out _ _)).mono ?_;rintro e W1 ⟨r0,hgood,b0⟩;have rE:W1.heap[w.heap.size]?=some (.cells Zb 86 (0,0)):=by
  rw[r0.block _ (by simp;omega),Below.heap_alloc _ _ _ (by simp)];exact Jt _ _ _ rfl
 have rS:W1.heap[w.heap.size+1]?=some (.cells (Zq 3 0 (-1) false 0 false 0) 86 (0,0)):=by
  rw[r0.block _ (by simp)];exact Jt _ _ _ (by simp)
 have G0:Hid (Below w.heap.size w W1):=(HB.out _ _).trans (r0.mono (by simp;omega))
 have A1:w.heap.size+2<=W1.heap.size:=by have:=r0.size;simp at this;omega
 have s0:w.heap.size+1<W1.heap.size:=by omega
 have t0:w.heap.size<W1.heap.size:=by omega
 have s4:W1.cell? ⟨w.heap.size+1,4,none⟩=some (.bool false):=cell_of_row _ _ 4 _ _ (0,0) rS;have s5:W1.cell? ⟨w.heap.size+1,5,none⟩=some (.int .i64 0):=cell_of_row _ _ 5 _ _ (0,0) rS
 have sz:∀j,W1.frozen? ⟨w.heap.size+1,j,none⟩=false:=λj=>by simp[World.frozen?,rS]
 obtain⟨u,v,ok1,rfl,u0⟩:∃(u:Bool) (v:Int) (ok:Bool),e=.returned (.tuple #[.agg #[.bool u,.int .i64 v],.bool ok])/\((oa=none/\ok=false)\/∃x,oa=some x/\ok=true/\u=x.var/\v=(x.v:Int)):=by
  cases oa with
  |none=>obtain⟨v,hv⟩:=b0 rfl;exact⟨_,_,_,hv,.inl ⟨rfl,rfl⟩⟩
  |some x=>exact⟨_,_,_,hgood x rfl,.inr ⟨x,rfl,rfl,rfl,rfl⟩⟩
 have v0:=Zz u0;have s3:W1.cell? ⟨w.heap.size+1,3,none⟩=some (.int .i64 (-1)):=cell_of_row _ _ 3 _ _ (0,0) rS;have RE1:=Zz rE;have RS1:=Zz rS;clear rE rS r0 hgood b0 u0 c2
 go_wp2_with fail
 refine(ze7 _).mono ?_;rintro e w1 ⟨rfl,g0⟩;rw[g0];clear g0 w1;obtain⟨Y0,l0⟩:=nmE (((W1.setCell ⟨w.heap.size+1,4,none⟩ (.bool u)).setCell ⟨w.heap.size+1,5,none⟩ (.int .i64 v)).alloc (.cells #[.bool u,.int .i64 v] 82))
 have B1:w.heap.size+2<=Y0.heap.size:=by rw[l0];simp[Zy];omega
 have K0:Below w.heap.size w Y0:=by
  rw[l0];exact((G0.out.setCell (by show w.heap.size<=w.heap.size+1;omega) _).setCell (by show w.heap.size<=w.heap.size+1;omega) _).alloc (by rw[Zy,Zy];omega) _
 have rEY:Y0.heap[w.heap.size]?=some (.cells Zb 86 (0,0)):=by
  rw[l0,Below.heap_alloc _ _ _ (by rw[Zy,Zy];exact t0),Zx _ _ _ _ _ (by omega),Zx _ _ _ _ _ (by omega)];exact RE1.out
 have rSY:Y0.heap[w.heap.size+1]?=some (.cells (Zq 3 0 (-1) u v false 0) 86 (0,0)):=by
  rw[l0,Below.heap_alloc _ _ _ (by rw[Zy,Zy];exact s0)];exact zz6 (zz6 RS1.out 4 _ _ rfl) 5 _ _ rfl
 rw[<-l0];clear l0 s3 s4 s5 sz A1 s0 t0 RE1 RS1 G0
 have L0:w.heap.size+1<Y0.heap.size:=by omega
 have y3:Y0.cell? ⟨w.heap.size+1,3,none⟩=some (.int .i64 (-1)):=cell_of_row _ _ 3 _ _ (0,0) rSY
 have yz:∀j,Y0.frozen? ⟨w.heap.size+1,j,none⟩=false:=λj=>by simp[World.frozen?,rSY]
 have M0:Hid (∀o',Below w.heap.size w (Y0.alloc o')):=λo'=>K0.alloc (by omega) _;have w3:∀o',(Y0.alloc o').cell? ⟨b,off+3,none⟩=some (.string ⟨o.toArray⟩):=λo'=>(p0.out _ (M0.out o')).1
 go_wp2_with fail
 refine(t1.out Y0).mono ?_;rintro e w1 ⟨rfl,g0⟩;rw[g0];clear g0 w1;have i0:Hid (∀v o',Below w.heap.size w ((Y0.setCell ⟨w.heap.size+1,3,none⟩ v).alloc o')):=λv o'=>(K0.setCell (by show w.heap.size<=w.heap.size+1;omega) _).alloc (by rw[Zy];omega) _;have w4:∀v o',((Y0.setCell ⟨w.heap.size+1,3,none⟩ v).alloc o').cell? ⟨b,off+4,none⟩=some (.string ⟨b2.toArray⟩):=λv o'=>(p0.out _ (i0.out v o')).2
 go_wp2_with fail
 refine(o0.out _ (i0.out _ _)).mono ?_;rintro e W2 ⟨hb2',hgood,b0⟩
 have N0:w.heap.size+2<=W2.heap.size:=by have:=hb2'.size;simp[Zy]at this;omega
 have rE2:W2.heap[w.heap.size]?=some (.cells Zb 86 (0,0)):=by
  rw[hb2'.block _ (by simp[Zy];omega),Below.heap_alloc _ _ _ (by rw[Zy];omega),Zx _ _ _ _ _ (by omega)];exact rEY
 have rS2:W2.heap[w.heap.size+1]?=some (.cells (Zq 3 0 op u v false 0) 86 (0,0)):=by
  rw[hb2'.block _ (by simp[Zy];omega),Below.heap_alloc _ _ _ (by rw[Zy];omega)];exact zz6 rSY 3 _ _ rfl
 have G0:Hid (Below w.heap.size w W2):=(i0.out _ _).trans (hb2'.mono (by simp[Zy];omega))
 have s0:w.heap.size+1<W2.heap.size:=by omega
 have t0:w.heap.size<W2.heap.size:=by omega
 have s6:W2.cell? ⟨w.heap.size+1,6,none⟩=some (.bool false):=cell_of_row _ _ 6 _ _ (0,0) rS2;have s7:W2.cell? ⟨w.heap.size+1,7,none⟩=some (.int .i64 0):=cell_of_row _ _ 7 _ _ (0,0) rS2
 have sz:∀j,W2.frozen? ⟨w.heap.size+1,j,none⟩=false:=λj=>by simp[World.frozen?,rS2]
 obtain⟨u2,v2,ok2,rfl,y0⟩:∃(u:Bool) (v:Int) (ok:Bool),e=.returned (.tuple #[.agg #[.bool u,.int .i64 v],.bool ok])/\((ob=none/\ok=false)\/∃x,ob=some x/\ok=true/\u=x.var/\v=(x.v:Int)):=by
  cases ob with
  |none=>obtain⟨v,hv⟩:=b0 rfl;exact⟨_,_,_,hv,.inl ⟨rfl,rfl⟩⟩
  |some x=>exact⟨_,_,_,hgood x rfl,.inr ⟨x,rfl,rfl,rfl,rfl⟩⟩
 have A0:=Zz y0
 have HX:Hid (∀(u2:Bool) (v2:Int) a,Below w.heap.size w (((W2.setCell ⟨w.heap.size+1,6,none⟩ (.bool u2)).setCell ⟨w.heap.size+1,7,none⟩ (.int .i64 v2)).alloc a).drew/\
   (((W2.setCell ⟨w.heap.size+1,6,none⟩ (.bool u2)).setCell ⟨w.heap.size+1,7,none⟩ (.int .i64 v2)).alloc a).drew.heap[w.heap.size]?=some (.cells Zb 86 (0,0))/\
   (((W2.setCell ⟨w.heap.size+1,6,none⟩ (.bool u2)).setCell ⟨w.heap.size+1,7,none⟩ (.int .i64 v2)).alloc a).drew.heap[w.heap.size+1]?=some (.cells (Zq 3 0 op u v u2 v2) 86 (0,0))/\
   w.heap.size+1<(((W2.setCell ⟨w.heap.size+1,6,none⟩ (.bool u2)).setCell ⟨w.heap.size+1,7,none⟩ (.int .i64 v2)).alloc a).drew.heap.size):=λu2 v2 a=>by
  refine⟨(((G0.out.setCell (by show w.heap.size<=w.heap.size+1;omega) _).setCell (by show w.heap.size<=w.heap.size+1;omega) _).alloc (by rw[Zy,Zy];omega) _).drew,?_,?_,?_⟩
  ·show (((W2.setCell _ _).setCell _ _).alloc a).heap[w.heap.size]?=_
   rw[Below.heap_alloc _ _ _ (by rw[Zy,Zy];exact t0),Zx _ _ _ _ _ (by omega),Zx _ _ _ _ _ (by omega)];exact rE2
  ·show (((W2.setCell _ _).setCell _ _).alloc a).heap[w.heap.size+1]?=_
   rw[Below.heap_alloc _ _ _ (by rw[Zy,Zy];exact s0)];exact zz6 (zz6 rS2 6 _ _ rfl) 7 _ _ rfl
  show w.heap.size+1<(((W2.setCell _ _).setCell _ _).alloc a).heap.size;simp[Zy];omega
 obtain⟨ok,j0⟩:=nmE ((ok1 && ok2));have d0:Hid (((oa=none\/ob=none)/\ok=false)\/∃x y,oa=some x/\ob=some y/\ok=true/\u=x.var/\v=(x.v:Int)/\u2=y.var/\v2=(y.v:Int)):=by
  show _\/_;rw[j0];rcases v0.out with⟨h1,h2⟩|⟨x,h1,h2,h3,h4⟩
  ·left;rw[h2];exact⟨.inl h1,rfl⟩
  rcases A0.out with⟨g1,g2⟩|⟨y,g1,g2,g3,g4⟩
  ·left;rw[h2,g2];exact⟨.inr g1,rfl⟩
  right;rw[h2,g2];exact⟨x,y,h1,g1,rfl,h3,h4,g3,g4⟩
 clear rE2 rS2 hb2' hgood b0 y0 rEY rSY y3 yz w3 w4 B1 L0 K0 v0 A0;have B0:=Zz j0;clear j0
 cases ok1<;>cases ok2
 all_goals
  have C0:=B0.out;simp only[Bool.and_true,Bool.and_false,Bool.true_and,Bool.false_and,Bool.and_self]at C0;subst C0;clear B0
  go_wp2_with fail
  refine Zi (λW=>Below w.heap.size w W) [7] [] [] (HX.out _ _ _).1 (by kernel_rfl) (λc a d v w h=>by cases d<;>exact h) (λops hG=>?_);clear hG
  iterate 7 refine Xn rfl (kE (by intro w' hw';obtain⟨x0,x1⟩:=J0.out w' hw';clear hw';go_simp<;>rfl) (by go_simp<;>rfl) ?_)
  refine Zk ?_
  go_wp2_with fail
  refine(W0.out _ (HX.out _ _ _).1).mono ?_;rintro e w1 ⟨rfl,g0⟩;rw[g0];clear g0 w1
  go_wp2_with fail
  refine⟨(HX.out _ _ _).1,?_⟩;refine Zw rfl (by rintro _ -;go_simp<;>rfl) (by go_simp<;>rfl) ?_;refine Zs ?_;obtain⟨X,O0⟩:=nmE ((((W2.setCell ⟨w.heap.size+1,6,none⟩ (.bool u2)).setCell ⟨w.heap.size+1,7,none⟩ (.int .i64 v2)).alloc (.cells #[.bool u2,.int .i64 v2] 82)).drew);have b1:=HX.out u2 v2 (.cells #[.bool u2,.int .i64 v2] 82);rw[<-O0]at b1;obtain⟨x1,x2,x3,x4⟩:=b1;have e0:=Zz x1;have f0:=Zz x2;have m0:=Zz x3;rw[<-O0];clear O0 x1 x2 x3 s6 s7 sz N0 s0 t0
 ·skip
  have HR:Hid (res=(4,noS,r)):=by
   show _=_;rcases d0.out with⟨h1|h1,-⟩|⟨x,y,-,-,h2,-⟩
   ·rw[a0.out,h1]
   ·rw[a0.out,h1];cases oa<;>rfl
   cases h2
  go_wp2_with (first|(refine zyx 6 ?_;refine Xr (w.heap.size+1) (Zq 3 0 op u v u2 v2) m0.out rfl rfl ?_)|(refine Xz 4 ?_;refine Yq w.heap.size Zb (Zq 3 0 op u v u2 v2) f0.out rfl rfl (Xq _ _ _ _ _ _ _) rfl rfl ?_))
  refine bodyPost_ret (v:=.tuple #[.agg (Zq 3 0 op u v u2 v2),.int .i64 4]) ?_ rfl ?_
  ·exact Za (p:=4) (q:=5) (ty:=86) results30 _ _ ⟨w.heap.size,0,none⟩ _ rfl (run_loadVar_row _ _ _ _ _ _ _ (setRow_heap _ _ _ _ _ _ f0.out) underlying86 rfl Tryz.infoStmt10)
  rw[HR.out];exact⟨λh=>(by cases h),λ_=>⟨⟨_,_,_,_,_,_,_,rfl⟩,(HH.out.below (below_setRow e0.out (Nat.le_refl _) _)).bel⟩⟩
 ·skip
  have HR:Hid (res=(4,noS,r)):=by
   show _=_;rcases d0.out with⟨h1|h1,-⟩|⟨x,y,-,-,h2,-⟩
   ·rw[a0.out,h1]
   ·rw[a0.out,h1];cases oa<;>rfl
   cases h2
  go_wp2_with (first|(refine zyx 6 ?_;refine Xr (w.heap.size+1) (Zq 3 0 op u v u2 v2) m0.out rfl rfl ?_)|(refine Xz 4 ?_;refine Yq w.heap.size Zb (Zq 3 0 op u v u2 v2) f0.out rfl rfl (Xq _ _ _ _ _ _ _) rfl rfl ?_))
  refine bodyPost_ret (v:=.tuple #[.agg (Zq 3 0 op u v u2 v2),.int .i64 4]) ?_ rfl ?_
  ·exact Za (p:=4) (q:=5) (ty:=86) results30 _ _ ⟨w.heap.size,0,none⟩ _ rfl (run_loadVar_row _ _ _ _ _ _ _ (setRow_heap _ _ _ _ _ _ f0.out) underlying86 rfl Tryz.infoStmt10)
  rw[HR.out];exact⟨λh=>(by cases h),λ_=>⟨⟨_,_,_,_,_,_,_,rfl⟩,(HH.out.below (below_setRow e0.out (Nat.le_refl _) _)).bel⟩⟩
 ·skip
  have HR:Hid (res=(4,noS,r)):=by
   show _=_;rcases d0.out with⟨h1|h1,-⟩|⟨x,y,-,-,h2,-⟩
   ·rw[a0.out,h1]
   ·rw[a0.out,h1];cases oa<;>rfl
   cases h2
  go_wp2_with (first|(refine zyx 6 ?_;refine Xr (w.heap.size+1) (Zq 3 0 op u v u2 v2) m0.out rfl rfl ?_)|(refine Xz 4 ?_;refine Yq w.heap.size Zb (Zq 3 0 op u v u2 v2) f0.out rfl rfl (Xq _ _ _ _ _ _ _) rfl rfl ?_))
  refine bodyPost_ret (v:=.tuple #[.agg (Zq 3 0 op u v u2 v2),.int .i64 4]) ?_ rfl ?_
  ·exact Za (p:=4) (q:=5) (ty:=86) results30 _ _ ⟨w.heap.size,0,none⟩ _ rfl (run_loadVar_row _ _ _ _ _ _ _ (setRow_heap _ _ _ _ _ _ f0.out) underlying86 rfl Tryz.infoStmt10)
  rw[HR.out];exact⟨λh=>(by cases h),λ_=>⟨⟨_,_,_,_,_,_,_,rfl⟩,(HH.out.below (below_setRow e0.out (Nat.le_refl _) _)).bel⟩⟩
 skip
 obtain⟨x,y,hx,hy,rfl,rfl,rfl,rfl⟩:∃x y,oa=some x/\ob=some y/\u=x.var/\v=(x.v:Int)/\u2=y.var/\v2=(y.v:Int):=by
  rcases d0.out with⟨-,h2⟩|⟨x,y,h1,h1',-,h3,h4,h5,h6⟩
  ·cases h2
  exact⟨x,y,h1,h1',h3,h4,h5,h6⟩
 subst hx;subst hy
 by_cases hp:0<=pc
 ·have HR:Hid (res=(4,noS,r)):=by show _=_;rw[a0.out];exact if_pos hp
  have P0:¬pc<0:=(by omega);have hd:decide (pc<0)=false:=decide_eq_false P0
  go_wp2_with (first|(refine zyx 6 ?_;refine Xr (w.heap.size+1) (Zq 3 0 op x.var x.v y.var y.v) m0.out rfl rfl ?_)|(refine Xz 4 ?_;refine Yq w.heap.size Zb (Zq 3 0 op x.var x.v y.var y.v) f0.out rfl rfl (Xq _ _ _ _ _ _ _) rfl rfl ?_))
  refine bodyPost_ret (v:=.tuple #[.agg (Zq 3 0 op x.var x.v y.var y.v),.int .i64 4]) ?_ rfl ?_
  ·exact Za (p:=4) (q:=5) (ty:=86) results30 _ _ ⟨w.heap.size,0,none⟩ _ rfl (run_loadVar_row _ _ _ _ _ _ _ (setRow_heap _ _ _ _ _ _ f0.out) underlying86 rfl Tryz.infoStmt10)
  rw[HR.out];exact⟨λh=>(by cases h),λ_=>⟨⟨_,_,_,_,_,_,_,rfl⟩,(HH.out.below (below_setRow e0.out (Nat.le_refl _) _)).bel⟩⟩
 have P0:pc<0:=by omega
 have hd:decide (pc<0)=true:=decide_eq_true P0
 have d1:Hid (res=match r.target n with|none=>(5,noS,r)|some (z,r')=>(0,⟨3,z,0,⟨op,x,y⟩,[],[]⟩,r')):=by show _=_;rw[a0.out];exact if_neg hp
 have H0:Hid (∀W:World,W.heap[w.heap.size+1]?=some (.cells (Zq 3 0 op x.var x.v y.var y.v) 86 (0,0))->W.cell? ⟨b,off+1,none⟩=some (.string ⟨n.toArray⟩)->W.cell? ⟨w.heap.size+1,0,none⟩=some (.int .i64 3)/\W.cell? ⟨w.heap.size+1,1,none⟩=some (.int .i64 0)/\W.cell? ⟨w.heap.size+1,2,none⟩=some (.int .i64 0)/\W.cell? ⟨w.heap.size+1,3,none⟩=some (.int .i64 op)/\W.cell? ⟨w.heap.size+1,4,none⟩=some (.bool x.var)/\W.cell? ⟨w.heap.size+1,5,none⟩=some (.int .i64 x.v)/\W.cell? ⟨w.heap.size+1,6,none⟩=some (.bool y.var)/\W.cell? ⟨w.heap.size+1,7,none⟩=some (.int .i64 y.v)/\W.cell? ⟨w.heap.size+1,8,none⟩=some (.slice none 0 0)/\W.cell? ⟨w.heap.size+1,9,none⟩=some (.slice none 0 0)/\W.cell? ⟨b,off+1,none⟩=some (.string ⟨n.toArray⟩)):=λW h1 h2=>⟨cell_of_row _ _ 0 _ _ (0,0) h1,cell_of_row _ _ 1 _ _ (0,0) h1,cell_of_row _ _ 2 _ _ (0,0) h1,cell_of_row _ _ 3 _ _ (0,0) h1,cell_of_row _ _ 4 _ _ (0,0) h1,cell_of_row _ _ 5 _ _ (0,0) h1,cell_of_row _ _ 6 _ _ (0,0) h1,cell_of_row _ _ 7 _ _ (0,0) h1,cell_of_row _ _ 8 _ _ (0,0) h1,cell_of_row _ _ 9 _ _ (0,0) h1,h2⟩;clear hp
 go_wp2_with fail
 refine Zi (λW=>W.cell? ⟨w.heap.size+1,0,none⟩=some (.int .i64 3)/\W.cell? ⟨w.heap.size+1,1,none⟩=some (.int .i64 0)/\W.cell? ⟨w.heap.size+1,2,none⟩=some (.int .i64 0)/\W.cell? ⟨w.heap.size+1,3,none⟩=some (.int .i64 op)/\W.cell? ⟨w.heap.size+1,4,none⟩=some (.bool x.var)/\W.cell? ⟨w.heap.size+1,5,none⟩=some (.int .i64 x.v)/\W.cell? ⟨w.heap.size+1,6,none⟩=some (.bool y.var)/\W.cell? ⟨w.heap.size+1,7,none⟩=some (.int .i64 y.v)/\W.cell? ⟨w.heap.size+1,8,none⟩=some (.slice none 0 0)/\W.cell? ⟨w.heap.size+1,9,none⟩=some (.slice none 0 0)/\W.cell? ⟨b,off+1,none⟩=some (.string ⟨n.toArray⟩)) [5,8] [] [] (H0.out _ m0.out (J0.out X e0.out).2) (by kernel_rfl) (λc a d v w h=>by cases d<;>exact h) (λops hG=>?_);clear hG
 iterate 5 refine Zw rfl (by rintro _ ⟨z0,z1,z2,z3,z4,z5,z6,z7,z8,z9,z10⟩;go_simp<;>rfl) (by go_simp<;>rfl) ?_
 refine Zk ?_
 go_wp2_with fail
 refine(v1.out X.drew e0.out.drew x.var x.v y.var y.v).mono ?_;rintro e W5 ⟨D0,hg,Q0⟩;have C1:=Zz D0;have e1:W5.heap[w.heap.size]?=some (.cells Zb 86 (0,0)):=(D0 w.heap.size (by show w.heap.size<X.heap.size;omega) (by omega) (λhh=>by have:=h0.out 4 (by unfold Zt;omega) _ hh;omega)).trans f0.out;have R0:W5.heap[w.heap.size+1]?=some (.cells (Zq 3 0 op x.var x.v y.var y.v) 86 (0,0)):=(D0 (w.heap.size+1) (by show w.heap.size+1<X.heap.size;omega) (by omega) (λhh=>by have:=h0.out 4 (by unfold Zt;omega) _ hh;omega)).trans m0.out;have S0:W5.cell? ⟨b,off+1,none⟩=some (.string ⟨n.toArray⟩):=(Qc (a:=⟨b,off+1,none⟩) (D0 b (by show b<X.heap.size;omega) U0.1 (U0.2 4 (by unfold Zt;omega)))).trans (J0.out X e0.out).2;have I0:=Zz e1;have f1:Hid (W5.cell? ⟨w.heap.size+1,0,none⟩=some (.int .i64 3)/\W5.cell? ⟨w.heap.size+1,1,none⟩=some (.int .i64 0)/\W5.cell? ⟨w.heap.size+1,2,none⟩=some (.int .i64 0)/\W5.cell? ⟨w.heap.size+1,3,none⟩=some (.int .i64 op)/\W5.cell? ⟨w.heap.size+1,4,none⟩=some (.bool x.var)/\W5.cell? ⟨w.heap.size+1,5,none⟩=some (.int .i64 x.v)/\W5.cell? ⟨w.heap.size+1,6,none⟩=some (.bool y.var)/\W5.cell? ⟨w.heap.size+1,7,none⟩=some (.int .i64 y.v)/\W5.cell? ⟨w.heap.size+1,8,none⟩=some (.slice none 0 0)/\W5.cell? ⟨w.heap.size+1,9,none⟩=some (.slice none 0 0)/\W5.cell? ⟨b,off+1,none⟩=some (.string ⟨n.toArray⟩)):=H0.out W5 R0 S0;have i1:Hid (∀c:Array Value,(W5.setRow w.heap.size c).cell? ⟨w.heap.size+1,0,none⟩=some (.int .i64 3)/\(W5.setRow w.heap.size c).cell? ⟨w.heap.size+1,1,none⟩=some (.int .i64 0)/\(W5.setRow w.heap.size c).cell? ⟨w.heap.size+1,2,none⟩=some (.int .i64 0)/\(W5.setRow w.heap.size c).cell? ⟨w.heap.size+1,3,none⟩=some (.int .i64 op)/\(W5.setRow w.heap.size c).cell? ⟨w.heap.size+1,4,none⟩=some (.bool x.var)/\(W5.setRow w.heap.size c).cell? ⟨w.heap.size+1,5,none⟩=some (.int .i64 x.v)/\(W5.setRow w.heap.size c).cell? ⟨w.heap.size+1,6,none⟩=some (.bool y.var)/\(W5.setRow w.heap.size c).cell? ⟨w.heap.size+1,7,none⟩=some (.int .i64 y.v)/\(W5.setRow w.heap.size c).cell? ⟨w.heap.size+1,8,none⟩=some (.slice none 0 0)/\(W5.setRow w.heap.size c).cell? ⟨w.heap.size+1,9,none⟩=some (.slice none 0 0)/\(W5.setRow w.heap.size c).cell? ⟨b,off+1,none⟩=some (.string ⟨n.toArray⟩)):=λc=>H0.out _ ((setRow_other W5 w.heap.size (w.heap.size+1) c (by omega)).trans R0) ((Qc (a:=⟨b,off+1,none⟩) (setRow_other W5 w.heap.size b c (by omega))).trans S0)
 have j1:lo<=w.heap.size:=by omega
 clear e1 D0 R0 S0 H0
 cases n0:r.target n with
 |none=>
  obtain⟨⟨z,rfl⟩,k1⟩:=Q0 n0;have HR:Hid (res=(5,noS,r)):=(by show _=_;rw[d1.out,n0]);have D1:=Zz k1;clear hg Q0 k1 n0
  go_wp2_with fail
  refine⟨f1.out,?_⟩
  iterate 2 refine Zw rfl (by rintro _ -;go_simp<;>rfl) (by go_simp<;>rfl) ?_
  refine Zk ?_
  go_wp2_with (refine Xz 4 ?_;refine Yq w.heap.size Zb (Zq 3 z op x.var x.v y.var y.v) I0.out rfl rfl (Xq _ _ _ _ _ _ _) rfl rfl ?_)
  refine⟨i1.out _,?_⟩;refine Zw rfl (by rintro _ -;go_simp<;>rfl) (by go_simp<;>rfl) ?_;refine Zs ?_
  go_wp2_with fail
  refine bodyPost_ret (v:=.tuple #[.agg (Zq 3 z op x.var x.v y.var y.v),.int .i64 5]) ?_ rfl ?_
  ·exact Za (p:=4) (q:=5) (ty:=86) results30 _ _ ⟨w.heap.size,0,none⟩ _ rfl (run_loadVar_row _ _ _ _ _ _ _ (setRow_heap _ _ _ _ _ _ I0.out) underlying86 rfl Tryz.infoStmt10)
  rw[HR.out];exact⟨λh=>(by cases h),λ_=>⟨⟨_,_,_,_,_,_,_,rfl⟩,below_setRow D1.out j1 _⟩⟩
 |some yr=>
  obtain⟨z,r'⟩:=yr;obtain⟨rfl,m',hm',l1,E0,k0⟩:=hg z r' n0;have HR:Hid (res=(0,⟨3,z,0,⟨op,x,y⟩,[],[]⟩,r')):=(by show _=_;rw[d1.out,n0]);have HM:Hid (Zu lo base Rb Pb w0 (W5.setRow w.heap.size (Zq 3 z op x.var x.v y.var y.v)) m'):=by
   refine hm'.aside (below_setRow hm'.bel j1 _) (by simp only[World.setRow,Array.size_modify];exact hm'.hba.2.2.2.2.2.1) (λb hb=>setRow_other _ _ _ _ ?_) (by simp only[World.setRow,Array.size_modify];exact Nat.le_refl _);rcases hb with rfl|rfl|⟨j,hj,hb⟩|hb
   ·omega
   ·omega
   ·rcases k0 j hj b hb with h1|h1
    ·have:=h0.out j hj b h1;omega
    have:X.heap.size<=b:=h1;omega
   rw[E0]at hb;have:=y1.out b hb;omega
  have T0:Hid (zs5 Rb w m (W5.setRow w.heap.size (Zq 3 z op x.var x.v y.var y.v)) m'):=λb hb E1 hno=>by
   have J1:=e0.out.size;refine⟨(setRow_other _ _ _ _ (by omega)).trans ((C1.out b (by show b<X.heap.size;omega) E1 (hno 4 (by unfold Zt;omega))).trans (e0.out.block b hb)),λj hj hh=>?_⟩;rcases k0 j hj b hh with h1|h1
   ·exact hno j hj h1
   have:X.heap.size<=b:=h1;omega
  have F1:=Zz l1;clear hg Q0 n0 hm' l1 k0
  go_wp2_with fail
  refine⟨f1.out,?_⟩
  iterate 2 refine Zw rfl (by rintro _ -;go_simp<;>rfl) (by go_simp<;>rfl) ?_
  refine Zk ?_
  go_wp2_with (refine Xz 4 ?_;refine Yq w.heap.size Zb (Zq 3 z op x.var x.v y.var y.v) I0.out rfl rfl (Xq _ _ _ _ _ _ _) rfl rfl ?_)
  refine⟨i1.out _,?_⟩;refine Zw rfl (by rintro _ -;go_simp<;>rfl) (by go_simp<;>rfl) ?_;refine Zs ?_
  go_wp2_with fail
  refine bodyPost_ret (v:=.tuple #[.agg (Zq 3 z op x.var x.v y.var y.v),.int .i64 0]) ?_ rfl ?_
  ·exact Za (p:=4) (q:=5) (ty:=86) results30 _ _ ⟨w.heap.size,0,none⟩ _ rfl (run_loadVar_row _ _ _ _ _ _ _ (setRow_heap _ _ _ _ _ _ I0.out) underlying86 rfl Tryz.infoStmt10)
  rw[HR.out];exact⟨λ_=>⟨rfl,m',HM.out,F1.out,T0.out⟩,λh=>absurd rfl h⟩
end
end Go.Proofs.YtaaejabalinojaaGreatDoor
