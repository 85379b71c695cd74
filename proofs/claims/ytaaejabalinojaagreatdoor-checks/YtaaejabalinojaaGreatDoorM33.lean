import Derived.Test.YtaaejabalinojaaGreatDoorM30
set_option linter.all false
set_option maxRecDepth 100000
set_option maxHeartbeats 40000000
namespace Go.Proofs.YtaaejabalinojaaGreatDoor
open Go.RowKit Go.Proofs.Tryz
def zyw(r:Fl.RS)(n a:List UInt8):Nat×Fl.Stmt×Fl.RS:=match r.value [a] with
 |none=>(4,noS,r)
 |some e=>if Fl.place r.chans n<0 then(4,noS,r) else(0,⟨4,(Fl.place r.chans n).toNat,0,e,[],[]⟩,r)
section
variable{lo base Rb Pb:Nat}{w0 w w':World}{m:Yn}{r:Fl.RS}{fl:List FlS}{t:Nat}
def st_out(h:Zu lo base Rb Pb w0 w m)(hr:Zh r fl t m)(b off cap:Nat)(n a:List UInt8)(ha:a.length<=100000)(hb:b<w.heap.size)(p0:3<=cap/\cap<=maxLen)(c0:w.cell? ⟨b,off,none⟩=some (.string ⟨#[111,117,116]⟩))(c1:w.cell? ⟨b,off+1,none⟩=some (.string ⟨n.toArray⟩))(c2:w.cell? ⟨b,off+2,none⟩=some (.string ⟨a.toArray⟩)):
  Calls prog 30 #[.pointer (some ⟨Rb,0,none⟩),.slice (some ⟨b,off,none⟩) 3 cap] w (zw8 lo base Rb Pb w0 w m fl t (zyw r n a)):=by
 have hba:=h.hba
 have q0:Rb<w.heap.size:=by omega
 have HH:=Zz h;have HO:=Zz hr;have k0:Hid (∀W,Below w.heap.size w W->Calls prog 55 #[.pointer (some ⟨Rb,0,none⟩),.string ⟨a.toArray⟩] W (zt9 (r.atom a) W)):=λW hW=>zw0 (h.below hW) hr a ha;have l0:Hid (∀W,Below w.heap.size w W->Calls prog 28 #[m.v 3,.string ⟨n.toArray⟩] W λe w'=>e=.returned (.int .i64 (Fl.place r.chans n))/\w'=W):=λW hW=>Yd ((h.below hW).chans hr) n;obtain⟨c3,k3,g0⟩:=h.shape 3 (by unfold Zt;omega);rw[hr.r3.1]at g0;rw[g0]at l0;have r0:Hid (∀W,Below w.heap.size w W->W.cell? ⟨Rb,3,none⟩=some (.slice c3 r.chans.length k3)/\W.cell? ⟨b,off+1,none⟩=some (.string ⟨n.toArray⟩)):=λW hW=>⟨(hW.cell (p:=⟨Rb,3,none⟩) q0).trans (by rw[<-g0];exact h.cR.c 3 (by omega)),(hW.cell (p:=⟨b,off+1,none⟩) hb).trans c1⟩;have s0:Hid (∀W,Below w.heap.size w W->W.cell? ⟨b,off+2,none⟩=some (.string ⟨a.toArray⟩)):=λW hW=>(hW.cell (p:=⟨b,off+2,none⟩) hb).trans c2;have z0:=Fl.place_cases r.chans n;have A0:=hr.ch;have d0:Hid (zyw r n a=match r.atom a with|none=>(4,noS,r)|some x=>if Fl.place r.chans n<0 then(4,noS,r) else(0,⟨4,(Fl.place r.chans n).toNat,0,⟨-1,x,Fl.no0⟩,[],[]⟩,r)):=by
  show _=_;have hv:r.value [a]=(r.atom a).map λx=>⟨-1,x,Fl.no0⟩:=rfl;unfold zyw;rw[hv];generalize r.atom a=o
  cases o<;>rfl
 obtain⟨res,e0⟩:=nmE (zyw r n a);rw[<-e0]at d0⊢;obtain⟨oa,m0⟩:=nmE (r.atom a);rw[<-m0]at k0 d0;generalize Fl.place r.chans n=pc at*
 have n0:(3:Int)<=(cap:Int):=by omega
 have t0: -1<=pc/\pc<=3:=by omega
 have HB:Hid (∀o o',Below w.heap.size w ((w.alloc o).alloc o').drew):=λo o'=>((bA).alloc (by simp) _).drew;clear h hr e0 m0 g0 c1 c2
 go_enter func30,ntmps30
 go_wp2_with fail
 refine zy7 (λW=>Below w.heap.size w W) [] [(0,0),(0,1),(0,2),(0,3),(0,4),(0,5),(0,6),(1,7),(0,8)] [] (by kernel_rfl) (by kernel_rfl) rfl [(_,_),(_,_),(_,_),(_,_),(_,_),(_,_),(_,_),(_,_),(_,_)] rfl (λc a d v w h=>by cases d<;>exact h) (HB.out _ _) (λops hG=>?_);clear hG;simp only[List.getElem_toArray,List.getElem_cons_succ,List.getElem_cons_zero]
 iterate 7 refine Xn rfl (kE (by intro w' hw';obtain⟨x0,x1⟩:=r0.out w' hw';clear hw';go_simp<;>rfl) (by go_simp<;>rfl) ?_)
 refine Zk ?_
 go_wp2_with fail
 refine(l0.out _ (HB.out _ _)).mono ?_;rintro e w1 ⟨rfl,o0⟩;rw[o0];clear o0 w1
 go_wp2_with fail
 refine⟨HB.out _ _,?_⟩;refine Xn rfl (kE (by rintro _ -;go_simp<;>rfl) (by go_simp<;>rfl) ?_);refine Zs ?_;have k2:=s0.out _ (HB.out (.cells Zb 86) (.cells (Zq 4 0 (-1) false 0 false 0) 86));unfold Zb Zq at k2
 go_wp2_with fail
 refine(k0.out _ (HB.out _ _)).mono ?_;rintro e W1 ⟨f0,hgood,a0⟩;have rE:W1.heap[w.heap.size]?=some (.cells Zb 86 (0,0)):=by
  rw[f0.block _ (by simp;omega)];show ((w.alloc _).alloc _).heap[w.heap.size]?=_;rw[Below.heap_alloc _ _ _ (by simp)];exact Jt _ _ _ rfl
 have rS:W1.heap[w.heap.size+1]?=some (.cells (Zq 4 0 (-1) false 0 false 0) 86 (0,0)):=by
  rw[f0.block _ (by simp)];show ((w.alloc _).alloc _).heap[w.heap.size+1]?=_;exact Jt _ _ _ (by simp)
 have u0:Hid (Below w.heap.size w W1):=(HB.out _ _).trans (f0.mono (by simp;omega))
 have B0:w.heap.size+2<=W1.heap.size:=by have:=f0.size;simp at this;omega
 have v0:w.heap.size+1<W1.heap.size:=by omega
 have y0:w.heap.size<W1.heap.size:=by omega
 have s1:W1.cell? ⟨w.heap.size+1,1,none⟩=some (.int .i64 0):=cell_of_row _ _ 1 _ _ (0,0) rS;have s4:W1.cell? ⟨w.heap.size+1,4,none⟩=some (.bool false):=cell_of_row _ _ 4 _ _ (0,0) rS;have s5:W1.cell? ⟨w.heap.size+1,5,none⟩=some (.int .i64 0):=cell_of_row _ _ 5 _ _ (0,0) rS;have RS:=Zz rS
 have sz:∀j,W1.frozen? ⟨w.heap.size+1,j,none⟩=false:=λj=>by simp[World.frozen?,rS]
 have RE:=Zz rE;clear rE rS f0 k2
 have b0:Hid (∀z u v a,((((W1.setCell ⟨w.heap.size+1,1,none⟩ z).setCell ⟨w.heap.size+1,4,none⟩ u).setCell ⟨w.heap.size+1,5,none⟩ v).alloc a).heap[w.heap.size]?=some (.cells Zb 86 (0,0))):=λz u v a=>by
  rw[Below.heap_alloc _ _ _ (by rw[Zy,Zy,Zy];exact y0),Zx _ _ _ _ _ (by omega),Zx _ _ _ _ _ (by omega),Zx _ _ _ _ _ (by omega)];exact RE.out
 have i0:Hid (∀(z:Int) (u:Bool) (v:Int) a,((((W1.setCell ⟨w.heap.size+1,1,none⟩ (.int .i64 z)).setCell ⟨w.heap.size+1,4,none⟩ (.bool u)).setCell ⟨w.heap.size+1,5,none⟩ (.int .i64 v)).alloc a).heap[w.heap.size+1]?=some (.cells (Zq 4 z (-1) u v false 0) 86 (0,0))):=λz u v a=>by
  rw[Below.heap_alloc _ _ _ (by rw[Zy,Zy,Zy];exact v0)];exact zz6 (zz6 (zz6 RS.out 1 _ _ rfl) 4 _ _ rfl) 5 _ _ rfl
 have h0:Hid (∀z u v a c,Below w.heap.size w (((((W1.setCell ⟨w.heap.size+1,1,none⟩ z).setCell ⟨w.heap.size+1,4,none⟩ u).setCell ⟨w.heap.size+1,5,none⟩ v).alloc a).setRow w.heap.size c)):=λz u v a c=>by
  refine below_setRow (((((u0.out.setCell (by show w.heap.size<=w.heap.size+1;omega) _).setCell (by show w.heap.size<=w.heap.size+1;omega) _)).setCell (by show w.heap.size<=w.heap.size+1;omega) _).alloc (by rw[Zy,Zy,Zy];omega) _) (Nat.le_refl _) _
 cases oa with
 |none=>
  obtain⟨v,rfl⟩:=a0 rfl;have HR:=Zz d0.out;clear hgood a0
  go_wp2_with (first|(refine zyx 6 ?_;refine Xr (w.heap.size+1) (Zq 4 pc (-1) true v false 0) (i0.out _ _ _ _) rfl rfl ?_)|(refine Xz 4 ?_;refine Yq w.heap.size Zb (Zq 4 pc (-1) true v false 0) (b0.out _ _ _ _) rfl rfl (Xq _ _ _ _ _ _ _) rfl rfl ?_))
  refine bodyPost_ret (v:=.tuple #[.agg (Zq 4 pc (-1) true v false 0),.int .i64 4]) ?_ rfl ?_
  ·exact Za (p:=4) (q:=5) (ty:=86) results30 _ _ ⟨w.heap.size,0,none⟩ _ rfl (run_loadVar_row _ _ _ _ _ _ _ (setRow_heap _ _ _ _ _ _ (b0.out _ _ _ _)) underlying86 rfl Tryz.infoStmt10)
  rw[HR.out];exact⟨λh=>(by cases h),λ_=>⟨⟨_,_,_,_,_,_,_,rfl⟩,(HH.out.below (h0.out _ _ _ _ _)).bel⟩⟩
 |some x=>
  obtain rfl:=hgood x rfl
  by_cases hp:pc<0
  ·have HR:Hid (res=(4,noS,r)):=by show _=_;rw[d0.out];exact if_pos hp
   have j0:¬0<=pc:=(by omega);have hd:decide (0<=pc)=false:=decide_eq_false j0;clear hgood a0
   go_wp2_with (first|(refine zyx 6 ?_;refine Xr (w.heap.size+1) (Zq 4 pc (-1) x.var x.v false 0) (i0.out _ _ _ _) rfl rfl ?_)|(refine Xz 4 ?_;refine Yq w.heap.size Zb (Zq 4 pc (-1) x.var x.v false 0) (b0.out _ _ _ _) rfl rfl (Xq _ _ _ _ _ _ _) rfl rfl ?_))
   refine bodyPost_ret (v:=.tuple #[.agg (Zq 4 pc (-1) x.var x.v false 0),.int .i64 4]) ?_ rfl ?_
   ·exact Za (p:=4) (q:=5) (ty:=86) results30 _ _ ⟨w.heap.size,0,none⟩ _ rfl (run_loadVar_row _ _ _ _ _ _ _ (setRow_heap _ _ _ _ _ _ (b0.out _ _ _ _)) underlying86 rfl Tryz.infoStmt10)
   rw[HR.out];exact⟨λh=>(by cases h),λ_=>⟨⟨_,_,_,_,_,_,_,rfl⟩,(HH.out.below (h0.out _ _ _ _ _)).bel⟩⟩
  have HR:Hid (res=(0,⟨4,pc.toNat,0,⟨-1,x,Fl.no0⟩,[],[]⟩,r)):=(by show _=_;rw[d0.out];exact if_neg hp);have j0:0<=pc:=(by omega);have hd:decide (0<=pc)=true:=decide_eq_true j0;have E1:Hid (((pc.toNat:Nat):Int)=pc):=(by show _=_;omega);clear hgood a0 hp
  go_wp2_with (first|(refine zyx 6 ?_;refine Xr (w.heap.size+1) (Zq 4 pc (-1) x.var x.v false 0) (i0.out _ _ _ _) rfl rfl ?_)|(refine Xz 4 ?_;refine Yq w.heap.size Zb (Zq 4 pc (-1) x.var x.v false 0) (b0.out _ _ _ _) rfl rfl (Xq _ _ _ _ _ _ _) rfl rfl ?_))
  refine bodyPost_ret (v:=.tuple #[.agg (Zq 4 pc (-1) x.var x.v false 0),.int .i64 0]) ?_ rfl ?_
  ·exact Za (p:=4) (q:=5) (ty:=86) results30 _ _ ⟨w.heap.size,0,none⟩ _ rfl (run_loadVar_row _ _ _ _ _ _ _ (setRow_heap _ _ _ _ _ _ (b0.out _ _ _ _)) underlying86 rfl Tryz.infoStmt10)
  rw[HR.out];exact⟨λ_=>⟨by simp only[E1.out];rfl,m,HH.out.below (h0.out _ _ _ _ _),HO.out,zs5.below (h0.out _ _ _ _ _)⟩,λh=>absurd rfl h⟩
end
end Go.Proofs.YtaaejabalinojaaGreatDoor
