import Derived.Test.YtminjljgedopkaaGreatDoorM12
set_option linter.all false
set_option maxRecDepth 100000
set_option maxHeartbeats 40000000
namespace Go.Proofs.YtminjljgedopkaaGreatDoor
open Go.RowKit Go.Proofs.Tryz
def yo2(res:Nat×Int)(w:World)(e:Ending)(w':World):Prop:=
 Below w.heap.size w w'/\((res.1=0/\e=.returned .nilIface)\/(res.1=10/\e=.returned (.iface 27 (.int .i64 10)))\/(res.1=9/\∃a,e=.returned (.iface 76 (.pointer (some ⟨a,0,none⟩)))/\w'.cell? ⟨a,0,none⟩=some (.int .i64 9)/\w'.cell? ⟨a,1,none⟩=some (.int .i64 res.2)))
def yo3(u:World)(o:Obj)(k:Nat)(hk:u.heap.size=k):(u.alloc o).heap[k]?=some o:=by subst hk;exact heap_alloc_last u o
structure CpIn(w:World)(Pb Lb:Nat)(clv hv bv lv nv:Value)(p:Fl.Prog)(S:Nat->Prop)(ls:List Int)(x:List Fl.Node):Prop where
 hz:Pb<w.heap.size/\Lb<w.heap.size
 p0:w.cell? ⟨Pb,0,none⟩=some (.pointer (some ⟨Lb,0,none⟩))
 p1:w.cell? ⟨Pb,1,none⟩=some clv
 p2:w.cell? ⟨Pb,2,none⟩=some hv
 p3:w.cell? ⟨Pb,3,none⟩=some (.int .i64 p.locals)
 p4:w.cell? ⟨Pb,4,none⟩=some bv
 la:Vn w Lb p.n p.leq
 ci:Zy w.heap.size w clv (p.cells.map λ(y:Nat)=>(y:Int))
 hi:Zy w.heap.size w hv (p.chans.map λ(y:Nat)=>(y:Int))
 bs:Zp 4 S w bv p.body
 hS:∀b,S b->b<w.heap.size
 li:Zy w.heap.size w lv ls
 no:Zm w.heap.size w nv x
 n6:p.n<=6
 cl:p.cells.length<=6/\p.chans.length<=3
 cv:(∀y∈p.cells,y<p.n)/\∀y∈p.chans,y<p.n
 kd:zx0 4 p.body
 l0:ls.length<=4/\∀y∈ls,0<=y
 x0:0<x.length/\x.length<=200
 xo:XOk x
def CpIn.below{w w':World}{Pb Lb:Nat}{clv hv bv lv nv:Value}{p:Fl.Prog}{S:Nat->Prop}{ls:List Int}{x:List Fl.Node}(h:CpIn w Pb Lb clv hv bv lv nv p S ls x)(hb:Below w.heap.size w w'):CpIn w' Pb Lb clv hv bv lv nv p S ls x:=by
 have hz:=hb.size;have q:∀i,w'.cell? ⟨Pb,i,none⟩=w.cell? ⟨Pb,i,none⟩:=λi=>hb.cell (p:=⟨Pb,i,none⟩) h.hz.1;exact{hz:=⟨by have:=h.hz.1;omega,by have:=h.hz.2;omega⟩,p0:=(q _).trans h.p0,p1:=(q _).trans h.p1,p2:=(q _).trans h.p2,p3:=(q _).trans h.p3,p4:=(q _).trans h.p4,la:=h.la.block (hb.block _ h.hz.2),ci:=(h.ci.below hb).mono hz,hi:=(h.hi.below hb).mono hz,bs:=Zp.kept (λb hb=>hb) (λb hs=>hb.block b (h.hS b hs)) _ _ _ h.bs,hS:=λb hs=>Nat.lt_of_lt_of_le (h.hS b hs) hz,li:=(h.li.below hb).mono hz,no:=(h.no.below hb).mono hz,n6:=h.n6,cl:=h.cl,cv:=h.cv,kd:=h.kd,l0:=h.l0,x0:=h.x0,xo:=h.xo}
def CpIn.checker{w W:World}{Pb Lb:Nat}{clv hv bv lv nv vv:Value}{p:Fl.Prog}{S:Nat->Prop}{ls:List Int}{x:List Fl.Node}(h:CpIn w Pb Lb clv hv bv lv nv p S ls x)(hb:Below w.heap.size w W)(b0:Zy W.heap.size W vv (Fl.vars p ls)):
  Yh ((W.alloc (.cells zx1 235)).alloc (.cells #[.pointer (some ⟨Pb,0,none⟩),vv,nv,.slice (some ⟨W.heap.size,0,none⟩) 8 8] 162)) (W.heap.size+1) Pb Lb W.heap.size vv nv hv p (Fl.vars p ls) x:=by
 have hB:Below W.heap.size W ((W.alloc (.cells zx1 235)).alloc (.cells #[.pointer (some ⟨Pb,0,none⟩),vv,nv,.slice (some ⟨W.heap.size,0,none⟩) 8 8] 162)):=(bA).alloc (by simp) _;have h2:=(h.below hb).below hB;obtain⟨W3,a0⟩:=nmE (((W.alloc (.cells zx1 235)).alloc (.cells #[.pointer (some ⟨Pb,0,none⟩),vv,nv,.slice (some ⟨W.heap.size,0,none⟩) 8 8] 162)))
 have rC:W3.heap[W.heap.size+1]?=some (.cells #[.pointer (some ⟨Pb,0,none⟩),vv,nv,.slice (some ⟨W.heap.size,0,none⟩) 8 8] 162 (0,0)):=by rw[a0];exact yo3 _ _ _ (by simp)
 have rR:W3.heap[W.heap.size]?=some (.cells zx1 235 (0,0)):=by rw[a0,Below.heap_alloc _ _ _ (by simp)];exact yo3 _ _ _ rfl
 have d0:W3.heap.size=W.heap.size+2:=by rw[a0];simp
 rw[<-a0]at h2 hB⊢;exact{hz:=⟨by omega,h2.hz.1,h2.hz.2,by omega⟩,c0:=cell_of_row _ _ 0 _ _ (0,0) rC,c1:=cell_of_row _ _ 1 _ _ (0,0) rC,c2:=cell_of_row _ _ 2 _ _ (0,0) rC,c3:=cell_of_row _ _ 3 _ _ (0,0) rC,p0:=h2.p0,p2:=h2.p2,la:=h2.la,vi:=(b0.below hB).mono hB.size,hi:=h2.hi,no:=h2.no,ru:=ytv rR,n6:=h2.n6}
def ys0{w:World}{Pb Lb:Nat}{clv hv bv lv nv:Value}{p:Fl.Prog}{S:Nat->Prop}{ls:List Int}{x:List Fl.Node}(h:CpIn w Pb Lb clv hv bv lv nv p S ls x)
  (v0:ls.length=p.locals->(∀y∈ls,y<p.n)->∀k,k<x.length->(∀j,j<k->Fl.follows p ls x (Fl.nth x j)=true)->NdOk p x (Fl.nth x k)):
  Calls prog 36 #[.pointer (some ⟨Pb,0,none⟩),.agg #[lv,nv]] w (yo2 (Fl.check p ls x) w):=by
 obtain⟨la,lc,rfl⟩:=Xi h.li
 obtain⟨na,nc,rfl⟩:∃a c,nv=.slice a x.length c:=by obtain⟨a,c,e,-⟩:=h.no;exact⟨a,c,e⟩
 obtain⟨ba,bc,rfl⟩:∃a c,bv=.slice a p.body.length c:=by obtain⟨a,c,e,-⟩:=h.bs;exact⟨a,c,e⟩
 have HH:=Zz h;have y0:=Zz v0;have c0:=h.x0;clear v0 h
 go_enter func36,ntmps36
 go_wp2_with fail
 obtain⟨W1,h0⟩:=nmE (w.alloc (.cells #[.slice la ls.length lc,.slice na x.length nc] 26));rw[<-h0]
 have z0:Below w.heap.size w W1:=by rw[h0];exact bA
 have O0:W1.heap.size=w.heap.size+1:=by rw[h0];simp
 have hp:∀i,W1.cell? ⟨w.heap.size,i,none⟩=#[Value.slice la ls.length lc,.slice na x.length nc][i]?:=λi=>by rw[h0];exact World.cell?_alloc_new _ _ _ _
 have p0:W1.cell? ⟨w.heap.size,0,none⟩=some (.slice la ls.length lc):=hp 0;have p1:W1.cell? ⟨w.heap.size,1,none⟩=some (.slice na x.length nc):=hp 1;have HP:Hid (∀W,Below W1.heap.size W1 W->W.cell? ⟨w.heap.size,0,none⟩=some (.slice la ls.length lc)/\W.cell? ⟨w.heap.size,1,none⟩=some (.slice na x.length nc)):=λW hW=>⟨(hW.cell (p:=⟨w.heap.size,0,none⟩) (by simp only;omega)).trans p0,(hW.cell (p:=⟨w.heap.size,1,none⟩) (by simp only;omega)).trans p1⟩;have d0:=Zz z0;obtain⟨fit,e0⟩:=nmE (decide (ls.length=p.locals/\∀y∈ls,0<=y/\y<p.n));have A0:Hid (Calls prog 67 #[.pointer (some ⟨Pb,0,none⟩),.slice la ls.length lc] W1 λe w'=>e=.returned (.bool fit)/\w'=W1):=by
  have h2:=HH.out.below d0.out;rw[e0];exact zb0 h2.la h2.p0 h2.p3 _ ls h2.li (by have:=h2.l0.1;omega)
 have i0:=Zz e0;clear h0 z0 hp e0
 go_wp2_with fail
 refine(A0.out).mono ?_;rintro e w2 ⟨rfl,rfl⟩
 cases fit with
 |false=>
  have HE:Hid (Fl.check p ls x=(10,-1)):=by
   show _=_;have h1:=of_decide_eq_false i0.out.symm;unfold Fl.check;rw[if_pos]
   by_cases h2:ls.length=p.locals
   ·right
    refine Classical.byContradiction λh3=>h1 ⟨h2,λy hy=>⟨HH.out.l0.2 y hy,?_⟩⟩;refine Classical.byContradiction λh4=>h3 ?_;rw[List.any_eq_true];exact⟨y,hy,decide_eq_true (by omega)⟩
   exact .inl h2
  go_wp2;go_ret;refine⟨d0.out,.inr (.inl ⟨by rw[HE.out],rfl⟩)⟩
 |true=>
  have hf:=of_decide_eq_true i0.out.symm;have HF:=Zz hf
  have HV:Hid (∀W,Below w2.heap.size w2 W->Calls prog 62 #[.pointer (some ⟨Pb,0,none⟩),.slice la ls.length lc] W λe w'=>Below W.heap.size W w'/\∃a c,e=.returned (.slice a (Fl.vars p ls).length c)/\Zy w'.heap.size w' (.slice a (Fl.vars p ls).length c) (Fl.vars p ls)):=λW hW=>by
   have h2:=(HH.out.below d0.out).below hW;exact zb2 h2.hz.1 h2.p1 h2.ci h2.li ⟨by have:=h2.cl.1;simp;omega,by have:=h2.l0.1;omega⟩
  clear hf
  go_wp2_with fail
  refine Yv HP ((Below.refl _ _).drew) [(0,0),(0,1),(0,2),(0,3),(0,5),(0,6),(1,4),(1,7),(0,8),(1,9),(0,10)] [] [] (by kernel_rfl) (λc a d v w h=>by cases d<;>exact h) (λops hG=>?_);clear hG
  iterate 6 refine Zx rfl (by rintro _ ⟨_,_⟩;go_simp<;>rfl) (by go_simp<;>rfl) ?_
  refine Zo ?_
  go_wp2_with fail
  refine(HV.out _ (Below.refl _ _).drew).mono ?_;rintro e W2 ⟨B0,va,vc,rfl,C0⟩;have j0:Hid (Below w2.heap.size w2 W2):=(Below.refl _ _).drew.trans B0;have D0:=Zz C0;clear B0 C0
  go_wp2_with fail
  refine⟨HP.out _ j0.out,?_⟩;refine Zo ?_
  go_wp2_with fail
  refine(ytw _).mono ?_;rintro e W3 ⟨rfl,q0⟩;have k0:Hid (Below w2.heap.size w2 W3):=(by rw[q0];exact j0.out.alloc j0.out.size _);have r0:=Zz q0;clear q0
  go_wp2_with fail
  refine⟨HP.out _ k0.out,?_⟩;refine Zx rfl (by rintro _ ⟨_,_⟩;go_simp<;>rfl) (by go_simp<;>rfl) ?_;refine Zo ?_
  go_wp2_with fail
  refine⟨HP.out _ (k0.out.alloc k0.out.size _),?_⟩;refine Zx rfl (by rintro _ ⟨_,_⟩;go_simp<;>rfl) (by go_simp<;>rfl) ?_;refine Zs ?_;obtain⟨W4,m0⟩:=nmE (W3.alloc (.cells #[.pointer (some ⟨Pb,0,none⟩),.slice va (Fl.vars p ls).length vc,.slice na x.length nc,.slice (some ⟨W2.heap.size,0,none⟩) 8 8] 162));rw[<-m0];have E0:Below w.heap.size w W2:=d0.out.trans (j0.out.mono d0.out.size);have n0:Yh W4 (W2.heap.size+1) Pb Lb W2.heap.size (.slice va (Fl.vars p ls).length vc) (.slice na x.length nc) hv p (Fl.vars p ls) x:=by
   rw[m0,r0.out];exact HH.out.checker E0 D0.out
  have F0:W3.heap.size=W2.heap.size+1:=(by rw[r0.out];simp);rw[<-F0]at n0;have G0:Below w.heap.size w W4:=by
   have h3:Below w.heap.size w W3:=d0.out.trans (k0.out.mono d0.out.size);rw[m0];exact h3.alloc h3.size _
  have H0:∀y∈Fl.vars p ls,0<=y/\y<p.n:=λy hy=>by
   unfold Fl.vars at hy;rcases List.mem_append.1 hy with h1|h1
   ·obtain⟨z,hz,rfl⟩:=List.mem_map.1 h1
    have:=HH.out.cv.1 z hz;omega
   exact HF.out.2 y h1
  have I0:(Fl.vars p ls).length<=100:=by
   have h1:=HH.out.cl.1;have h2:=HH.out.l0.1;unfold Fl.vars;simp;omega
  have J0:Hid (Calls prog 69 #[.pointer (some ⟨W3.heap.size,0,none⟩)] W4 λe w'=>e=.returned (.int .i64 (Xk p ls x))/\Below W4.heap.size W4 w'):=
   ziv n0 (y0.out HF.out.1 λy hy=>(HF.out.2 y hy).2) (by omega) H0 I0 HH.out.cv.2 (by have:=HH.out.cl.2;omega)
  have K0:=Zz n0;have L0:=Zz G0
  have b0:Hid (Fl.check p ls x=match (List.range x.length).find? (λk=> !Fl.follows p ls x (Fl.nth x k)) with
   |some k=>(9,(k:Int))
   |none=>if Fl.ofAll 4 x ((x.length:Int) - 1) p.body then(0,-1) else(10,-1)):=by
   show _=_;unfold Fl.check;rw[if_neg]
   ·rfl
   rintro(h1|h1)
   ·exact h1 HF.out.1
   obtain⟨y,hy,h2⟩:=List.any_eq_true.1 h1;have h3:=HF.out.2 y hy;have h4:=of_decide_eq_true h2;omega
  generalize W3.heap.size=Cb at*;clear n0 G0 m0 H0 I0 E0 F0
  go_wp2_with fail
  refine(J0.out).mono ?_;rintro e W5 ⟨rfl,s0⟩;have M0:=Zz s0;have a0:Hid (Below w.heap.size w W5):=L0.out.trans (s0.mono L0.out.size)
  have o0:Hid (Xk p ls x=match (List.range x.length).find? (λk=> !Fl.follows p ls x (Fl.nth x k)) with
   |some k=>(k:Int)
   |none=> -1):=rfl
  clear s0 J0 HV A0 y0 D0 j0 k0 r0
  cases f0:(List.range x.length).find? (λk=> !Fl.follows p ls x (Fl.nth x k)) with
  |some k=>
   have HE:Hid (Fl.check p ls x=(9,(k:Int))):=(by show _=_;rw[b0.out,f0]);have HK:Hid (Xk p ls x=(k:Int)):=(by show _=_;rw[o0.out,f0]);have hk:k<x.length:=List.mem_range.1 (List.mem_of_find?_eq_some f0);rw[HK.out];clear f0 b0 o0 HK;have P0:((k:Int) ≥ 0)=True:=(by simp);go_wp2;go_ret;refine⟨?_,.inr (.inr ⟨by rw[HE.out],_,rfl,?_,?_⟩)⟩
   ·exact a0.out.alloc a0.out.size _
   ·rw[World.cell?_alloc_new];rfl
   rw[World.cell?_alloc_new,HE.out];rfl
  |none=>
   have HE:Hid (Fl.check p ls x=if Fl.ofAll 4 x ((x.length:Int) - 1) p.body then(0,-1) else(10,-1)):=(by show _=_;rw[b0.out,f0]);have HK:Hid (Xk p ls x= -1):=(by show _=_;rw[o0.out,f0]);rw[HK.out];clear f0 b0 o0 HK
   have HQ:Hid (∀W,Below W5.heap.size W5 W->W.cell? ⟨Cb,2,none⟩=some (.slice na x.length nc)/\W.cell? ⟨Pb,4,none⟩=some (.slice ba p.body.length bc)):=λW hW=>by
    have h1:=(K0.out.below M0.out).below hW;have h2:=(HH.out.below a0.out).below hW;exact⟨h1.c2,h2.p4⟩
   obtain⟨res,g0⟩:=nmE (Fl.ofAll 4 x ((x.length:Int) - 1) p.body);rw[<-g0]at HE
   have t0:Hid (∀W,Below W5.heap.size W5 W->Calls prog 70 #[.pointer (some ⟨Cb,0,none⟩),.int .i64 ((x.length:Int) - 1),.slice ba p.body.length bc] W λe w'=>e=.returned (.bool res)/\Below W.heap.size W w'):=λW hW=>by
    have h1:=(K0.out.below M0.out).below hW;have h2:=(HH.out.below a0.out).below hW;rw[g0];exact zlx h2.xo 4 W _ _ _ h1 h2.hS ⟨by have:=c0.1;omega,by have:=c0.1;omega⟩ h2.bs h2.kd
   clear g0;have Q0:0<(x.length:Int)/\(x.length:Int)<=200:=(by omega)
   go_wp2_with fail
   refine Zv HQ ((Below.refl _ _).drew) [11] [] [] (by kernel_rfl) (λc a d v w h=>by cases d<;>exact h) (λops hG=>?_);clear hG
   iterate 11 refine Zx rfl (by rintro _ ⟨_,_⟩;go_simp<;>rfl) (by go_simp<;>rfl) ?_
   refine Zo ?_
   go_wp2_with fail
   refine(t0.out _ (Below.refl _ _).drew).mono ?_;rintro e W6 ⟨rfl,N0⟩;have u0:Hid (Below W5.heap.size W5 W6):=(Below.refl _ _).drew.trans N0;clear N0
   go_wp2_with fail
   refine⟨HQ.out _ u0.out,?_⟩;refine Zx rfl (by rintro _ ⟨_,_⟩;go_simp<;>rfl) (by go_simp<;>rfl) ?_;refine Zs ?_
   cases res with
   |true=>
    go_wp2;go_ret;exact⟨a0.out.trans (u0.out.mono a0.out.size),.inl ⟨by rw[HE.out];rfl,rfl⟩⟩
   |false=>
    go_wp2;go_ret;exact⟨a0.out.trans (u0.out.mono a0.out.size),.inr (.inl ⟨by rw[HE.out];rfl,rfl⟩)⟩
end Go.Proofs.YtminjljgedopkaaGreatDoor
namespace Go.Proofs.YtminjljgedopkaaGreatDoor
open Go.Proofs.Tryz
namespace Fl
structure RS.Lv(r:RS):Prop where
 le:r.levels.length<=6
 ce:∀y∈r.cellLv,y<r.levels.length
 ch:∀y∈r.chanLv,y<r.levels.length
def lv0:RS.zero.Lv:=⟨by decide,λ_ h=>(by cases h),λ_ h=>(by cases h)⟩
def RS.Lv.same{r r':RS}(h:r.Lv)(e:r'.levels=r.levels/\r'.cellLv=r.cellLv/\r'.chanLv=r.chanLv):r'.Lv:=⟨by rw[e.1];exact h.le,by rw[e.1,e.2.1];exact h.ce,by rw[e.1,e.2.2];exact h.ch⟩
def RS.put_lv(r:RS)(s:Stmt):(r.put s).levels=r.levels/\(r.put s).cellLv=r.cellLv/\(r.put s).chanLv=r.chanLv:=by
 unfold RS.put;split<;>exact⟨rfl,rfl,rfl⟩
def RS.ends_lv(r:RS):r.ends.levels=r.levels/\r.ends.cellLv=r.cellLv/\r.ends.chanLv=r.chanLv:=by
 unfold RS.ends;split<;>exact⟨rfl,rfl,rfl⟩
def RS.elses_lv(r:RS):r.elses.levels=r.levels/\r.elses.cellLv=r.cellLv/\r.elses.chanLv=r.chanLv:=by
 unfold RS.elses;split<;>exact⟨rfl,rfl,rfl⟩
def RS.target_lv(r:RS)(n:List UInt8){x:Nat}{r':RS}(h:r.target n=some (x,r')):r'.levels=r.levels/\r'.cellLv=r.cellLv/\r'.chanLv=r.chanLv:=by
 unfold RS.target at h
 split at h
 ·simp only[Option.some.injEq,Prod.mk.injEq]at h;rw[<-h.2];exact⟨rfl,rfl,rfl⟩
 split at h
 ·simp only[Option.some.injEq,Prod.mk.injEq]at h;rw[<-h.2];exact⟨rfl,rfl,rfl⟩
 split at h
 ·cases h
 simp only[Option.some.injEq,Prod.mk.injEq]at h;rw[<-h.2];exact⟨rfl,rfl,rfl⟩
def RS.stmt_lv(r:RS)(a:Nat)(w:List (List UInt8)):(r.stmt a w).2.levels=r.levels/\(r.stmt a w).2.cellLv=r.cellLv/\(r.stmt a w).2.chanLv=r.chanLv:=by
 unfold RS.stmt
 split
 ·split
  ·exact⟨rfl,rfl,rfl⟩
  split
  ·split
   ·exact r.elses_lv
   exact⟨rfl,rfl,rfl⟩
  exact r.ends_lv
 ·split
  ·exact⟨rfl,rfl,rfl⟩
  split
  ·exact⟨rfl,rfl,rfl⟩
  exact⟨rfl,rfl,rfl⟩
 ·split
  ·exact⟨rfl,rfl,rfl⟩
  split
  ·split
   ·exact⟨rfl,rfl,rfl⟩
   split
   ·exact⟨rfl,rfl,rfl⟩
   exact r.put_lv _
  split
  ·exact⟨rfl,rfl,rfl⟩
  split
  ·exact⟨rfl,rfl,rfl⟩
  rename_i h
  split
  ·exact⟨rfl,rfl,rfl⟩
  have h1:=r.target_lv _ h;have h2:=RS.put_lv;exact⟨(h2 _ _).1.trans h1.1,(h2 _ _).2.1.trans h1.2.1,(h2 _ _).2.2.trans h1.2.2⟩
 exact⟨rfl,rfl,rfl⟩
def RS.Lv.head{r:RS}(h:r.Lv)(w:List (List UInt8)):(r.head w).2.Lv:=by
 unfold RS.head
 split
 ·split
  ·exact h.same ⟨rfl,rfl,rfl⟩
  exact h
 ·split
  ·exact h
  split
  ·exact h
  rename_i h6;have hl:=h.le;exact⟨by simp;omega,λy hy=>by have:=h.ce y hy;simp;omega,λy hy=>by have:=h.ch y hy;simp;omega⟩
 ·rename_i k n l
  have hp:=place_cases r.levels l
  split
  ·split
   ·exact h
   exact h.same ⟨rfl,rfl,rfl⟩
  split
  ·exact h
  rename_i hn;have h0:¬place r.levels l<0:=λq=>hn (.inl q)
  split
  ·split
   ·exact h
   refine⟨h.le,λy hy=>?_,h.ch⟩;rcases List.mem_append.1 hy with h1|h1
   ·exact h.ce y h1
   simp only[List.mem_singleton]at h1;show y<r.levels.length;omega
  split
  ·exact h
  refine⟨h.le,h.ce,λy hy=>?_⟩;rcases List.mem_append.1 hy with h1|h1
  ·exact h.ch y h1
  simp only[List.mem_singleton]at h1;show y<r.levels.length;omega
 exact h
def RS.Lv.row{r:RS}(h:r.Lv)(w:List (List UInt8))(a:Nat):(r.row w a).2.Lv:=by
 unfold RS.row
 split
 ·exact h
 split
 ·exact h.head w
 exact h.same (r.stmt_lv a w)
def rows_lv:∀(ls:List (List UInt8)) (r:RS) (i:Nat),r.Lv->(rows r i ls).2.2.Lv
 |[],r,i,h=>h
 |[l],r,i,h=>by
  rw[rows]
  split
  ·split<;>exact h
  exact h
 |l::m::ls,r,i,h=>by
  rw[rows]
  split
  ·exact h
  split
  ·exact h
  exact rows_lv (m::ls) _ (i+1) (h.row _ _)
def readProg_lv(s:List UInt8):(readProg s).2.2.n<=6/\(∀y∈(readProg s).2.2.cells,y<(readProg s).2.2.n)/\∀y∈(readProg s).2.2.chans,y<(readProg s).2.2.n:=by
 unfold readProg
 split
 ·exact⟨lv0.le,lv0.ce,lv0.ch⟩
 have h:=rows_lv (cutR 10 s) RS.zero 0 lv0;exact⟨h.le,h.ce,h.ch⟩
end Fl
open Go.RowKit
namespace Fl
def byteNat{x:Nat}(h:x<256):(UInt8.ofNat x).toNat=x:=by simp;omega
def codedF_small{x:Nat}(h:x<128)(f:Nat):codedF f x=[UInt8.ofNat x]:=by
 cases f with
 |zero=>rfl
 |succ f=>simp only[codedF,if_pos h]
def numG_coded(at_ len:Nat)(r:List UInt8)(f:Nat):∀k v unit x,unit=128 ^ k->k<=4->(k=0\/0<x)->v+x*unit<2147483648->x<128 ^ (f+1)->
  numG at_ len k v unit (codedF f x++r)=(((v+x*unit:Nat):Int),((at_+k+(codedF f x).length:Nat):Int),0):=by
 have small:∀f k v unit x,(k=0\/0<x)->v+x*unit<2147483648->x<128->numG at_ len k v unit (codedF f x++r)=(((v+x*unit:Nat):Int),((at_+k+(codedF f x).length:Nat):Int),0):=by
  intro f k v unit x hx a0 hs;rw[codedF_small hs];have e:(UInt8.ofNat x).toNat=x:=byteNat (by omega);have em:x % 128=x:=Nat.mod_eq_of_lt hs;simp only[List.cons_append,List.nil_append,numG,e,em];rw[if_neg (by rintro(⟨h1,h2⟩|h|⟨h1,h2⟩)<;>omega),if_pos hs];simp[Nat.add_assoc]
 induction f with
 |zero=>intro k v unit x hu hk hx a0 hs;exact small 0 k v unit x hx a0 (by simpa using hs)
 |succ f ih=>
  intro k v unit x hu hk hx a0 hs
  by_cases h:x<128
  ·exact small (f+1) k v unit x hx a0 h
  have e:(UInt8.ofNat (x % 128+128)).toNat=x % 128+128:=byteNat (by omega);have em:(x % 128+128) % 128=x % 128:=(by omega);have c0:x=x / 128*128+x % 128:=(by omega);have b0:v+x % 128*unit+x / 128*(unit*128)=v+x*unit:=by
   have:x*unit=x / 128*(unit*128)+x % 128*unit:=by
    conv=>lhs;rw[c0]
    rw[Nat.add_mul,Nat.mul_assoc,Nat.mul_comm 128 unit]
   omega
  have d0:k≠4:=by
   intro h4;subst h4;have h1:unit=268435456:=(by rw[hu]);rw[h1]at a0;omega
  have hc:codedF (f+1) x=UInt8.ofNat (x % 128+128)::codedF f (x / 128):=(by simp only[codedF,if_neg h]);rw[hc];simp only[List.cons_append,numG,e,em];rw[if_neg (by rintro(⟨h1,h2⟩|h|⟨h1,h2⟩)<;>omega),if_neg (by omega)];rw[ih (k+1) _ _ (x / 128) (by rw[hu,Nat.pow_succ]) (by omega) (Or.inr (by omega)) (by omega) (by rw[Nat.pow_succ]at hs;omega),b0];simp only[List.length_cons]
  congr 2;congr 1;omega
def num_coded{s r:List UInt8}{p v:Nat}(h:s.drop p=coded v++r)(hv:v<2147483648):num s p=((v:Int),((p+(coded v).length:Nat):Int),0):=by
 unfold num;rw[h];have:=numG_coded p s.length r 9 0 0 1 v (by rfl) (by omega) (Or.inl rfl) (by omega) (by omega);simpa [coded] using this
def numG_back(at_ len:Nat)(l:List UInt8):∀k v unit f,k<=4->4<=k+f->0<=(numG at_ len k v unit l).2.1->
  ∃x,(k=0\/0<x)/\(numG at_ len k v unit l).1=((v+x*unit:Nat):Int)/\(numG at_ len k v unit l).2.1=((at_+k+(codedF f x).length:Nat):Int)/\l=codedF f x++l.drop (codedF f x).length:=by
 induction l with
 |nil=>intro k v unit f hk hf h;simp[numG]at h
 |cons c r ih=>
  intro k v unit f hk hf h;have hc:=c.toNat_lt;simp only[numG]at h⊢
  by_cases h1:(c.toNat=0/\0<k)\/2147483648<=v+c.toNat % 128*unit\/(k=4/\128<=c.toNat)
  ·rw[if_pos h1]at h;simp at h
  rw[if_neg h1]at h⊢
  by_cases h2:c.toNat<128
  ·rw[if_pos h2]
   refine⟨c.toNat,?_,by rw[Nat.mod_eq_of_lt h2],?_,?_⟩
   ·by_cases b0:k=0
    ·exact Or.inl b0
    right;rcases Nat.eq_zero_or_pos c.toNat with h0|h0
    ·exact absurd (Or.inl ⟨h0,by omega⟩) h1
    exact h0
   ·rw[codedF_small h2];rfl
   rw[codedF_small h2];simp
  rw[if_neg h2]at h⊢;have c0:k≠4:=λh4=>h1 (Or.inr (Or.inr ⟨h4,by omega⟩));obtain⟨f',rfl⟩:∃f',f=f'+1:=⟨f - 1,by omega⟩;obtain⟨y,hy,e1,e2,e3⟩:=ih (k+1) (v+c.toNat % 128*unit) (unit*128) f' (by omega) (by omega) h
  have d0:0<y:=by rcases hy with h|h<;>omega
  have a0:codedF (f'+1) (c.toNat % 128+y*128)=c::codedF f' y:=by
   have hn:¬(c.toNat % 128+y*128)<128:=(by omega);simp only[codedF,if_neg hn];have q1:(c.toNat % 128+y*128) % 128+128=c.toNat:=(by omega);have q2:(c.toNat % 128+y*128) / 128=y:=(by omega);rw[q1,q2];simp
  refine⟨c.toNat % 128+y*128,Or.inr (by omega),?_,?_,?_⟩
  ·rw[e1];congr 1
   rw[Nat.add_mul,Nat.mul_assoc,Nat.mul_comm 128 unit];omega
  ·rw[e2,a0];simp only[List.length_cons];congr 1;omega
  rw[a0];simp only[List.length_cons,List.cons_append,List.drop_succ_cons];rw[<-e3]
def num_back{s:List UInt8}{p:Nat}(hp:p<=s.length)(h:0<=(num s p).2.1):∃v:Nat,(num s p).1=(v:Int)/\v<2147483648/\(num s p).2.1=((p+(coded v).length:Nat):Int)/\s.drop p=coded v++s.drop (p+(coded v).length):=by
 obtain⟨x,_,e1,e2,e3⟩:=numG_back p s.length (s.drop p) 0 0 1 9 (by omega) (by omega) h;have ho:=num_ok s p hp;refine⟨x,by rw[num,e1];simp,?_,by rw[num,e2];simp[coded],by rw[<-List.drop_drop];exact e3⟩
 have:(num s p).1=(x:Int):=by rw[num,e1];simp
 omega
def codedAll_cons(x:Int)(l:List Int):codedAll (x::l)=coded x.toNat++codedAll l:=by simp[codedAll]
def drop_then{s a r:List UInt8}{p:Nat}(h:s.drop p=a++r):s.drop (p+a.length)=r:=by
 rw[<-List.drop_drop,h];simp
def numsA_coded(s r:List UInt8):∀(xs:List Int) (p:Nat) (acc:List Int),s.drop p=codedAll xs++r->xs.all inR=true->
  numsA s xs.length p acc=(acc++xs,((p+(codedAll xs).length:Nat):Int),0):=by
 intro xs
 induction xs with
 |nil=>intro p acc h _;simp[numsA,codedAll]
 |cons x xs ih=>
  intro p acc h ha;simp only[List.all_cons,Bool.and_eq_true]at ha;have hx:=ha.1;simp only[inR,Bool.and_eq_true,decide_eq_true_eq]at hx;rw[codedAll_cons,List.append_assoc]at h;have hn:=num_coded h (by omega);simp only[List.length_cons,numsA,hn];rw[if_neg (by omega),Int.toNat_natCast,ih _ _ (drop_then h) ha.2,codedAll_cons];simp only[List.length_append,Int.toNat_of_nonneg hx.1,List.append_assoc,List.singleton_append,Nat.add_assoc]
def nums_coded{s r:List UInt8}{xs:List Int}{p:Nat}(h:s.drop p=codedAll xs++r)(ha:xs.all inR=true):nums s p xs.length=(xs,((p+(codedAll xs).length:Nat):Int),0):=by
 have:=numsA_coded s r xs p [] h ha;simpa [nums] using this
def numsA_back(s:List UInt8)(n:Nat):∀(p:Nat) (acc:List Int),p<=s.length->0<=(numsA s n p acc).2.1->
  ∃xs:List Int,(numsA s n p acc).1=acc++xs/\xs.length=n/\xs.all inR=true/\(numsA s n p acc).2.1=((p+(codedAll xs).length:Nat):Int)/\s.drop p=codedAll xs++s.drop (p+(codedAll xs).length):=by
 induction n with
 |zero=>intro p acc hp h;exact⟨[],by simp[numsA],rfl,rfl,by simp[numsA,codedAll],by simp[codedAll]⟩
 |succ n ih=>
  intro p acc hp h;simp only[numsA]at h⊢
  by_cases h1:(num s p).2.1<0
  ·rw[if_pos h1]at h;simp at h
  rw[if_neg h1]at h⊢;obtain⟨v,e1,e2,e3,e4⟩:=num_back hp (by omega);have ho:=num_ok s p hp;rw[e1,e3,Int.toNat_natCast]at h⊢;obtain⟨xs,f1,f2,f3,f4,f5⟩:=ih _ _ (by omega) h;refine⟨(v:Int)::xs,by rw[f1];simp,by simp[f2],?_,?_,?_⟩
  ·simp only[List.all_cons,f3,Bool.and_true,inR,Bool.and_eq_true,decide_eq_true_eq];omega
  ·rw[f4,codedAll_cons];simp[Nat.add_assoc]
  rw[codedAll_cons,Int.toNat_natCast,List.append_assoc,List.length_append,<-Nat.add_assoc,<-f5];exact e4
def nums_back{s:List UInt8}{p n:Nat}(hp:p<=s.length)(h:0<=(nums s p n).2.1):
  ∃xs:List Int,(nums s p n).1=xs/\xs.length=n/\xs.all inR=true/\(nums s p n).2.1=((p+(codedAll xs).length:Nat):Int)/\s.drop p=codedAll xs++s.drop (p+(codedAll xs).length):=by
 have:=numsA_back s n p [] hp h;simpa [nums] using this
end Fl
namespace Fl
def inR_nat{x:Int}(h:inR x=true):0<=x/\x<2147483648:=by simpa [inR] using h
def zl9{k:Int}(h:fields k≠ -2):0<=k/\k<8:=by unfold fields at h;(repeat' split at h)<;>omega
def drop_lt{s a r:List UInt8}{p:Nat}(h:s.drop p=a++r)(ha:0<a.length):p<s.length:=by
 rcases Nat.lt_or_ge p s.length with h1|h1
 ·exact h1
 rw[List.drop_eq_nil_of_le h1]at h;have:=congrArg List.length h;simp at this;omega
def drop_head{s r:List UInt8}{c:UInt8}{p:Nat}(h:s.drop p=c::r):p<s.length/\s.getD p 0=c/\s.drop (p+1)=r:=by
 have h1:p<s.length:=drop_lt (a:=[c]) (r:=r) (by simpa using h) (by simp);refine⟨h1,?_,by rw[<-List.drop_drop,h];rfl⟩
 have:(s.drop p)[0]?=some c:=by rw[h];rfl
 rw[List.getElem?_drop]at this;rw[Qa];simpa using congrArg (λo=>o.getD 0) this
def one_coded{s r:List UInt8}{p k:Nat}{nd:Node}(h:s.drop p=nodeBytes nd++r)(hs:sound nd=true)(hb:(prem nd).any (λx=>decide ((k:Int)<=x))=false):
  one s p k=(nd,((p+(nodeBytes nd).length:Nat):Int),0):=by
 simp only[sound,Bool.and_eq_true,Bool.or_eq_true,decide_eq_true_eq]at hs;obtain⟨hk,k0,hlen,ha,i0,hc,hall,hz⟩:=hs;obtain⟨l0,m0⟩:=zl9 hk;obtain⟨j0,n0⟩:=inR_nat k0;unfold nodeBytes at h;rw[List.cons_append]at h;obtain⟨hp,hd,h1⟩:=drop_head h
 have d0:((s.getD p 0).toNat:Int)=nd.kind:=by rw[hd,byteNat (by omega)];omega
 rw[List.append_assoc]at h1;have hn:=num_coded h1 (by omega);have h2:=drop_then h1
 have fin:∀e,oneFin p k nd e=(nd,e,0):=λe=>by unfold oneFin;rw[hb];rfl
 unfold one;rw[if_neg (by omega)];simp only[d0,hn];rw[if_neg hk,if_neg (by omega)];simp only[Int.toNat_natCast]
 by_cases hf:fields nd.kind= -1
 ·rw[if_pos hf]
  have a0:fields nd.kind<0:=(by omega);rw[if_pos a0,List.append_assoc]at h2;have hm:=num_coded h2 (by omega);have h3:=drop_then h2;have b0:nodeNums nd=nd.list:=(by unfold nodeNums;rw[if_pos a0]);rw[b0]at h3;have hl:=nums_coded h3 hall;simp only[hm,Int.toNat_natCast];rw[if_neg (by omega),if_neg (by omega)];simp only[hl];rw[if_neg (by omega)];have e0:(⟨nd.kind,(nd.level.toNat:Int),0,0,0,nd.list⟩:Node)=nd:=by
   have q:∀i x,okV (fields nd.kind) i x=true->0<=i->x=0:=λi x hx hi=>by
    simp only[okV,Bool.and_eq_true,Bool.or_eq_true,decide_eq_true_eq]at hx;omega
   obtain⟨kd,lv,a,b,c,li⟩:=nd;simp only[Node.mk.injEq];exact⟨trivial,Int.toNat_of_nonneg j0,(q 0 _ ha (by omega)).symm,(q 1 _ i0 (by omega)).symm,(q 2 _ hc (by omega)).symm,trivial⟩
  rw[e0,fin]
  congr 2
  unfold nodeBytes;rw[if_pos a0,b0];simp only[List.length_cons,List.length_append];omega
 rw[if_neg hf]
 have a0:¬fields nd.kind<0:=by have:=fields_lt nd.kind;omega
 rw[if_neg a0,List.nil_append]at h2
 have b0:nodeNums nd=[nd.a,nd.b,nd.c].take (fields nd.kind).toNat:=by unfold nodeNums;rw[if_neg a0]
 have o0:=fields_lt nd.kind
 have f0:(nodeNums nd).length=(fields nd.kind).toNat:=by rw[b0];simp;omega
 have okR:∀i x,okV (fields nd.kind) i x=true->inR x=true/\(fields nd.kind<=i->x=0):=λi x hx=>by
  simp only[okV,Bool.and_eq_true,Bool.or_eq_true,decide_eq_true_eq]at hx;exact⟨hx.1,λh=>by omega⟩
 obtain⟨ra,za⟩:=okR 0 _ ha;obtain⟨rb,zb⟩:=okR 1 _ i0;obtain⟨rc,zc⟩:=okR 2 _ hc;have g0:(nodeNums nd).all inR=true:=by
  rw[List.all_eq_true];intro x hx;rw[b0]at hx;have:=List.mem_of_mem_take hx;simp only[List.mem_cons,List.not_mem_nil,or_false]at this;rcases this with rfl|rfl|rfl<;>assumption
 have hl:=nums_coded h2 g0;rw[f0]at hl;simp only[hl];rw[if_neg (by omega)]
 have h0:nd.list=[]:=by rcases hz with h|h;exact absurd h hf;exact h
 have e0:(⟨nd.kind,(nd.level.toNat:Int),(nodeNums nd).getD 0 0,(nodeNums nd).getD 1 0,(nodeNums nd).getD 2 0,[]⟩:Node)=nd:=by
  rw[b0];have c0:fields nd.kind=0\/fields nd.kind=1\/fields nd.kind=2\/fields nd.kind=3:=(by omega);obtain⟨kd,lv,a,b,c,li⟩:=nd;simp only[Node.mk.injEq]at*;refine⟨trivial,Int.toNat_of_nonneg j0,?_,?_,?_,h0.symm⟩<;>(rcases c0 with c0|c0|c0|c0<;>rw[c0]at za zb zc⊢<;>simp<;>first|done|exact(za (by omega)).symm|exact(zb (by omega)).symm|exact(zc (by omega)).symm)
 rw[e0,fin]
 congr 2
 unfold nodeBytes;rw[if_neg a0];simp only[List.length_cons,List.length_append,List.nil_append,List.length_nil];omega
def one_back{s:List UInt8}{p k:Nat}(hp:p<=s.length)(h:0<=(one s p k).2.1):
  s.drop p=nodeBytes (one s p k).1++s.drop (p+(nodeBytes (one s p k).1).length)/\(one s p k).2.1=((p+(nodeBytes (one s p k).1).length:Nat):Int):=by
 unfold one at h⊢
 by_cases h0:p=s.length
 ·rw[if_pos h0]at h;simp at h
 rw[if_neg h0]at h⊢;simp only at h⊢
 by_cases h1:fields ((s.getD p 0).toNat:Int)= -2
 ·rw[if_pos h1]at h;simp at h
 rw[if_neg h1]at h⊢;have d0:s.drop p=s.getD p 0::s.drop (p+1):=by
  rw[List.drop_eq_getElem_cons (show p<s.length by omega),Qa,Qb (show p<s.length by omega)];rfl
 generalize hc:s.getD p 0=c at*
 have g0:UInt8.ofNat ((c.toNat:Int)).toNat=c:=by simp
 have c0:∀(nd:Node) (e:Int),nd.kind=(c.toNat:Int)->0<=(oneFin p k nd e).2.1->e=((p+(nodeBytes nd).length:Nat):Int)->s.drop p=nodeBytes nd++s.drop (p+(nodeBytes nd).length)->
   s.drop p=nodeBytes (oneFin p k nd e).1++s.drop (p+(nodeBytes (oneFin p k nd e).1).length)/\(oneFin p k nd e).2.1=((p+(nodeBytes (oneFin p k nd e).1).length:Nat):Int):=by
  intro nd e _ hh he hd;unfold oneFin at hh⊢
  by_cases hq:((prem nd).any λx=>decide ((k:Int)<=x))=true
  ·rw[if_pos hq]at hh;simp at hh
  rw[if_neg hq];exact⟨hd,he⟩
 have hno:=num_ok s (p+1) (by omega)
 by_cases h2:(num s (p+1)).2.1<0
 ·rw[if_pos h2]at h;simp at h
 rw[if_neg h2]at h⊢;obtain⟨v,a1,a2,a3,a4⟩:=num_back (s:=s) (p:=p+1) (by omega) (by omega);rw[a1,a3]at h⊢;rw[a3]at hno;simp only[Int.toNat_natCast]at h⊢
 by_cases h3:fields (c.toNat:Int)= -1
 ·rw[if_pos h3]at h⊢
  have a0:fields (c.toNat:Int)<0:=(by omega);have e0:=num_ok s (p+1+(coded v).length) (by omega)
  by_cases h4:(num s (p+1+(coded v).length)).2.1<0
  ·rw[if_pos h4]at h;simp at h
  rw[if_neg h4]at h⊢;obtain⟨m,b1,b2,b3,b4⟩:=num_back (s:=s) (p:=p+1+(coded v).length) (by omega) (by omega);rw[b1,b3]at h⊢;rw[b3]at e0;simp only[Int.toNat_natCast]at h⊢
  by_cases h5:(16:Int)<(m:Int)
  ·rw[if_pos h5]at h;simp at h
  rw[if_neg h5]at h⊢
  by_cases h6:(nums s (p+1+(coded v).length+(coded m).length) m).2.1<0
  ·rw[if_pos h6]at h;simp at h
  rw[if_neg h6]at h⊢;obtain⟨xs,c1,c2,c3,c4,c5⟩:=nums_back (s:=s) (p:=p+1+(coded v).length+(coded m).length) (n:=m) (by omega) (by omega);rw[c1,c4]at h⊢;have hnb:nodeBytes ⟨(c.toNat:Int),(v:Int),0,0,0,xs⟩=c::(coded v++(coded m++codedAll xs)):=by
   unfold nodeBytes nodeNums;simp only[if_pos a0,Int.toNat_natCast,c2];rw[show UInt8.ofNat c.toNat=c by simp]
  refine c0 _ _ rfl h ?_ ?_
  ·rw[hnb];simp only[List.length_cons,List.length_append];congr 1;omega
  rw[hnb];simp only[List.length_cons,List.length_append,List.cons_append,List.append_assoc];rw[d0,a4,b4,c5]
  have:p+((coded v).length+((coded m).length+(codedAll xs).length)+1)=p+1+(coded v).length+(coded m).length+(codedAll xs).length:=by omega
  rw[this]
 rw[if_neg h3]at h⊢;have i0:=fields_lt (c.toNat:Int)
 have a0:¬fields (c.toNat:Int)<0:=by omega
 by_cases h6:(nums s (p+1+(coded v).length) (fields (c.toNat:Int)).toNat).2.1<0
 ·rw[if_pos h6]at h;simp at h
 rw[if_neg h6]at h⊢;obtain⟨xs,c1,c2,c3,c4,c5⟩:=nums_back (s:=s) (p:=p+1+(coded v).length) (n:=(fields (c.toNat:Int)).toNat) (by omega) (by omega);rw[c1,c4]at h⊢;have f0:nodeNums ⟨(c.toNat:Int),(v:Int),xs.getD 0 0,xs.getD 1 0,xs.getD 2 0,[]⟩=xs:=by
  unfold nodeNums;simp only[if_neg a0];have b0:fields (c.toNat:Int)=0\/fields (c.toNat:Int)=1\/fields (c.toNat:Int)=2\/fields (c.toNat:Int)=3:=(by omega);rcases b0 with b0|b0|b0|b0<;>rw[b0]at c2⊢
  ·cases xs with
   |nil=>rfl
   |cons a t=>simp at c2
  ·obtain⟨a,rfl⟩:=List.length_eq_one_iff.1 c2;rfl
  ·match xs,c2 with
   |[a,b],_=>rfl
  match xs,c2 with
  |[a,b,d],_=>rfl
 have hnb:nodeBytes ⟨(c.toNat:Int),(v:Int),xs.getD 0 0,xs.getD 1 0,xs.getD 2 0,[]⟩=c::(coded v++codedAll xs):=by
  unfold nodeBytes;rw[f0];simp only[if_neg a0,Int.toNat_natCast,List.nil_append];rw[show UInt8.ofNat c.toNat=c by simp]
 refine c0 _ _ rfl h ?_ ?_
 ·rw[hnb];simp only[List.length_cons,List.length_append];congr 1;omega
 rw[hnb];simp only[List.length_cons,List.length_append,List.cons_append,List.append_assoc];rw[d0,a4,c5]
 have:p+((coded v).length+(codedAll xs).length+1)=p+1+(coded v).length+(codedAll xs).length:=by omega
 rw[this]
def allBytes_cons(x:Node)(l:List Node):allBytes (x::l)=nodeBytes x++allBytes l:=by simp[allBytes]
def nodesA_coded(s r:List UInt8):∀(ns:List Node) (k p:Nat) (st:List Int) (acc:List Node),s.drop p=allBytes ns++r->(∀i,i<ns.length->sound (nth ns i)=true/\(prem (nth ns i)).any (λx=>decide (((k+i:Nat):Int)<=x))=false)->
  ∃st',nodesA s ns.length k p st acc=(acc++ns,st',((p+(allBytes ns).length:Nat):Int),-1):=by
 intro ns
 induction ns with
 |nil=>intro k p st acc h _;exact⟨st,by simp[nodesA,allBytes]⟩
 |cons x ns ih=>
  intro k p st acc h hg;rw[allBytes_cons,List.append_assoc]at h;have h0:=hg 0 (by simp);have ho:=one_coded h h0.1 h0.2
  obtain⟨st',he⟩:=ih (k+1) (p+(nodeBytes x).length) (st++[(p:Int)]) (acc++[x]) (drop_then h) (λi hi=>by
   have:=hg (i+1) (by simp;omega)
   rw[show k+(i+1)=k+1+i by omega]at this;exact this)
  refine⟨st',?_⟩;simp only[List.length_cons,nodesA];simp only[nth,List.getD_cons_zero,Nat.add_zero]at ho;rw[ho];rw[if_neg (by simp only;omega)];simp only[Int.toNat_natCast];rw[he,allBytes_cons];simp[Nat.add_assoc]
def nodesA_back(s:List UInt8)(m:Nat):∀(k p:Nat) (st:List Int) (acc:List Node),p<=s.length->(nodesA s m k p st acc).2.2.2<0->
  ∃ns,(nodesA s m k p st acc).1=acc++ns/\ns.length=m/\(nodesA s m k p st acc).2.2.1=((p+(allBytes ns).length:Nat):Int)/\s.drop p=allBytes ns++s.drop (p+(allBytes ns).length):=by
 induction m with
 |zero=>intro k p st acc hp h;exact⟨[],by simp[nodesA],rfl,by simp[nodesA,allBytes],by simp[allBytes]⟩
 |succ m ih=>
  intro k p st acc hp h;have a0:=one_ok s p k hp;simp only[nodesA]at h⊢
  by_cases h1:(one s p k).2.1<0
  ·rw[if_pos h1]at h;simp only at h;omega
  rw[if_neg h1]at h⊢;obtain⟨e1,e2⟩:=one_back hp (show 0<=(one s p k).2.1 by omega);rw[e2]at a0;rw[e2,Int.toNat_natCast]at h⊢;obtain⟨ns,f1,f2,f3,f4⟩:=ih _ _ _ _ (by omega) h;refine⟨(one s p k).1::ns,by rw[f1];simp,by simp[f2],?_,?_⟩
  ·rw[f3,allBytes_cons];simp[Nat.add_assoc]
  rw[allBytes_cons,List.append_assoc,List.length_append,<-Nat.add_assoc,<-f4];exact e1
end Fl
namespace Fl
def head_back{s:List UInt8}(h:¬headAt s<3):s=[70,80,49]++s.drop 3/\3<=s.length:=by
 unfold headAt at h
 cases h0:headOk s 0 with
 |false=>rw[if_pos h0]at h;omega
 |true=>
  cases h1:headOk s 1 with
  |false=>rw[if_neg (by rw[h0];simp),if_pos h1]at h;omega
  |true=>
   cases h2:headOk s 2 with
   |false=>rw[if_neg (by rw[h0];simp),if_neg (by rw[h1];simp),if_pos h2]at h;omega
   |true=>
    simp only[headOk,Bool.and_eq_true,decide_eq_true_eq,beq_iff_eq]at h0 h1 h2
    match s,h2.1 with
    |a::b::c::t,_=>
     have e0:=h0.2;have e1:=h1.2;have e2:=h2.2;simp at e0 e1 e2;subst e0 e1 e2;exact⟨rfl,by simp⟩
def head_coded(t:List UInt8):headAt ([70,80,49]++t)=3:=by
 simp[headAt,headOk]
def decode_encode{s:List UInt8}(h:(decode s).2.1=true):encode (decode s).1.1 (decode s).1.2=(s,true,-1):=by
 unfold decode at h⊢
 by_cases h0:headAt s<3
 ·rw[if_pos h0]at h;simp at h
 rw[if_neg h0]at h⊢;obtain⟨hs,h3⟩:=head_back h0;simp only at h⊢;have hno:=num_ok s 3 h3
 by_cases h1:(num s 3).2.1<0
 ·rw[if_pos h1]at h;simp at h
 rw[if_neg h1]at h⊢;obtain⟨v,a1,a2,a3,a4⟩:=num_back h3 (show 0<=(num s 3).2.1 by omega);rw[a3]at hno;rw[a1,a3]at h⊢
 by_cases h2:(4:Int)<(v:Int)
 ·rw[if_pos h2]at h;simp at h
 rw[if_neg h2]at h⊢;simp only[Int.toNat_natCast]at h⊢
 by_cases h4:(nums s (3+(coded v).length) v).2.1<0
 ·rw[if_pos h4]at h;simp at h
 rw[if_neg h4]at h⊢;have hlo:=nums_ok s (3+(coded v).length) v (by omega);obtain⟨ls,b1,b2,b3,b4,b5⟩:=nums_back (s:=s) (p:=3+(coded v).length) (n:=v) (by omega) (by omega);rw[b4]at hlo;rw[b1,b4]at h⊢;simp only[Int.toNat_natCast]at h⊢;have b0:=num_ok s (3+(coded v).length+(codedAll ls).length) (by omega)
 by_cases h5:(num s (3+(coded v).length+(codedAll ls).length)).2.1<0
 ·rw[if_pos h5]at h;simp at h
 rw[if_neg h5]at h⊢;obtain⟨m,c1,c2,c3,c4⟩:=num_back (s:=s) (p:=3+(coded v).length+(codedAll ls).length) (by omega) (by omega);rw[c3]at b0;rw[c1,c3]at h⊢
 by_cases h6:(m:Int)<1\/200<(m:Int)
 ·rw[if_pos h6]at h;simp at h
 rw[if_neg h6]at h⊢;simp only[Int.toNat_natCast]at h⊢;generalize hr:nodesA s m 0 (3+(coded v).length+(codedAll ls).length+(coded m).length) [] []=r at h⊢
 by_cases h7:0<=r.2.2.2
 ·rw[if_pos h7]at h;simp at h
 rw[if_neg h7]at h⊢;obtain⟨ns,d1,d2,d3,d4⟩:=nodesA_back s m 0 (3+(coded v).length+(codedAll ls).length+(coded m).length) [] [] (by omega) (by rw[hr];omega);rw[hr]at d1 d3;rw[List.nil_append]at d1;rw[d1,d3]at h⊢
 by_cases h8:((3+(coded v).length+(codedAll ls).length+(coded m).length+(allBytes ns).length:Nat):Int)<(s.length:Int)
 ·rw[if_pos h8]at h;simp at h
 rw[if_neg h8]at h⊢
 by_cases h9:0<=shaped ns
 ·rw[if_pos h9]at h;simp at h
 rw[if_neg h9];simp only;unfold encode;rw[if_neg (by omega),if_neg (by rw[b3];simp),if_neg h9];have a0:s.drop (3+(coded v).length+(codedAll ls).length+(coded m).length+(allBytes ns).length)=[]:=List.drop_eq_nil_of_le (by omega);have:headBytes ls ns++allBytes ns=s:=by
  conv=>rhs;rw[hs,a4,b5,c4,d4,a0]
  unfold headBytes;rw[b2,d2];simp[List.append_assoc]
 rw[this]
def encode_decode{ls:List Int}{ns:List Node}(h:(encode ls ns).2.1=true):decode (encode ls ns).1=((ls,ns),true,0)/\(encode ls ns).2.2= -1:=by
 unfold encode at h⊢
 by_cases h1:4<ls.length\/ns.length=0\/200<ns.length
 ·rw[if_pos h1]at h;simp at h
 rw[if_neg h1]at h⊢
 by_cases h2:ls.all inR=false
 ·rw[if_pos h2]at h;simp at h
 rw[if_neg h2]at h⊢
 by_cases h3:0<=shaped ns
 ·rw[if_pos h3]at h;simp at h
 rw[if_neg h3];simp only[and_true]
 have hall:ls.all inR=true:=by simpa using h2
 obtain⟨s,hs⟩:=nmE (headBytes ls ns++allBytes ns);rw[<-hs]
 have hs':s=[70,80,49]++(coded ls.length++(codedAll ls++(coded ns.length++allBytes ns))):=by rw[hs];unfold headBytes;simp[List.append_assoc]
 have e3:s.drop 3=coded ls.length++(codedAll ls++(coded ns.length++allBytes ns)):=by rw[hs'];rfl
 have n3:=num_coded e3 (by omega);have e4:=drop_then e3;have n4:=nums_coded e4 hall;have e5:=drop_then e4;have n5:=num_coded e5 (by omega);have e6:=drop_then e5;have hgood:∀i,i<ns.length->sound (nth ns i)=true/\(prem (nth ns i)).any (λx=>decide (((0+i:Nat):Int)<=x))=false:=by
  intro i hi;have h4:shaped ns<0:=(by omega);refine⟨sound_of_shaped h4 i hi,?_⟩;unfold shaped at h4
  cases hf:(List.range ns.length).find? (bad ns) with
  |some j=>rw[hf]at h4;simp only at h4;omega
  |none=>
   rw[List.find?_eq_none]at hf;have:=hf i (by simpa using hi);simp only[bad,Bool.or_eq_true,not_or,Bool.not_eq_true]at this;rw[Nat.zero_add];exact this.2.1
 obtain⟨st',hn⟩:=nodesA_coded s [] ns 0 _ [] [] (by rw[List.append_nil];exact e6) hgood
 have a0:s.length=3+(coded ls.length).length+(codedAll ls).length+(coded ns.length).length+(allBytes ns).length:=by rw[hs'];simp;omega
 unfold decode;rw[if_neg (by rw[hs',head_coded];omega)];simp only[n3];rw[if_neg (by omega),if_neg (by omega)];simp only[Int.toNat_natCast,n4];rw[if_neg (by omega)];simp only[n5];rw[if_neg (by omega),if_neg (by omega)];simp only[Int.toNat_natCast,hn];rw[if_neg (by omega),if_neg (by rw[a0];omega)];simp only[List.nil_append];rw[if_neg h3]
end Fl
structure zu9(ls:List Int)(x:List Fl.Node):Prop where
 l0:ls.length<=4/\∀y∈ls,0<=y
 x0:0<x.length/\x.length<=200
 ok:∀k,k<x.length->Fl.bad x k=false
def yo4{s:List UInt8}(h:(Fl.decode s).2.1=true):zu9 (Fl.decode s).1.1 (Fl.decode s).1.2:=by
 have h1:=Fl.decode_encode h;generalize (Fl.decode s).1.1=ls at h1⊢;generalize (Fl.decode s).1.2=x at h1⊢;unfold Fl.encode at h1
 split at h1
 ·simp at h1
 rename_i h2
 split at h1
 ·simp at h1
 rename_i h3
 split at h1
 ·simp at h1
 rename_i h4;refine⟨⟨by omega,λy hy=>?_⟩,by omega,λk hk=>?_⟩
 ·have h5:ls.all Fl.inR=true:=by simpa using h3
  have h6:=List.all_eq_true.1 h5 y hy;simp only[Fl.inR,Bool.and_eq_true,decide_eq_true_eq]at h6;exact h6.1
 cases hb:Fl.bad x k with
 |false=>rfl
 |true=>
  exfalso
  refine h4 ?_;unfold Fl.shaped
  cases hf:(List.range x.length).find? (Fl.bad x) with
  |some j=>exact Int.natCast_nonneg j
  |none=>
   have h7:=List.find?_eq_none.1 hf k (List.mem_range.2 hk);exact absurd hb h7
def zs0{x:List Fl.Node}{k:Nat}(h:Fl.bad x k=false):Fl.sound (Fl.nth x k)=true/\∀q∈prem (Fl.nth x k),q<(k:Int):=by
 unfold Fl.bad at h;simp only[Bool.or_eq_false_iff,Bool.not_eq_false']at h;refine⟨by simpa using h.1,λq hq=>?_⟩;have h2:=List.any_eq_false.1 h.2.1 q hq;simpa using h2
def zkz{n:Fl.Node}(h:Fl.sound n=true):(0<=n.kind/\n.kind<=7)/\0<=n.level/\0<=n.a/\0<=n.b/\0<=n.c/\(∀y∈n.list,0<=y)/\n.list.length<=16:=by
 simp only[Fl.sound,Fl.okV,Fl.inR,Bool.and_eq_true,decide_eq_true_eq,List.all_eq_true]at h;obtain⟨h1,h2,h3,h4,h5,h6,h7,h8⟩:=h;refine⟨?_,h2.1,h4.1.1,h5.1.1,h6.1.1,λy hy=>(h7 y hy).1,h3⟩;refine Classical.byContradiction λhn=>h1 ?_;unfold Fl.fields;rw[if_neg (by omega),if_neg (by omega),if_neg (by omega),if_neg (by omega)]
def zu9.idx{ls:List Int}{x:List Fl.Node}(h:zu9 ls x){k:Nat}(hk:k<x.length){q:Int}(hq:q∈prem (Fl.nth x k))(h0:0<=q):zvx x q/\q.toNat<k:=by
 have h1:=(zs0 (h.ok k hk)).2 q hq;exact⟨⟨h0,by omega⟩,by omega⟩
def zu9.xok{ls:List Int}{x:List Fl.Node}(h:zu9 ls x):XOk x:=by
 refine⟨λk hk h2=>?_,λk hk h3=>?_,λk hk h5=>?_,λk hk h6=>?_,λk hk h7 j hj=>?_⟩
 all_goals obtain⟨-,-,s1,s2,s3,s4,-⟩:=zkz (zs0 (h.ok k hk)).1
 ·exact⟨(h.idx hk (by simp[prem,h2]) s2).1,(h.idx hk (by simp[prem,h2]) s3).1⟩
 ·exact(h.idx hk (by rcases h3 with h3|h3<;>simp[prem,h3]) s2).1
 ·exact⟨(h.idx hk (by rcases h5 with h5|h5<;>simp[prem,h5]) s1).1,(h.idx hk (by rcases h5 with h5|h5<;>simp[prem,h5]) s2).1⟩
 ·exact(h.idx hk (by simp[prem,h6]) s3).1
 exact(h.idx hk (by simp[prem,h7,hj]) (s4 j hj)).1
def zu9.ndok{p:Fl.Prog}{ls:List Int}{x:List Fl.Node}(h:zu9 ls x)(k:Nat)(hk:k<x.length)(ha:∀j,j<k->Fl.follows p ls x (Fl.nth x j)=true):NdOk p x (Fl.nth x k):=by
 obtain⟨s0,sl,s1,s2,s3,s4,s5⟩:=zkz (zs0 (h.ok k hk)).1
 have hP:∀q,q∈prem (Fl.nth x k)->0<=q->POk p x q:=λq hq h0=>by
  obtain⟨h1,h2⟩:=h.idx hk hq h0;have h3:=ha q.toNat h2;obtain⟨t0,tl,-⟩:=zkz (zs0 (h.ok q.toNat h1.2)).1;simp only[Fl.follows,Bool.and_eq_true,decide_eq_true_eq]at h3;exact⟨h0,h1.2,tl,h3.1,t0⟩
 refine⟨s0,sl,λ_=>s1,λh2=>?_,λh3=>⟨s1,?_⟩,λh5=>?_,λh6=>?_,λh7=>⟨λj hj=>?_,by omega⟩⟩
 ·exact⟨hP _ (by simp[prem,h2]) s2,hP _ (by simp[prem,h2]) s3⟩
 ·exact hP _ (by rcases h3 with h3|h3<;>simp[prem,h3]) s2
 ·exact⟨hP _ (by rcases h5 with h5|h5<;>simp[prem,h5]) s1,hP _ (by rcases h5 with h5|h5<;>simp[prem,h5]) s2⟩
 ·exact hP _ (by simp[prem,h6]) s3
 exact hP _ (by simp[prem,h7,hj]) (s4 j hj)
def zky{nv nc:Nat}:∀(d:Nat) (l:List Fl.Stmt),Fl.StmtsOk nv nc d l->zx0 d l
 |0,_,_=>trivial
 |d+1,l,h=>λi hi=>by
  have hm:l.getD i noS∈l:=by
   rw[Qa,Qb hi];exact List.getElem_mem hi
  obtain⟨h1,-,h3,h4⟩:=h _ hm;refine⟨?_,zky d _ h3,zky d _ h4⟩;rcases h1 with h1|h1|h1|h1
  ·exact .inl h1.1
  ·exact .inr (.inl h1.1)
  ·exact .inr (.inr (.inl h1))
  exact .inr (.inr (.inr h1.1))
end Go.Proofs.YtminjljgedopkaaGreatDoor
namespace Go.Proofs.YtminjljgedopkaaGreatDoor
open Go.Proofs.Tryz
def Fl.checked(q:Nat×Nat×Fl.Prog)(d:(List Int×List Fl.Node)×Bool×Int):Nat×Int:=
 if q.1≠0 then(q.1,(q.2.1:Int)) else if d.2.1=false then(8,d.2.2) else Fl.check q.2.2 d.1.1 d.1.2
end Go.Proofs.YtminjljgedopkaaGreatDoor
