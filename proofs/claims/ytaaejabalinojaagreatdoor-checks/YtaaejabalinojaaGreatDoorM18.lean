import Derived.Test.YtaaejabalinojaaGreatDoorM14
import Derived.Test.YtaaejabalinojaaGreatDoorM16
import Derived.Test.YtaaejabalinojaaGreatDoorM17
set_option linter.all false
set_option maxRecDepth 100000
set_option maxHeartbeats 40000000
namespace Go.Proofs.YtaaejabalinojaaGreatDoor
open Go.RowKit Go.Proofs.Tryz
def zbw{x:List Fl.Node}{nv:Value}{la:Option Addr}{ll lcp:Nat}(hx:XOk x):∀(d:Nat) (w:World),Yv w.heap.size w nv x->∀(k:Int),Ji x k->∀(v:Value) (l:List Fl.Stmt),Yx d (λb=>b<w.heap.size) w v l->Jv d l->
  Calls prog 20 #[.agg #[.slice la ll lcp,nv],.int .i64 k,v] w λe w'=>e=.returned (.bool (Fl.ofAll d x k l))/\Below w.heap.size w w'
 |0,w,h,k,hk,v,l,hv,_=>by
  obtain⟨rfl,rfl⟩:=hv;obtain⟨j,rfl⟩:∃j:Nat,k=(j:Int):=⟨k.toNat,by have:=hk.1;omega⟩;refine(zf9 (la:=la) (ll:=ll) (lcp:=lcp) hx h (λ_ _=>true) j (by have:=hk.2;omega) [] none 0 (Nat.le_refl _) (by simp) (λi hi=>by simp at hi)).mono ?_;rintro e w' ⟨rfl,hb⟩;refine⟨?_,hb⟩;unfold Fl.ofAll Fl.nd;rw[Int.toNat_natCast]
  congr 3
  by_cases hl:(Fl.nth x j).list=[]
  ·simp[hl]
  have:(Fl.nth x j).list.length≠0:=λh=>hl (Qi h);simp[hl,this]
 |d+1,w,h,k,hk,v,l,hv,hkd=>by
  obtain⟨ao,cap,rfl,h1,-,f0,c0⟩:=hv;obtain⟨j,rfl⟩:∃j:Nat,k=(j:Int):=⟨k.toNat,by have:=hk.1;omega⟩;refine(zf9 (la:=la) (ll:=ll) (lcp:=lcp) hx h (Fl.ofAll d x) j (by have:=hk.2;omega) l ao cap h1 f0 (λi hi=>?_)).mono ?_
  ·obtain⟨sb,e,a0,hc⟩:=c0 (by rintro rfl;simp at hi)
   obtain⟨bv,ov,b0,d0,e0⟩:=hc i hi;obtain⟨k1,k2,k3⟩:=hkd i hi;obtain⟨ba,bn,bc,e2⟩:=d0.slice;obtain⟨oa,on,oc,e3⟩:=e0.slice;have hC:∀(v:Value) (q:List Fl.Stmt),Yx d (λb=>b<w.heap.size) w v q->Jv d q->zo8 w x (.agg #[.slice la ll lcp,nv]) v (λk=>Fl.ofAll d x k q):=λv q h3 h4 W hW k hk=>zbw hx d W ((h.below hW).mono hW.size) k hk v q (h3.kept (λb hb=>Nat.lt_of_lt_of_le hb hW.size) (λb hb=>hW.block b hb) d _ _) h4;have hb:=hC bv _ d0 k2;have ho:=hC ov _ e0 k3;subst e2 e3;exact⟨sb,ba,bn,bc,oa,on,oc,e,⟨⟨a0,b0 0 (by omega)⟩,⟨a0,b0 1 (by omega)⟩,⟨a0,b0 2 (by omega)⟩,⟨a0,b0 3 (by omega)⟩,⟨a0,b0 4 (by omega)⟩,⟨a0,b0 5 (by omega)⟩,⟨a0,b0 6 (by omega)⟩,⟨a0,b0 7 (by omega)⟩,⟨a0,b0 8 (by omega)⟩,⟨a0,b0 9 (by omega)⟩,trivial⟩,k1,hb,ho⟩
  rintro e w' ⟨rfl,hb⟩;refine⟨?_,hb⟩;unfold Fl.ofAll Fl.nd;rw[Int.toNat_natCast]
def zzz.small{ls:List Int}{x:List Fl.Node}(h:zzz ls x)(k:Nat)(hk:k<x.length):(Fl.nth x k).a<2147483648:=by
 have h1:=(zu1 (h.ok k hk)).1;simp only[Fl.sound,Fl.okV,Fl.inR,Bool.and_eq_true,decide_eq_true_eq]at h1;exact h1.2.2.2.1.1.2
def ysz{w:World}{Pb Lq:Nat}{rb:Nat->Nat}{clv hv bv lv nv:Value}{p:Fl.Prog}{ls:List Int}{x:List Fl.Node}(h:Jx w Pb Lq rb clv hv bv lv nv p ls x)(hd:zzz ls x)(H0:Jv 4 p.body)(I0:∀y∈p.cells,y<p.n)(J0:∀y∈p.chans,y<p.n)(hlo:p.locals<=4):
  Calls prog 8 #[.pointer (some ⟨Pb,0,none⟩),.agg #[lv,nv]] w λe w'=>e=.returned (.tuple #[.int .i64 (Fl.check p ls x).1,.int .i64 (Fl.check p ls x).2])/\Below w.heap.size w w':=by
 obtain⟨b,off,cap,rfl,-⟩:=zxx h.no hd.x0.1;obtain⟨la,lcp,rfl,v0,-,K0⟩:=h.li;obtain⟨va,vn,vc,R0⟩:=h.bs.slice
 have L0:Hid (∀W,Below w.heap.size w W->(∀y∈ls,y<(p.n:Int))->∀k,k<x.length->(∀j,j<k->Fl.follows p ls x (Fl.nth x j)=true)->Calls prog 19 #[.pointer (some ⟨Pb,0,none⟩),.agg #[.slice la ls.length lcp,.slice (some ⟨b,off,none⟩) x.length cap],.int .i64 k] W λe w'=>e=.returned (.bool (Fl.follows p ls x (Fl.nth x k)))/\Below W.heap.size W w'):=λW hW r0 k hk ha=>by
  refine zby (h.below hW) k hk (hd.ndok k hk ha) (λy hy=>?_) J0 (hd.small k hk);unfold Fl.vars at hy;rcases List.mem_append.1 hy with h1|h1
  ·obtain⟨z,hz,rfl⟩:=List.mem_map.1 h1
   have:=I0 z hz;omega
  exact⟨hd.l0.2 y h1,r0 y h1⟩
 have y0:Hid (∀W,Below w.heap.size w W->Calls prog 20 #[.agg #[.slice la ls.length lcp,.slice (some ⟨b,off,none⟩) x.length cap],.int .i64 ((x.length:Int) - 1),bv] W λe w'=>e=.returned (.bool (Fl.ofAll 4 x ((x.length:Int) - 1) p.body))/\Below W.heap.size W w'):=λW hW=>by
  have h1:=h.below hW;exact zbw hd.xok 4 W h1.no _ ⟨by have:=hd.x0.1;omega,by have:=hd.x0.1;omega⟩ bv p.body h1.bs H0
 have hz:=h.hz;have p0:=h.p0;have p4:=h.p4;have p5:=h.p5
 have d1:(ls.length:Int)<=4:=by have:=hd.l0.1;omega
 have e1:(x.length:Int)<=200:=by have:=hd.x0.2;omega
 have g1:(0:Int)<(x.length:Int):=by have:=hd.x0.1;omega
 have i1:(p.locals:Int)<=4:=by omega
 have z0:Hid (∀i,i<ls.length->∃cb co,la=some ⟨cb,co,none⟩/\cb<w.heap.size/\w.cell? ⟨cb,co+i,none⟩=some (.int .i64 (ls.getD i 0))):=λi hi=>by
  obtain⟨cb,co,e,e2,e3⟩:=K0 (by rintro rfl;simp at hi);exact⟨cb,co,e,e2,e3 i hi⟩
 have S0:(ls.length:Int)<=(lcp:Int):=by omega
 have A0:Hid (ls.length≠p.locals->Fl.check p ls x=(10,-1)):=λhh=>by unfold Fl.check;rw[if_pos (.inl hh)]
 have s0:Hid (∀i,i<ls.length->(p.n:Int)<=ls.getD i 0->Fl.check p ls x=(10,-1)):=λi hi hh=>by
  have ha:(ls.any λv=>decide ((p.n:Int)<=v))=true:=by
   rw[List.any_eq_true];refine⟨ls[i],List.getElem_mem hi,?_⟩;rw[Qa,Qb hi]at hh;simpa using hh
  unfold Fl.check;rw[if_pos (.inr ha)]
 have B0:Hid (ls.length=p.locals->(∀i,i<ls.length->ls.getD i 0<(p.n:Int))->(∀y∈ls,y<(p.n:Int))/\Fl.check p ls x=match (List.range x.length).find? (λk=> !Fl.follows p ls x (Fl.nth x k)) with|some k=>(9,(k:Int))|none=>if Fl.ofAll 4 x ((x.length:Int) - 1) p.body then(0,-1) else(10,-1)):=λh1 h2=>by
  have h3:∀y∈ls,y<(p.n:Int):=λy hy=>by
   obtain⟨i,hi,rfl⟩:=List.getElem_of_mem hy;have:=h2 i hi;rw[Qa,Qb hi]at this;exact this
  refine⟨h3,?_⟩;have hn:¬(ls.length≠p.locals\/(ls.any λv=>decide ((p.n:Int)<=v))=true):=by
   rintro(h4|h4)
   ·exact h4 h1
   obtain⟨y,hy,h5⟩:=List.any_eq_true.1 h4;have:=h3 y hy;simp at h5;omega
  show (if _ then _ else _)=_;rw[if_neg hn];rfl
 obtain⟨res,m0⟩:=nmE (Fl.check p ls x);rw[<-m0]at A0 s0 B0⊢;subst R0;have C0:=Zz p0;have D0:=Zz p5;clear h hd H0 I0 J0 hlo K0 v0 m0;have E0:Hid (∀o,Below w.heap.size w (w.alloc o).drew):=λo=>(bA).drew
 go_enter func8,ntmps8
 go_wp2_with fail
 by_cases t0:ls.length=p.locals
 rotate_left
 ·have bl:((ls.length:Int) !=(p.locals:Int))=true:=by rw[bne_iff_ne];omega
  have HR:Hid (res=(10,-1)):=A0.out t0;clear t0 C0 D0;refine Yz [] (by kernel_rfl) (by kernel_rfl) rfl (λops hG=>?_);clear hG
  iterate 8 still_step
  refine wpStill_nil ?_;go_wp2;refine bodyPost_ret (v:=.tuple #[.int .i64 10,.int .i64 (-1)]) (by simp[results,results8,go_sem]) rfl ?_;rw[HR.out];exact⟨rfl,E0.out _⟩
 have bl:((ls.length:Int) !=(p.locals:Int))=false:=by simp;omega
 have F0:Hid _:=B0.out t0;clear t0;refine Yz [] (by kernel_rfl) (by kernel_rfl) rfl (λops hG=>?_);clear hG
 iterate 8 still_step
 refine wpStill_nil ?_
 go_wp2_with fail
 obtain⟨W0,e0⟩:=nmE ((w.alloc (.cells #[.slice la ls.length lcp,.slice (some ⟨b,off,none⟩) x.length cap] 33)).drew)
 have j0:Hid (Below w.heap.size w W0):=by show Below _ _ _;rw[e0];exact E0.out _
 have M0:Hid (At W0 [(⟨w.heap.size,0,none⟩,.slice la ls.length lcp),(⟨w.heap.size,1,none⟩,.slice (some ⟨b,off,none⟩) x.length cap),(⟨Pb,0,none⟩,.int .i64 (p.n:Int)),(⟨Pb,5,none⟩,.slice va vn vc)]):=⟨⟨by rw[e0];simp,by rw[e0];simp⟩,⟨by rw[e0];simp,by rw[e0];simp⟩,⟨by have:=j0.out.size;show Pb<_;omega,(j0.out.cell (p:=⟨Pb,0,none⟩) hz).trans C0.out⟩,⟨by have:=j0.out.size;show Pb<_;omega,(j0.out.cell (p:=⟨Pb,5,none⟩) hz).trans D0.out⟩,trivial⟩;rw[<-e0];clear e0 E0 p0 p4 p5 C0 D0 A0 B0 bl hz
 go_loopw [6] (λi wr=>Below w.heap.size w wr/\At wr [(⟨w.heap.size,0,none⟩,.slice la ls.length lcp),(⟨w.heap.size,1,none⟩,.slice (some ⟨b,off,none⟩) x.length cap),(⟨Pb,0,none⟩,.int .i64 (p.n:Int)),(⟨Pb,5,none⟩,.slice va vn vc)]/\∃j:Nat,j<=ls.length/\i=.int .i64 j/\∀q,q<j->ls.getD q 0<(p.n:Int)) (λi _=>ls.length - (intOf i).toNat)
 case atStart=>exact⟨j0.out,M0.out,0,by omega,rfl,λq hq=>by omega⟩
 case round=>
  obtain⟨hB,n0,i,hi,rfl,hall⟩:=hrel;have HB:=Zz hB;have k0:=Zz n0;have a0:=Zz hall;clear hB n0 hall j0 M0
  by_cases o0:i<ls.length
  ·obtain⟨cb,co,rfl,T0,k1⟩:=z0.out i o0
   have U0:(i:Int)<(ls.length:Int):=(by omega);obtain⟨⟨-,f0⟩,-,⟨-,f2⟩,-⟩:=k0.out;have k2:=(HB.out.cell (p:=⟨cb,co+i,none⟩) T0).trans k1;obtain⟨y,hy⟩:=nmE (ls.getD i 0);have V0:Hid ((p.n:Int)<=y->res=(10,-1)):=λhh=>s0.out i o0 (by rw[<-hy];exact hh)
   have u0:Hid (y<(p.n:Int)->∀q,q<i+1->ls.getD q 0<(p.n:Int)):=λh0 q hq=>by
    by_cases X0:q=i
    ·rw[X0,<-hy];exact h0
    exact a0.out q (by omega)
   rw[<-hy]at k2;have Y0:Hid (At wr.drew _):=k0.out.below (Below.refl _ _).drew;clear k1 hy a0 F0 k0 z0 s0
   go_wp2_with fail
   by_cases Z0:y<(p.n:Int)
   ·have HR:Hid _:=u0.out Z0
    refine Yz [] (by kernel_rfl) (by kernel_rfl) rfl (λops hG=>?_);clear hG
    iterate 10 still_step
    refine wpStill_nil ?_;go_wp2
    go_roundw
    case rel=>exact⟨HB.out.drew,Y0.out,i+1,by omega,by go_num,HR.out⟩
    case measure=>simp[intOf];omega
   have HR:Hid (res=(10,-1)):=V0.out (by omega);refine Yz [] (by kernel_rfl) (by kernel_rfl) rfl (λops hG=>?_);clear hG
   iterate 10 still_step
   refine wpStill_nil ?_;go_wp2;refine bodyPost_ret (v:=.tuple #[.int .i64 10,.int .i64 (-1)]) (by simp[results,results8,go_sem]) rfl ?_;rw[HR.out];exact⟨rfl,HB.out.drew⟩
  have U0:¬(i:Int)<(ls.length:Int):=(by omega);obtain⟨r0,hE⟩:=F0.out λq hq=>a0.out q (by omega);have N0:=Zz r0
  have b0:Hid (∀k,k<x.length->(∀j,j<k->Fl.follows p ls x (Fl.nth x j)=true)->Fl.follows p ls x (Fl.nth x k)=false->res=(9,(k:Int))):=λk hk ha h0=>by
   rw[hE,Fl.find_first _ _ k (λj hj=>by rw[ha j hj];rfl) hk (by rw[h0];rfl)]
  have d0:Hid ((∀j,j<x.length->Fl.follows p ls x (Fl.nth x j)=true)->res=if Fl.ofAll 4 x ((x.length:Int) - 1) p.body then(0,-1) else(10,-1)):=λha=>by
   rw[hE,Fl.find_none _ _ (λj hj=>by rw[ha j hj];rfl)]
  obtain⟨⟨-,f0⟩,⟨-,f1⟩,-⟩:=k0.out;clear r0 hE F0 a0 s0 z0
  go_wp2_with fail
  obtain⟨wo,a1⟩:=nmE (wr);subst a1
  go_loopw [7] (λi wr=>Below w.heap.size w wr/\At wr [(⟨w.heap.size,0,none⟩,.slice la ls.length lcp),(⟨w.heap.size,1,none⟩,.slice (some ⟨b,off,none⟩) x.length cap),(⟨Pb,0,none⟩,.int .i64 (p.n:Int)),(⟨Pb,5,none⟩,.slice va vn vc)]/\∃j:Nat,j<=x.length/\i=.int .i64 j/\∀q,q<j->Fl.follows p ls x (Fl.nth x q)=true) (λi _=>x.length - (intOf i).toNat)
  case atStart=>exact⟨HB.out,k0.out,0,by omega,rfl,λq hq=>by omega⟩
  case round=>
   obtain⟨hB,n0,k,hk,rfl,hall⟩:=hrel;have g0:=Zz hB;have c0:=Zz n0;have a0:=Zz hall;clear hB n0 hall HB k0 f0 f1;obtain⟨⟨-,f0⟩,⟨-,f1⟩,-⟩:=c0.out
   by_cases o0:k<x.length
   ·have b1:(k:Int)<(x.length:Int):=by omega
    have HC:Hid (Calls prog 19 #[.pointer (some ⟨Pb,0,none⟩),.agg #[.slice la ls.length lcp,.slice (some ⟨b,off,none⟩) x.length cap],.int .i64 k] wr λe w'=>e=.returned (.bool (Fl.follows p ls x (Fl.nth x k)))/\Below wr.heap.size wr w'):=L0.out wr g0.out N0.out k o0 a0.out;have O0:Hid (Fl.follows p ls x (Fl.nth x k)=false->res=(9,(k:Int))):=λh0=>b0.out k o0 a0.out h0
    have u0:Hid (Fl.follows p ls x (Fl.nth x k)=true->∀q,q<k+1->Fl.follows p ls x (Fl.nth x q)=true):=λh0 q hq=>by
     by_cases c1:q=k
     ·rw[c1];exact h0
     exact a0.out q (by omega)
    generalize Fl.follows p ls x (Fl.nth x k)=fk at HC O0 u0
    go_wp2_with fail
    refine HC.out.mono ?_;rintro e w1 ⟨rfl,i0⟩;have q0:Hid (Below w.heap.size w w1):=g0.out.trans (i0.mono g0.out.size);have G0:Hid (At w1 [(⟨w.heap.size,0,none⟩,.slice la ls.length lcp),(⟨w.heap.size,1,none⟩,.slice (some ⟨b,off,none⟩) x.length cap),(⟨Pb,0,none⟩,.int .i64 (p.n:Int)),(⟨Pb,5,none⟩,.slice va vn vc)]):=c0.out.below i0;clear i0 HC f0 f1
    cases fk
    ·have HR:Hid (res=(9,(k:Int))):=O0.out rfl
     go_wp2;refine bodyPost_ret (v:=.tuple #[.int .i64 9,.int .i64 (k:Int)]) (by simp[results,results8,go_sem]) rfl ?_;rw[HR.out];exact⟨rfl,q0.out⟩
    have HR:Hid _:=u0.out rfl;go_wp2
    go_roundw
    case rel=>exact⟨q0.out,G0.out,k+1,by omega,by go_num,HR.out⟩
    case measure=>simp[intOf];omega
   have b1:¬(k:Int)<(x.length:Int):=(by omega);have hE:=d0.out λj hj=>a0.out j (by omega);obtain⟨sm,P0⟩:∃v,v=Fl.ofAll 4 x ((x.length:Int) - 1) p.body:=⟨_,rfl⟩;rw[<-P0]at hE y0;have Q0:=Zz hE;have HS:Hid (∀W,Below wr.heap.size wr W->At W [(⟨w.heap.size,0,none⟩,.slice la ls.length lcp),(⟨w.heap.size,1,none⟩,.slice (some ⟨b,off,none⟩) x.length cap),(⟨Pb,0,none⟩,.int .i64 (p.n:Int)),(⟨Pb,5,none⟩,.slice va vn vc)]):=λW hW=>c0.out.below hW;clear hE P0 b0 d0 a0 L0 N0 c0
   go_wp2_with fail
   refine Zn HS ((Below.refl _ _).drew) [9] [] [] (by kernel_rfl) (λc a d v w h=>by cases d<;>exact h) (λops hG=>?_);clear hG f0 f1
   iterate 9 refine Zw rfl (by rintro _ ⟨⟨-,_⟩,⟨-,_⟩,⟨-,_⟩,⟨-,_⟩,-⟩;go_simp<;>rfl) (by go_simp<;>rfl) ?_
   refine Zk ?_
   go_wp2_with fail
   refine(y0.out _ g0.out.drew).mono ?_;rintro e w1 ⟨rfl,i0⟩;have q0:Hid (Below w.heap.size w w1):=g0.out.trans ((show Below wr.heap.size wr w1 from((Below.refl _ _).drew).trans i0).mono g0.out.size);have G0:Hid (At w1 [(⟨w.heap.size,0,none⟩,.slice la ls.length lcp),(⟨w.heap.size,1,none⟩,.slice (some ⟨b,off,none⟩) x.length cap),(⟨Pb,0,none⟩,.int .i64 (p.n:Int)),(⟨Pb,5,none⟩,.slice va vn vc)]):=HS.out _ (((Below.refl _ _).drew).trans i0);clear i0 y0 g0 HS
   go_wp2_with fail
   refine⟨G0.out,?_⟩;refine Zw rfl (by rintro _ -;go_simp<;>rfl) (by go_simp<;>rfl) ?_;refine Zs ?_
   cases sm
   ·have HR:=Zz Q0.out
    go_wp2;refine bodyPost_ret (v:=.tuple #[.int .i64 10,.int .i64 (-1)]) (by simp[results,results8,go_sem]) rfl ?_;rw[HR.out];exact⟨rfl,q0.out⟩
   have HR:=Zz Q0.out;go_wp2;refine bodyPost_ret (v:=.tuple #[.int .i64 0,.int .i64 (-1)]) (by simp[results,results8,go_sem]) rfl ?_;rw[HR.out];exact⟨rfl,q0.out⟩
end Go.Proofs.YtaaejabalinojaaGreatDoor
