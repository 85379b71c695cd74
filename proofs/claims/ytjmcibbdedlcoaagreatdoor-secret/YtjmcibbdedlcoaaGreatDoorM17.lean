import Derived.Test.YtjmcibbdedlcoaaGreatDoorM06
import Derived.Test.YtjmcibbdedlcoaaGreatDoorM16
import Derived.Deep.MidRow
set_option linter.all false
set_option maxRecDepth 100000
set_option maxHeartbeats 40000000
namespace Go.Proofs.YtjmcibbdedlcoaaGreatDoor
open Go.RowKit Go.Proofs.Tryz List World Region Value Act Fl
variable{lo base Rb Pb t n i j g cap k:Nat}{w0 w w' W:World}{r:RS}{e:TypeId}{xs z cs:Vs}{x:Value}{f:Fl.Frame}{fs:List Fl.Frame}{P:Program}{ops:Array Oper}{Q:Exit->Act->World->Prop}{a:Act}
def Yh(lo base Rb Pb:Nat)(w0:World)(fl:List FlS)(t:Nat)(aX:Nat×RS)(e:Ending)(w':World):Prop:=
 e=.returned (I aX.1)/\(aX.1=0->∃m',Zt lo base Rb Pb w0 w' m'/\Zk aX.2 fl (t+1) m')/\(aX.1≠0->Below lo w0 w')
section
variable{m:Yo}{fl:List FlS}
def Zk.later(h:Zk r fl t m):Zk r fl (t+1) m:={h with lw:=by have:=h.lw;omega,ft:=by have:=h.ft;omega}
def Zk.ni(h:Zk r fl t m)(x:K)(v:Value)(hx:x.length<=100000)(hl:r.au.length<6)(a0:r.ae=false):Zk {r with au:=r.au++[x]} fl t (m.app 1 v [strV x]):=
 {
  r1:=⟨by show m.n 1+1=_;rw[h.r1.1];simp,by show m.xs 1++_=_;rw[h.r1.2];simp⟩,r2:=h.r2,r3:=h.r3,r4:=h.r4,r5:=h.r5,r6:=h.r6,r8:=h.r8,gw:=h.gw,jX:=h.jX,jG:=h.jG,bg:=h.bg,st:=h.st,nm:=λy hy=>by
   simp only[mem_append,mem_singleton]at hy;rcases hy with(h1|rfl)|h1|h1|h1
   ·exact h.nm y (by simp[h1])
   ·exact hx
   ·exact h.nm y (by simp[h1])
   ·exact h.nm y (by simp[h1])
   exact h.nm y (by simp[h1])
  lv:=by simp;omega,ce:=h.ce,ch:=h.ch,lo:=h.lo,sm:=h.sm,fr:=h.fr,lw:=h.lw,ft:=h.ft,pr:=h.pr,bw:=⟨λy hy=>by have:=h.bw.1 y hy;simp;omega,λy hy=>by have:=h.bw.2 y hy;simp;omega⟩,cl:=h.cl,hl:=h.hl,lt:=λhh=>absurd (a0.symm.trans hh) (by simp)}
def yk2(h:Zt lo base Rb Pb w0 w m)(hr:Zk r fl t m)(G0:O (r.ae=false))(b off cap:Nat)(k n:K)(H0:n.length<=100000)(hb:b<w.heap.size)(y0:b≠Rb/\∀j,Zr j->(m.v j).ownBlock≠some b)(I0:2<=cap/\cap<=maxLen)(c0:w.cell? (Y b off)=some (.string ⟨#[108,101,118,101,108]⟩))(c1:w.cell? (Y b (off+1))=some (Tq n)):
  F 22 #[M Rb,Sq b off 2 cap] w (Yh lo base Rb Pb w0 fl t (r.head [k,n])):=by
 have bP:=h.bP
 have A0:Rb<w.heap.size:=by omega
 have HH:=A h;have HO:=A hr;have o0:O (∀W,E w W->F 21 #[m.v 1,Tq n] W (Rq (I (ai r.au n)) W)):=λW hW=>Xl ((h.below hW).au hr) n;obtain⟨d1,k1,d0⟩:=h.shape 1 (by unfold Zr;omega);rw[hr.r1.1]at d0;have p0:=A d0;rw[d0]at o0;have f0:O (∀W,E w W->D W Rb 1 (J d1 r.au.length k1)/\D W b (off+1) (Tq n)):=λW hW=>⟨cT hW A0 (by rw[<-d0];exact h.cR.c 1 (by omega)),cT hW hb c1⟩
 have B0:O (∀W,E w W->W.ownsRow base 9 1 (J d1 r.au.length k1) r.au.length (r.au.map strV)):=λW hW=>by
  have h1:=(h.below hW).own 1 (by unfold Zr;omega);rw[hr.r1.1,hr.r1.2,d0]at h1;exact h1
 have a0:O (r.head [k,n]=if 0<=ai r.au n then(4,r) else if r.au.length=6 then(5,r) else(0,{r with au:=r.au++[n]})):=rfl;obtain⟨aX,j0⟩:=U (r.head [k,n]);rw[<-j0]at a0⊢;have Q0:=aO r.au n;have R0:=hr.lv;generalize ai r.au n=pc at*
 have C0:(2:Int)<=(cap:Int):=by omega
 have J0: -1<=pc/\pc<=6:=by omega
 have K0:(r.au.length:Int)<=6:=by omega
 have D0:O ((J d1 r.au.length k1).ownBlock≠some b):=by rw[<-d0];exact y0.2 1 (by unfold Zr;omega)
 clear h hr j0 d0 c1 y0
 go_enter func22,ntmps22
 go_wp2_with fail
 refine Zb (λW=>E w W) [7] [] [] dA (by kernel_rfl) (λ_ _ _ _ h=>h) (λops hG=>?_);clear hG
 iterate 7 refine Xj rfl (kE (by intro w' hw';obtain⟨x0,x1⟩:=f0 w' hw';clear hw';go_simp<;>rfl) (by go_simp<;>rfl) ?_)
 refine Zs ?_
 go_wp2_with fail
 refine(o0 _ dA).mono ?_;rintro _ _ ⟨rfl,rfl⟩
 go_wp2_with fail
 refine⟨dA,?_⟩;refine Zv rfl (by rintro _ -;go_simp<;>rfl) (by go_simp<;>rfl) ?_;refine Zu ?_;have x1:=(f0 w.drew dA).1;have x2:=(f0 w.drew dA).2
 by_cases hp:0<=pc
 ·have HE:O (Yh lo base Rb Pb w0 fl t aX (.returned (I 4)) w.drew):=by
   show Yh _ _ _ _ _ _ _ _ _ _;rw[a0.out,G hp];exact⟨rfl,λh=>(by cases h),λ_=>HH.drew.bel⟩
  go_wp2;go_ret;exact HE
 have S0:pc<0:=by omega
 by_cases h6:r.au.length=6
 ·have b6:((r.au.length:Int)==6)=true:=by simp[h6]
  have HE:O (Yh lo base Rb Pb w0 fl t aX (.returned (I 5)) w.drew):=by
   show Yh _ _ _ _ _ _ _ _ _ _;rw[a0.out,Z hp,G h6];exact⟨rfl,λh=>(by cases h),λ_=>HH.drew.bel⟩
  clear h6 hp;go_wp2;go_ret;exact HE
 have b6:((r.au.length:Int)==6)=false:=by simp;omega
 have HR:O (aX=(0,{r with au:=r.au++[n]})):=by show _=_;rw[a0.out,Z hp,Z h6]
 have L0:r.au.length<6:=by omega
 clear h6 hp
 go_wp2_with fail
 refine Zb (λW=>D W Rb 1 (J d1 r.au.length k1)/\D W b (off+1) (Tq n)) [8,9,10] [12] [] ⟨x1,x2⟩ (by kernel_rfl) (λ_ _ _ _ h=>h) (λops hG=>?_);clear hG
 iterate 8 refine Zv rfl (by intros;go_simp<;>rfl) (by go_simp<;>rfl) ?_
 refine Zs ?_
 go_wp2_with fail
 obtain⟨W3,h0⟩:=U ((w.alloc (.cells #[Tq n] 9)).drew.drew);obtain⟨tb,q0⟩:=U (w.heap.size)
 have k0:E w W3:=by rw[h0];exact(bA).drew.drew
 have T0:w.heap.size+1=W3.heap.size:=by rw[h0];simp
 have t0:∀i u,([Tq n]:Vs)[i]?=some u->W3.cell? (((Y tb 0):Addr).add i)=some u:=by rw[h0,q0];exact Xw
 have e0:D W3 Rb 1 (J d1 r.au.length k1):=(f0 W3 k0).1;have e1:D W3 b (off+1) (Tq n):=(f0 W3 k0).2;have r0:O (W3.ownsRow base 9 1 (J d1 r.au.length k1) r.au.length (r.au.map strV)):=B0 W3 k0;have s0:=A k0
 first|rw[<-h0,<-q0]|rw[<-h0]
 clear h0 q0 k0 x1 x2 B0 f0 o0;refine⟨⟨e0,e1⟩,?_⟩;refine Zs ?_;obtain⟨i0,M0,N0,O0,P0⟩:=info_parts Tryz.infoStr
 go_wp2_with (at_builtin;refine Ap underlying49 M0 N0 O0 P0 rfl r0 rfl [Tq n] rfl rfl t0 ?c2 ?c3 ?c4 ?c5 ?_)
 case c2=>intro u hu;simp at hu;subst hu;rfl
 case c3=>unfold maxLen;omega
 case c4=>omega
 case c5=>omega
 intro v' W4 b0 n0 l0;obtain⟨va,vcap,rfl⟩:∃va vcap,v'=J va (r.au.length+1) vcap:=by
  rcases b0.2 with⟨h1,h2⟩|⟨g,cp,cur,h1,_⟩
  ·omega
  exact⟨_,cp,h1⟩
 have m0:∀k,(J d1 r.au.length k1).ownBlock=some k->base<=k/\k<w.heap.size+1:=λk hk=>by have:=r0.lt k hk;omega
 have u0:W4.heap[Rb]?=W3.heap[Rb]?:=n0.block Rb (by omega) (λhh=>by have:=(m0 Rb hh.symm).1;omega);have F0:W4.heap[b]?=W3.heap[b]?:=n0.block b (by omega) (λhh=>D0 hh.symm);have g0:D W4 Rb 1 (J d1 r.au.length k1):=cQ u0 e0;have g1:D W4 b (off+1) (Tq n):=cQ F0 e1;have gz:W4.frozen? (Y Rb 1)=false:=fQ u0 ((s0.frozen (p:=(Y Rb 1)) A0).trans (HH.cR.z 1));have v0:O (Yh lo base Rb Pb w0 fl t aX (.returned (I 0)) (W4.setCell (Y Rb 1) (J va (r.au.length+1) vcap))):=by
  show Yh _ _ _ _ _ _ _ _ _ _;rw[HR.out];refine⟨rfl,λ_=>⟨_,HH.kA 1 (by unfold Zr;omega) (by omega) s0 (v':=J va (r.au.length+1) vcap) (news:=[Tq n]) ?_ ?_ ?_,(HO.ni n _ H0 L0 G0).later⟩,λhh=>absurd rfl hh⟩
  ·rw[HO.r1.1,HO.r1.2];exact b0
  ·rw[p0.out];exact n0
  rw[p0.out];exact l0
 clear b0 n0 l0 u0 F0 e0 e1 t0 r0 s0 m0 p0 HH HO HR a0 D0
 go_wp2_with fail
 refine⟨⟨g0,g1⟩,?_⟩;refine Zs ?_
 go_wp2_with fail
 refine⟨⟨g0,g1⟩,?_⟩;refine Zv rfl (by intros;go_simp<;>rfl) (by go_simp<;>rfl) ?_;refine Xs ?_
 go_wp2_with fail
 refine Zu ?_;go_wp2;go_ret;exact v0
end
section
variable{m:Yo}{fl:List FlS}
def Zk.nh(h:Zk r fl t m)(x y:Nat)(v v':Value)(hx:x<r.au.length)(hy:y<r.au.length)(a0:r.ae=false):Zk {r with aI:=r.aI++[x],aF:=r.aF++[y]} fl (t+1) ((m.app 5 v [I (x:Int)]).app 6 v' [I (y:Int)]):=
 {
  r1:=h.r1,r2:=h.r2,r3:=h.r3,r4:=h.r4,r5:=⟨by show m.n 5+1=_;rw[h.r5.1];simp,by show m.xs 5++_=_;rw[h.r5.2];simp[Ym]⟩,r6:=⟨by show m.n 6+1=_;rw[h.r6.1];simp,by show m.xs 6++_=_;rw[h.r6.2];simp[Ym]⟩,r8:=h.r8,gw:=h.gw,jX:=h.jX,jG:=h.jG,bg:=h.bg,st:=h.st,nm:=h.nm,lv:=h.lv,ce:=h.ce,ch:=h.ch,lo:=h.lo,sm:=h.sm,fr:=h.fr,lw:=by have:=h.lw;simp;omega,ft:=by have:=h.ft;omega,pr:=by have:=h.pr;simp;omega,bw:=⟨λz hz=>by
    simp only[mem_append,mem_singleton]at hz;rcases hz with h1|rfl
    ·exact h.bw.1 z h1
    ·exact hx,λz hz=>by
    simp only[mem_append,mem_singleton]at hz;rcases hz with h1|rfl
    ·exact h.bw.2 z h1
    exact hy⟩,cl:=h.cl,hl:=h.hl,lt:=λhh=>absurd (a0.symm.trans hh) (by simp)}
def yk3(h:Zt lo base Rb Pb w0 w m)(hr:Zk r fl t m)(R0:O (r.ae=false))(ht:t<=1000000)(b off cap:Nat)(n l:K)(hb:b<w.heap.size)(S0:b≠Rb/\∀j,Zr j->(m.v j).ownBlock≠some b)(T0:3<=cap/\cap<=maxLen)(c0:w.cell? (Y b off)=some (.string ⟨#[98,101,108,111,119]⟩))(c1:w.cell? (Y b (off+1))=some (Tq n))(c2:w.cell? (Y b (off+2))=some (Tq l)):
  F 22 #[M Rb,Sq b off 3 cap] w (Yh lo base Rb Pb w0 fl t (r.head [bO,n,l])):=by
 have bP:=h.bP
 have f0:Rb<w.heap.size:=by omega
 have HH:=A h;have HO:=A hr;have v0:O (∀W,E w W->F 21 #[m.v 1,Tq n] W (Rq (I (ai r.au n)) W)):=λW hW=>Xl ((h.below hW).au hr) n;have y0:O (∀W,E w W->F 21 #[m.v 1,Tq l] W (Rq (I (ai r.au l)) W)):=λW hW=>Xl ((h.below hW).au hr) l;obtain⟨d1,k1,r0⟩:=h.shape 1 (by unfold Zr;omega);rw[hr.r1.1]at r0;rw[r0]at v0 y0;obtain⟨d5,k5,j0⟩:=h.shape 5 (by unfold Zr;omega);rw[hr.r5.1]at j0;obtain⟨d6,k6,z0⟩:=h.shape 6 (by unfold Zr;omega);rw[hr.r6.1]at z0;have A0:=A j0;have k0:=A z0;have B0:O (∀W,E w W->D W Rb 1 (J d1 r.au.length k1)/\D W b (off+1) (Tq n)/\D W b (off+2) (Tq l)):=λW hW=>⟨cT hW f0 (by rw[<-r0];exact h.cR.c 1 (by omega)),cT hW hb c1,cT hW hb c2⟩
 have C0:O (∀W,E w W->W.ownsRow base 3 1 (J d5 r.aI.length k5) r.aI.length (Ym r.aI)/\D W Rb 5 (J d5 r.aI.length k5)):=λW hW=>by
  have h1:=(h.below hW).own 5 (by unfold Zr;omega);rw[hr.r5.1,hr.r5.2,j0]at h1;exact⟨h1,cT hW f0 (by rw[<-j0];exact h.cR.c 5 (by omega))⟩
 have a0:O (r.head [bO,n,l]=if ai r.au n<0\/ai r.au l<0 then(4,r) else(0,{r with aI:=r.aI++[(ai r.au n).toNat],aF:=r.aF++[(ai r.au l).toNat]})):=by show _=_;simp[RS.head]
 obtain⟨aX,l0⟩:=U (r.head [bO,n,l]);rw[<-l0]at a0⊢;have a1:=aO r.au n;have b1:=aO r.au l;have f1:=hr.lv;have g1:=hr.lw;have J0:=hr.pr;generalize ai r.au n=pc at*;generalize ai r.au l=pd at*
 have K0:(3:Int)<=(cap:Int):=by omega
 have U0: -1<=pc/\pc<=6:=by omega
 have V0: -1<=pd/\pd<=6:=by omega
 have W0:(r.au.length:Int)<=6:=by omega
 have X0:pc<r.au.length:=by omega
 have Y0:pd<r.au.length:=by omega
 have i1:=A J0
 have j1:r.aF.length<=t:=by omega
 clear h hr l0 r0 j0 z0 c1 c2 S0 J0
 go_enter func22,ntmps22
 go_wp2_with fail
 refine Zb (λW=>E w W) [7] [] [] dA (by kernel_rfl) (λ_ _ _ _ h=>h) (λops hG=>?_);clear hG
 iterate 7 refine Xj rfl (kE (by intro w' hw';obtain⟨x0,x1,x2⟩:=B0 w' hw';clear hw';go_simp<;>rfl) (by go_simp<;>rfl) ?_)
 refine Zs ?_
 go_wp2_with fail
 refine(v0 _ dA).mono ?_;rintro _ _ ⟨rfl,rfl⟩
 go_wp2_with fail
 refine⟨dA,?_⟩;refine Zv rfl (by rintro _ -;go_simp<;>rfl) (by go_simp<;>rfl) ?_;refine Zu ?_
 go_wp2_with fail
 refine Zb (λW=>E w W) [7] [] [] dA.drew (by kernel_rfl) (λ_ _ _ _ h=>h) (λops hG=>?_);clear hG
 iterate 7 refine Xj rfl (kE (by intro w' hw';obtain⟨x0,x1,x2⟩:=B0 w' hw';clear hw';go_simp<;>rfl) (by go_simp<;>rfl) ?_)
 refine Zs ?_
 go_wp2_with fail
 refine(y0 _ dA.drew).mono ?_;rintro _ _ ⟨rfl,rfl⟩
 go_wp2_with fail
 refine⟨dA.drew,?_⟩;refine Zv rfl (by rintro _ -;go_simp<;>rfl) (by go_simp<;>rfl) ?_;refine Zu ?_
 by_cases hp:pc<0
 ·have HE:O (Yh lo base Rb Pb w0 fl t aX (.returned (I 4)) w.drew.drew):=by
   show Yh _ _ _ _ _ _ _ _ _ _;rw[a0.out,G (.inl hp)];exact⟨rfl,λh=>(by cases h),λ_=>HH.drew.drew.bel⟩
  go_wp2;go_ret;exact HE
 have l1:0<=pc:=by omega
 clear hp
 by_cases hq:pd<0
 ·have HE:O (Yh lo base Rb Pb w0 fl t aX (.returned (I 4)) w.drew.drew):=by
   show Yh _ _ _ _ _ _ _ _ _ _;rw[a0.out,G (.inr hq)];exact⟨rfl,λh=>(by cases h),λ_=>HH.drew.drew.bel⟩
  go_wp2;go_ret;exact HE
 have m1:0<=pd:=by omega
 clear hq
 have HR:O (aX=(0,{r with aI:=r.aI++[pc.toNat],aF:=r.aF++[pd.toNat]})):=by show _=_;rw[a0.out,Z (by omega)]
 have x5:=(C0 w.drew.drew dA.drew).2;have D0:E w (w.alloc (.cells #[I pc] 3)).drew.drew:=(bA).drew.drew;have h0:=A D0;have E0:O ((w.alloc (.cells #[I pc] 3)).drew.drew.ownsRow base 3 1 (J d5 r.aI.length k5) r.aI.length (Ym r.aI)):=(C0 _ D0).1;have L0:O (∀i u,([I pc]:Vs)[i]?=some u->(w.alloc (.cells #[I pc] 3)).drew.drew.cell? (((Y w.heap.size 0):Addr).add i)=some u):=Xw;clear v0 y0 B0 a0 C0 D0;obtain⟨i0,M0,N0,O0,P0⟩:=info_parts Tryz.infoIntP
 go_wp2_with (at_builtin;refine Ap underlying22 M0 N0 O0 P0 rfl E0 rfl [I pc] rfl rfl L0.out ?c2 ?c3 ?c4 ?c5 ?_)
 case c2=>intro u hu;simp at hu;subst hu;rfl
 case c3=>unfold maxLen;omega
 case c4=>first|omega|(simp;omega)
 case c5=>first|omega|(simp;omega)
 intro v' W4 b0 s0 n0;obtain⟨va,vcap,rfl⟩:∃va vcap,v'=J va (r.aI.length+1) vcap:=by
  rcases b0.2 with⟨h1,h2⟩|⟨g,cp,cur,h1,_⟩
  ·omega
  exact⟨_,cp,h1⟩
 have n1:(w.alloc (.cells #[I pc] 3)).drew.drew.heap.size=w.heap.size+1:=by simp
 have o0:∀k,(J d5 r.aI.length k5).ownBlock=some k->base<=k/\k<w.heap.size+1:=λk hk=>by have:=E0.lt k hk;omega
 have e0:W4.heap[Rb]?=(w.alloc (.cells #[I pc] 3)).drew.drew.heap[Rb]?:=s0.block Rb (by omega) (λhh=>by have:=(o0 Rb hh.symm).1;omega);have gz:W4.frozen? (Y Rb 5)=false:=fQ e0 ((h0.frozen (p:=(Y Rb 5)) f0).trans (HH.cR.z 5));have g0:D W4 Rb 5 (J d5 r.aI.length k5):=cQ e0 (cT h0 f0 x5);have H5:O (Zt lo base Rb Pb w0 (W4.setCell (Y Rb 5) (J va (r.aI.length+1) vcap)) (m.app 5 (J va (r.aI.length+1) vcap) [I (pc.toNat:Int)])):=by
  have e1:(pc.toNat:Int)=pc:=(by omega);rw[e1];refine HH.kA 5 (by unfold Zr;omega) (by omega) h0 (v':=J va (r.aI.length+1) vcap) (news:=[I pc]) ?_ ?_ ?_
  ·rw[HO.r5.1,HO.r5.2];exact b0
  ·rw[A0.out];exact s0
  rw[A0.out];rcases n0 with hh|hh
  ·exact .inl hh
  exact .inr (by rw[hh];try simp)
 have o1:w.heap.size+1<=W4.heap.size:=by have:=s0.size;omega
 have t0:O ((W4.setCell (Y Rb 5) (J va (r.aI.length+1) vcap)).heap.size=W4.heap.size):=Zy _ _ _;have y6:D W4 Rb 6 (J d6 r.aF.length k6):=cQ e0 (cT h0 f0 (by rw[<-k0.out];exact HH.cR.c 6 (by omega)));have z6:W4.frozen? (Y Rb 6)=false:=fQ e0 ((h0.frozen (p:=(Y Rb 6)) f0).trans (HH.cR.z 6));have F0:Below (W4.setCell (Y Rb 5) (J va (r.aI.length+1) vcap)).heap.size (W4.setCell (Y Rb 5) (J va (r.aI.length+1) vcap)) ((W4.setCell (Y Rb 5) (J va (r.aI.length+1) vcap)).alloc (.cells #[I pd] 3)):=bA;have u0:=A F0;have G0:O (((W4.setCell (Y Rb 5) (J va (r.aI.length+1) vcap)).alloc (.cells #[I pd] 3)).ownsRow base 3 1 (J d6 r.aF.length k6) r.aF.length (Ym r.aF)):=by
  have h1:=(H5.below F0).own 6 (by unfold Zr;omega);have e2:(m.app 5 (J va (r.aI.length+1) vcap) [I (pc.toNat:Int)]).v 6=J d6 r.aF.length k6:=k0.out;have e3:(m.app 5 (J va (r.aI.length+1) vcap) [I (pc.toNat:Int)]).n 6=r.aF.length:=HO.r6.1;have e4:(m.app 5 (J va (r.aI.length+1) vcap) [I (pc.toNat:Int)]).xs 6=Ym r.aF:=HO.r6.2;rw[e2,e3,e4]at h1;exact h1
 have Q0:O (∀i u,([I pd]:Vs)[i]?=some u->((W4.setCell (Y Rb 5) (J va (r.aI.length+1) vcap)).alloc (.cells #[I pd] 3)).cell? (((Y W4.heap.size 0):Addr).add i)=some u):=ziz t0.out;clear b0 s0 n0 e0 E0 h0 L0 o0 A0 HH F0
 go_wp2_with (at_builtin;refine Ap underlying22 M0 N0 O0 P0 rfl G0 rfl [I pd] rfl rfl Q0.out ?d2 ?d3 ?d4 ?d5 ?_)
 case d2=>intro u hu;simp at hu;subst hu;rfl
 case d3=>unfold maxLen;omega
 case d4=>first|omega|(simp;omega)
 case d5=>first|omega|(simp;omega)
 intro v6 W6 d0 H0 p0;obtain⟨vb,vcbp,rfl⟩:∃va vcap,v6=J va (r.aF.length+1) vcap:=by
  rcases d0.2 with⟨h1,h2⟩|⟨g,cp,cur,h1,_⟩
  ·omega
  exact⟨_,cp,h1⟩
 have Z0:((W4.setCell (Y Rb 5) (J va (r.aI.length+1) vcap)).alloc (.cells #[I pd] 3)).heap.size=W4.heap.size+1:=by simp
 have q0:∀k,(J d6 r.aF.length k6).ownBlock=some k->base<=k:=λk hk=>(G0.lt k hk).1;have e0:W6.heap[Rb]?=((W4.setCell (Y Rb 5) (J va (r.aI.length+1) vcap)).alloc (.cells #[I pd] 3)).heap[Rb]?:=H0.block Rb (Qj (b:=W4.heap.size+1) (by omega) (Nat.le_of_eq Z0.symm)) (λhh=>by have:=q0 Rb hh.symm;omega);have gz6:W6.frozen? (Y Rb 6)=false:=fQ e0 ((u0.frozen (p:=(Y Rb 6)) (by rw[t0.out];show Rb<_;omega)).trans (H5.cR.z 6));have I0:O (Yh lo base Rb Pb w0 fl t aX (.returned (I 0)) (W6.setCell (Y Rb 6) (J vb (r.aF.length+1) vcbp))):=by
  show Yh _ _ _ _ _ _ _ _ _ _;rw[HR.out];have e1:(pd.toNat:Int)=pd:=(by omega);refine⟨rfl,λ_=>⟨_,H5.kA 6 (by unfold Zr;omega) (by omega) u0 (v':=J vb (r.aF.length+1) vcbp) (news:=[I (pd.toNat:Int)]) ?_ ?_ ?_,HO.nh pc.toNat pd.toNat _ _ (by omega) (by omega) R0⟩,λhh=>absurd rfl hh⟩
  ·rw[e1]
   have e3:(m.app 5 (J va (r.aI.length+1) vcap) [I (pc.toNat:Int)]).n 6=r.aF.length:=HO.r6.1;have e4:(m.app 5 (J va (r.aI.length+1) vcap) [I (pc.toNat:Int)]).xs 6=Ym r.aF:=HO.r6.2;rw[e3,e4];exact d0
  ·have e2:(m.app 5 (J va (r.aI.length+1) vcap) [I (pc.toNat:Int)]).v 6=J d6 r.aF.length k6:=k0.out
   rw[e2];exact H0
  have e2:(m.app 5 (J va (r.aI.length+1) vcap) [I (pc.toNat:Int)]).v 6=J d6 r.aF.length k6:=k0.out;rw[e2];rcases p0 with hh|hh
  ·exact .inl hh
  exact .inr (by rw[hh];try simp)
 have g6:∃v,D W6 Rb 6 v:=⟨_,cQ e0 (cT u0 (by rw[t0.out];show Rb<_;omega) (H5.cR.c 6 (by omega)))⟩;obtain⟨v66,g6⟩:=g6;clear d0 H0 p0 e0 G0 u0 Q0 q0 k0 H5 HO HR t0;go_wp2;go_ret;exact I0
end
section
variable{m:Yo}{fl:List FlS}
def Zk.nC(h:Zk r fl t m)(x:K)(y:Nat)(v v':Value)(hx:x.length<=100000)(hl:r.cells.length<6):Zk {r with cells:=r.cells++[x],aT:=r.aT++[y]} fl (t+1) ((m.app 2 v [strV x]).app 12 v' [I (y:Int)]):=
 {
  r1:=h.r1,r2:=⟨by show m.n 2+1=_;rw[h.r2.1];simp,by show m.xs 2++_=_;rw[h.r2.2];simp⟩,r3:=h.r3,r4:=h.r4,r5:=h.r5,r6:=h.r6,r8:=h.r8,gw:=h.gw,jX:=⟨by show m.n 12+1=_;rw[h.jX.1];simp,by show m.xs 12++_=_;rw[h.jX.2];simp[Ym]⟩,jG:=h.jG,bg:=h.bg,st:=h.st,nm:=λy hy=>by
   simp only[mem_append,mem_singleton]at hy;rcases hy with h1|(h1|rfl)|h1|h1
   ·exact h.nm y (by simp[h1])
   ·exact h.nm y (by simp[h1])
   ·exact hx
   ·exact h.nm y (by simp[h1])
   exact h.nm y (by simp[h1])
  lv:=h.lv,ce:=by simp;omega,ch:=h.ch,lo:=h.lo,sm:=h.sm,fr:=h.fr,lw:=by have:=h.lw;show r.aI.length<=_;omega,ft:=by have:=h.ft;omega,pr:=h.pr,bw:=h.bw,cl:=by have:=h.cl;simp;omega,hl:=h.hl,lt:=h.lt}
def Zk.nB(h:Zk r fl t m)(x:K)(y:Nat)(v v':Value)(hx:x.length<=100000)(hl:r.aj.length<3):Zk {r with aj:=r.aj++[x],aS:=r.aS++[y]} fl (t+1) ((m.app 3 v [strV x]).app 13 v' [I (y:Int)]):=
 {
  r1:=h.r1,r2:=h.r2,r3:=⟨by show m.n 3+1=_;rw[h.r3.1];simp,by show m.xs 3++_=_;rw[h.r3.2];simp⟩,r4:=h.r4,r5:=h.r5,r6:=h.r6,r8:=h.r8,gw:=h.gw,jX:=h.jX,jG:=⟨by show m.n 13+1=_;rw[h.jG.1];simp,by show m.xs 13++_=_;rw[h.jG.2];simp[Ym]⟩,bg:=h.bg,st:=h.st,nm:=λy hy=>by
   simp only[mem_append,mem_singleton]at hy;rcases hy with h1|h1|(h1|rfl)|h1
   ·exact h.nm y (by simp[h1])
   ·exact h.nm y (by simp[h1])
   ·exact h.nm y (by simp[h1])
   ·exact hx
   exact h.nm y (by simp[h1])
  lv:=h.lv,ce:=h.ce,ch:=by simp;omega,lo:=h.lo,sm:=h.sm,fr:=h.fr,lw:=by have:=h.lw;show r.aI.length<=_;omega,ft:=by have:=h.ft;omega,pr:=h.pr,bw:=h.bw,cl:=h.cl,hl:=by have:=h.hl;simp;omega,lt:=h.lt}
def ypz(h:Zt lo base Rb Pb w0 w m)(hr:Zk r fl t m)(b off cap:Nat)(n l:K)(kw:ByteArray)(Qw JL MX:Nat)(X:List K)(XL:List Nat)(r2:RS)(aX:Nat×RS)(m0:(kw=⟨#[99,101,108,108]⟩/\Qw=2/\JL=12/\MX=6)\/(kw=⟨#[99,104,97,110,110,101,108]⟩/\Qw=3/\JL=13/\MX=3))(hX:m.n Qw=X.length/\m.xs Qw=X.map strV)(O0:m.n JL=XL.length/\m.xs JL=Ym XL)(q1:X.length<=MX)(bt:XL.length<=6)(n0:aX=if ai r.au l<0\/0<=ai r.cells n\/0<=ai r.aj n then(4,r) else if X.length=MX then(5,r) else(0,r2))(o0:∀v v',X.length<MX->Zk r2 fl (t+1) ((m.app Qw v [strV n]).app JL v' [I ((ai r.au l).toNat:Int)]))(hb:b<w.heap.size)(i1:b≠Rb/\∀j,Zr j->(m.v j).ownBlock≠some b)(s1:3<=cap/\cap<=maxLen)(c0:w.cell? (Y b off)=some (.string kw))(c1:w.cell? (Y b (off+1))=some (Tq n))(c2:w.cell? (Y b (off+2))=some (Tq l)):
  F 22 #[M Rb,Sq b off 3 cap] w (Yh lo base Rb Pb w0 fl t aX):=by
 have bP:=h.bP
 have p0:Rb<w.heap.size:=by omega
 have I1:Pb<w.heap.size:=by omega
 have HH:O (Zt lo base Rb Pb w0 w m):=h;have HO:O (Zk r fl t m):=hr;have P0:O (∀W,E w W->F 21 #[m.v 1,Tq l] W (Rq (I (ai r.au l)) W)):=λW hW=>Xl ((h.below hW).au hr) l;have Q0:O (∀W,E w W->F 21 #[m.v 2,Tq n] W (Rq (I (ai r.cells n)) W)):=λW hW=>Xl ((h.below hW).cells hr) n;have R0:O (∀W,E w W->F 21 #[m.v 3,Tq n] W (Rq (I (ai r.aj n)) W)):=λW hW=>Xl ((h.below hW).aj hr) n;obtain⟨d1,k1,D0⟩:=h.shape 1 (by unfold Zr;omega);rw[hr.r1.1]at D0;obtain⟨d2,k2,E0⟩:=h.shape 2 (by unfold Zr;omega);rw[hr.r2.1]at E0;obtain⟨d3,k3,F0⟩:=h.shape 3 (by unfold Zr;omega);rw[hr.r3.1]at F0;obtain⟨dX,kX,k0⟩:=h.shape Qw (by unfold Zr;omega);rw[hX.1]at k0;obtain⟨dl,kl,G0⟩:=h.shape JL (by unfold Zr;omega);rw[O0.1]at G0;rw[D0]at P0;rw[E0]at Q0;rw[F0]at R0;have S0:O (m.v Qw=J dX X.length kX):=k0;have t1:O (m.v JL=J dl XL.length kl):=G0;have h0:O (∀W,E w W->D W Rb 1 (J d1 r.au.length k1)/\D W Rb 2 (J d2 r.cells.length k2)/\D W Rb 3 (J d3 r.aj.length k3)/\D W b (off+1) (Tq n)/\D W b (off+2) (Tq l)):=λW hW=>⟨cT hW p0 (by rw[<-D0];exact h.cR.c 1 (by omega)),cT hW p0 (by rw[<-E0];exact h.cR.c 2 (by omega)),cT hW p0 (by rw[<-F0];exact h.cR.c 3 (by omega)),cT hW hb c1,cT hW hb c2⟩;have H0:O (∀W,E w W->D W Rb Qw (J dX X.length kX)/\D W b (off+1) (Tq n)):=λW hW=>⟨cT hW p0 (by rw[<-k0];rcases m0 with⟨-,rfl,-⟩|⟨-,rfl,-⟩<;>exact h.cR.c _ (by omega)),cT hW hb c1⟩
 have j1:O (∀W,E w W->W.ownsRow base 9 1 (J dX X.length kX) X.length (X.map strV)):=λW hW=>by
  have h1:=(h.below hW).own Qw (by unfold Zr;omega);rw[hX.1,hX.2,k0]at h1;rcases m0 with⟨-,rfl,-⟩|⟨-,rfl,-⟩<;>exact h1
 have u1:=aO r.au l;have v1:=aO r.cells n;have x1:=aO r.aj n;have J1:=hr.lv;have K1:=hr.ce;have L1:=hr.ch;have d0:=A n0;have z1:=A o0;clear n0 o0;generalize ai r.au l=pa at*;generalize ai r.cells n=pb at*;generalize ai r.aj n=pe at*
 have l1:(3:Int)<=(cap:Int):=by omega
 have A1: -1<=pa/\pa<=6:=by omega
 have B1: -1<=pb/\pb<=6:=by omega
 have C1: -1<=pe/\pe<=6:=by omega
 have D1:(r.au.length:Int)<=6:=by omega
 have E1:(r.cells.length:Int)<=6:=by omega
 have F1:(r.aj.length:Int)<=3:=by omega
 have m1:O ((J dX X.length kX).ownBlock≠some b):=by rw[<-k0];exact i1.2 Qw (by unfold Zr;omega)
 have T0:Zr Qw/\Zr JL:=by unfold Zr;omega
 have HE:O (∀v,(m.app Qw v [strV n]).v JL=J dl XL.length kl/\(m.app Qw v [strV n]).n JL=XL.length/\(m.app Qw v [strV n]).xs JL=Ym XL):=λv=>by rcases m0 with⟨-,rfl,rfl,-⟩|⟨-,rfl,rfl,-⟩<;>exact⟨G0,O0.1,O0.2⟩
 have G1:O (∀W m',Zt lo base Rb Pb w0 W m'->D W Pb Qw (m'.v JL)):=λW m' h=>by rcases m0 with⟨-,rfl,rfl,-⟩|⟨-,rfl,rfl,-⟩<;>exact h.cP.c _ (by omega)
 obtain⟨f5,n1⟩:∃f:World->Value->World,f=λW v=>W.setCell (Y Rb Qw) v:=⟨_,rfl⟩;obtain⟨f6,o1⟩:∃f:World->Value->World,f=λW v=>W.setCell (Y Pb Qw) v:=⟨_,rfl⟩
 have F5:O (∀W v,f5 W v=W.setCell (Y Rb Qw) v):=λW v=>by rw[n1]
 have F6:O (∀W v,f6 W v=W.setCell (Y Pb Qw) v):=λW v=>by rw[o1]
 clear n1 o1;have h6:X.length=MX\/¬X.length=MX:=Classical.em _;clear h hr D0 E0 F0 k0 G0 c1 c2 i1 u1 v1 x1;rcases m0 with⟨rfl,rfl,rfl,rfl⟩|⟨rfl,rfl,rfl,rfl⟩
 all_goals
  go_enter func22,ntmps22
  go_wp2_with fail
  refine Zm h0 dA [7] [] [] (by kernel_rfl) (λ_ _ _ _ h=>h) (λops hG=>?_);clear hG
  iterate 7 refine Zv rfl (by intros;go_simp<;>rfl) (by go_simp<;>rfl) ?_
  refine Zs ?_
  go_wp2_with fail
  refine(P0 _ dA).mono ?_;rintro _ _ ⟨rfl,rfl⟩
  go_wp2_with fail
  refine⟨h0 _ dA,?_⟩;refine Zv rfl (by intros;go_simp<;>rfl) (by go_simp<;>rfl) ?_;refine Zu ?_
  go_wp2_with fail
  refine Zm h0 dA.drew [7] [] [] (by kernel_rfl) (λ_ _ _ _ h=>h) (λops hG=>?_);clear hG
  iterate 7 refine Zv rfl (by intros;go_simp<;>rfl) (by go_simp<;>rfl) ?_
  refine Zs ?_
  go_wp2_with fail
  refine(Q0 _ dA.drew).mono ?_;rintro _ _ ⟨rfl,rfl⟩
  go_wp2_with fail
  refine⟨h0 _ dA.drew,?_⟩;refine Zv rfl (by intros;go_simp<;>rfl) (by go_simp<;>rfl) ?_;refine Zu ?_
  go_wp2_with fail
  refine Zm h0 dA.drew.drew [7] [] [] (by kernel_rfl) (λ_ _ _ _ h=>h) (λops hG=>?_);clear hG
  iterate 7 refine Zv rfl (by intros;go_simp<;>rfl) (by go_simp<;>rfl) ?_
  refine Zs ?_
  go_wp2_with fail
  refine(R0 _ dA.drew.drew).mono ?_;rintro _ _ ⟨rfl,rfl⟩
  go_wp2_with fail
  refine⟨h0 _ dA.drew.drew,?_⟩;refine Zv rfl (by intros;go_simp<;>rfl) (by go_simp<;>rfl) ?_;refine Zu ?_;have I0:O (pa<0\/0<=pb\/0<=pe->Yh lo base Rb Pb w0 fl t aX (.returned (I 4)) w.drew.drew.drew):=by
   show _->Yh _ _ _ _ _ _ _ _ _ _;intro hh;rw[d0.out,G hh];exact⟨rfl,λh=>(by cases h),λ_=>HH.drew.drew.drew.bel⟩
  by_cases hp:pa<0
  ·go_wp2
   go_ret;exact I0 (.inl hp)
  have M1:0<=pa:=(by omega);clear hp
  by_cases hq:0<=pb
  ·go_wp2
   go_ret;exact I0 (.inr (.inl hq))
  have N1:pb<0:=(by omega);clear hq
  by_cases hq:0<=pe
  ·go_wp2
   go_ret;exact I0 (.inr (.inr hq))
  have O1:pe<0:=(by omega);clear hq I0;obtain⟨x2,x4⟩:=H0 w.drew.drew.drew dA.drew.drew;clear h0;rcases h6 with h6|h6
  ·have b6:=beq_iff_eq.2 (show (X.length:Int)=_ from congrArg Nat.cast h6)
   have HE:O (Yh lo base Rb Pb w0 fl t aX (.returned (I 5)) w.drew.drew.drew):=by
    show Yh _ _ _ _ _ _ _ _ _ _;rw[d0.out,Z (by omega),G h6];exact⟨rfl,λh=>(by cases h),λ_=>HH.drew.drew.drew.bel⟩
   clear h6;go_wp2;go_ret;exact HE
  have b6:=beq_eq_false_iff_ne.2 (λhh:(X.length:Int)=((_:Nat):Int)=>h6 (Int.ofNat.inj hh));have HR:O (aX=(0,r2)):=(by show _=_;rw[d0.out,Z (by omega),Z h6]);have H1:=Nat.lt_of_le_of_ne q1 h6;clear h6 P0 Q0 R0 d0
  go_wp2_with fail
  refine Zb (λW=>D W Rb _ (J dX X.length kX)/\D W b (off+1) (Tq n)) [8,9,10] [12] [] ⟨x2,x4⟩ (by kernel_rfl) (λ_ _ _ _ h=>h) (λops hG=>?_);clear hG
  iterate 8 refine Zv rfl (by intros;go_simp<;>rfl) (by go_simp<;>rfl) ?_
  refine Zs ?_
  go_wp2_with fail
  obtain⟨W3,q0⟩:=U ((w.alloc (.cells #[Tq n] 9)).drew.drew.drew.drew);obtain⟨tb,U0⟩:=U (w.heap.size);have r0:E w W3:=(by rw[q0];exact(bA).drew.drew.drew.drew);have P1:w.heap.size+1=W3.heap.size:=(by rw[q0];simp);have t0:∀i u,([Tq n]:Vs)[i]?=some u->W3.cell? (((Y tb 0):Addr).add i)=some u:=(by rw[q0,U0];exact Xw);have e0:D W3 Rb _ (J dX X.length kX):=(H0 W3 r0).1;have e1:D W3 b (off+1) (Tq n):=(H0 W3 r0).2;have V0:O (W3.ownsRow base 9 1 (J dX X.length kX) X.length (X.map strV)):=j1 W3 r0;have W0:O (E w W3):=r0;rw[<-q0,<-U0];clear q0 U0 r0 x2 x4 j1 H0;refine⟨⟨e0,e1⟩,?_⟩;refine Zs ?_;obtain⟨i0,J0,K0,L0,M0⟩:=info_parts Tryz.infoStr
  go_wp2_with (at_builtin;refine Ap underlying49 J0 K0 L0 M0 rfl V0 rfl [Tq n] rfl rfl t0 ?c2 ?c3 ?c4 ?c5 ?_)
  case c2=>intro u hu;simp at hu;subst hu;rfl
  case c3=>unfold maxLen;omega
  case c4=>omega
  case c5=>omega
  intro v' W4 a0 s0 v0;obtain⟨va,vcap,rfl⟩:∃va vcap,v'=J va (X.length+1) vcap:=by
   rcases a0.2 with⟨h1,h2⟩|⟨g,cp,cur,h1,_⟩
   ·omega
   exact⟨_,cp,h1⟩
  have x0:∀k,(J dX X.length kX).ownBlock=some k->base<=k/\k<w.heap.size+1:=λk hk=>by have:=V0.lt k hk;omega
  have l0:W4.heap[Rb]?=W3.heap[Rb]?:=s0.block Rb (by omega) (λhh=>by have:=(x0 Rb hh.symm).1;omega);have p1:W4.heap[b]?=W3.heap[b]?:=s0.block b (by omega) (λhh=>m1 hh.symm);have g0:D W4 Rb _ (J dX X.length kX):=cQ l0 e0;have g1:D W4 b (off+1) (Tq n):=cQ p1 e1;have gz:∀j,W4.frozen? (Y Rb j)=false:=λj=>fQ l0 ((W0.frozen (p:=(Y Rb j)) p0).trans (HH.cR.z j));have Q1:w.heap.size+1<=W4.heap.size:=(by have:=s0.size;omega);have H5:=A (HH.kA _ T0.1 (by omega) W0 (v':=J va (X.length+1) vcap) (news:=[strV n]) (by rw[hX.1,hX.2];exact a0) (by rw[S0.out];exact s0) (by rw[S0.out];exact v0));rw[<-F5.out]at H5;clear a0 s0 v0 l0 p1 e0 e1 t0 V0 W0 x0 S0 HH m1
  go_wp2_with fail
  refine⟨⟨g0,g1⟩,?_⟩;refine Zs ?_
  go_wp2_with fail
  refine⟨⟨g0,g1⟩,?_⟩;refine Zv rfl (by intros;go_simp<;>rfl) (by go_simp<;>rfl) ?_;refine Xs ?_
  go_wp2_with fail
  refine Zu ?_;rw[<-F5.out];obtain⟨W5,X0⟩:=U (f5 W4 (J va (X.length+1) vcap));rw[<-X0]at H5⊢;have R1:w.heap.size+1<=W5.heap.size:=(by rw[X0,F5.out,Zy];omega);clear X0 g0 g1 gz;have y0:D W5 Rb 0 (M Pb):=H5.cR.c 0 (by omega);have Qy:=A (HE (J va (X.length+1) vcap));have y1:=(G1 _ _ H5).trans (congrArg some Qy.1)
  go_wp2_with fail
  refine Zb (λW=>D W Rb 0 (M Pb)/\D W Pb _ (J dl XL.length kl)) [12,13,14] [16] [] ⟨y0,y1⟩ (by kernel_rfl) (λ_ _ _ _ h=>h) (λops hG=>?_);clear hG
  iterate 12 refine Zv rfl (by intros;go_simp<;>rfl) (by go_simp<;>rfl) ?_
  refine Zs ?_
  go_wp2_with fail
  obtain⟨W6,z0⟩:=U ((W5.alloc (.cells #[I pa] 3)).drew);obtain⟨ub,Y0⟩:=U (W5.heap.size);have A0:E W5 W6:=(by rw[z0];exact(bA).drew);have S1:W5.heap.size+1=W6.heap.size:=(by rw[z0];simp);have u0:∀i u,([I pa]:Vs)[i]?=some u->W6.cell? (((Y ub 0):Addr).add i)=some u:=(by rw[z0,Y0];exact Xw);have f0:D W6 Rb 0 (M Pb):=cT A0 (by show Rb<_;omega) y0;have f1:D W6 Pb _ (J dl XL.length kl):=cT A0 (by show Pb<_;omega) y1;have Z0:O (W6.ownsRow base 3 1 (J dl XL.length kl) XL.length (Ym XL)):=by
   have h1:=(H5.below A0).own _ T0.2;rw[Qy.1,Qy.2.1,Qy.2.2]at h1;exact h1
  have a1:O (E W5 W6):=A0;rw[<-z0,<-Y0];clear z0 Y0 A0 y0 y1;refine⟨⟨f0,f1⟩,?_⟩;refine Zs ?_;clear J0 K0 L0 M0 i0;obtain⟨i0,J0,K0,L0,M0⟩:=info_parts Tryz.infoIntP
  go_wp2_with (at_builtin;refine Ap underlying22 J0 K0 L0 M0 rfl Z0 rfl [I pa] rfl rfl u0 ?d2 ?d3 ?d4 ?d5 ?_)
  case d2=>intro u hu;simp at hu;subst hu;rfl
  case d3=>unfold maxLen;omega
  case d4=>omega
  case d5=>omega
  intro v7 W7 b0 N0 B0;obtain⟨vb,vcbp,rfl⟩:∃va vcap,v7=J va (XL.length+1) vcap:=by
   rcases b0.2 with⟨h1,h2⟩|⟨g,cp,cur,h1,_⟩
   ·omega
   exact⟨_,cp,h1⟩
  have j0:∀k,(J dl XL.length kl).ownBlock=some k->base<=k:=λk hk=>(Z0.lt k hk).1;have l0:W7.heap[Rb]?=W6.heap[Rb]?:=N0.block Rb (by omega) (λhh=>by have:=j0 Rb hh.symm;omega);have b1:W7.heap[Pb]?=W6.heap[Pb]?:=N0.block Pb (by omega) (λhh=>by have:=j0 Pb hh.symm;omega);have g0:D W7 Rb 0 (M Pb):=cQ l0 f0;have g1:D W7 Pb _ (J dl XL.length kl):=cQ b1 f1;have gz:∀j,W7.frozen? (Y Pb j)=false:=λj=>fQ b1 ((a1.frozen (p:=(Y Pb j)) (by show Pb<_;omega)).trans (H5.cP.z j));have C0:O (Yh lo base Rb Pb w0 fl t aX (.returned (I 0)) (f6 W7 (J vb (XL.length+1) vcbp))):=by
   show Yh _ _ _ _ _ _ _ _ _ _;rw[HR.out,F6.out];have ea:(pa.toNat:Int)=pa:=(by omega);refine⟨rfl,λ_=>⟨_,H5.pJ _ T0.2 (by omega) a1 (v':=J vb (XL.length+1) vcbp) (news:=[I (pa.toNat:Int)]) ?_ ?_ ?_,z1 _ _ H1⟩,λhh=>absurd rfl hh⟩
   ·rw[ea,Qy.2.1,Qy.2.2];exact b0
   ·rw[Qy.1];exact N0
   rw[Qy.1];exact B0
  clear b0 N0 B0 l0 b1 f0 f1 u0 Z0 a1 j0 t1 H5 HO HR Qy
  go_wp2_with fail
  refine⟨⟨g0,g1⟩,?_⟩;refine Zs ?_
  go_wp2_with fail
  refine⟨⟨g0,g1⟩,?_⟩;refine Zv rfl (by intros;go_simp<;>rfl) (by go_simp<;>rfl) ?_;refine Xs ?_
  go_wp2_with fail
  refine Zu ?_;go_wp2;go_ret;rw[F6.out]at C0;exact C0
def yg5(h:Zt lo base Rb Pb w0 w m)(hr:Zk r fl t m)(b off cap:Nat)(n l:K)(b0:n.length<=100000)(hb:b<w.heap.size)(d0:b≠Rb/\∀j,Zr j->(m.v j).ownBlock≠some b)(a0:3<=cap/\cap<=maxLen)(c0:w.cell? (Y b off)=some (.string ⟨#[99,101,108,108]⟩))(c1:w.cell? (Y b (off+1))=some (Tq n))(c2:w.cell? (Y b (off+2))=some (Tq l)):
  F 22 #[M Rb,Sq b off 3 cap] w (Yh lo base Rb Pb w0 fl t (r.head [cB,n,l])):=
 ypz h hr b off cap n l _ 2 12 6 _ _ _ _ (.inl ⟨rfl,rfl,rfl,rfl⟩) hr.r2 hr.jX hr.ce (by have:=hr.cl;have:=hr.hl;have:=hr.ce;have:=hr.ch;omega) (by simp[RS.head,cB,bO,bk]) (λv v' hh=>hr.nC n _ v v' b0 hh) hb d0 a0 c0 c1 c2
def yt7(h:Zt lo base Rb Pb w0 w m)(hr:Zk r fl t m)(b off cap:Nat)(n l:K)(b0:n.length<=100000)(hb:b<w.heap.size)(d0:b≠Rb/\∀j,Zr j->(m.v j).ownBlock≠some b)(a0:3<=cap/\cap<=maxLen)(c0:w.cell? (Y b off)=some (.string ⟨#[99,104,97,110,110,101,108]⟩))(c1:w.cell? (Y b (off+1))=some (Tq n))(c2:w.cell? (Y b (off+2))=some (Tq l)):
  F 22 #[M Rb,Sq b off 3 cap] w (Yh lo base Rb Pb w0 fl t (r.head [bk,n,l])):=
 ypz h hr b off cap n l _ 3 13 3 _ _ _ _ (.inr ⟨rfl,rfl,rfl,rfl⟩) hr.r3 hr.jG hr.ch (by have:=hr.cl;have:=hr.hl;have:=hr.ce;have:=hr.ch;omega) (by simp[RS.head,cB,bO,bk]) (λv v' hh=>hr.nB n _ v v' b0 hh) hb d0 a0 c0 c1 c2
end
section
variable{m:Yo}{fl:List FlS}
def Zt.pY(h:Zt lo base Rb Pb w0 w m)(j:Nat)(hj:j<6)(v:Value)(m':Yo)(hn:m'.n=m.n)(hx:m'.xs=m.xs)(hv:m'.v=m.v)(hk:m'.gy=m.gy/\m'.wk=m.wk)(hR:∀i,i<11->rrC Pb m' i=rrC Pb m i)(hP:∀i,i<6->rpC m' i=if i=j then v else rpC m i):Zt lo base Rb Pb w0 (w.setCell (Y Pb j) v) m':=by
 obtain⟨b1,b2,b3,b4,b5,b6,b7⟩:=h.bP;refine{bel:=h.bel.setCell (by show lo<=Pb;omega) _,bP:=⟨b1,b2,b3,b4,b5,by rw[Zy];omega,b7⟩,cR:= ?_,cP:=(h.cP.set hj v).congr λi hi=>(hP i hi).symm,own:=λi hi=>?_,jp:=by rw[hv];exact h.jp,kp:=λb hb=>?_}
 ·exact(h.cR.block (Zx _ _ _ _ _ b5)).congr λi hi=>(hR i hi).symm
 ·rw[hn,hx,hv]
  exact Zj (h.own i hi) (λb hb=>Zx _ _ _ _ _ (by have:=((h.own i hi).lt b hb).1;omega))
 rw[hk.1]at hb;obtain⟨k1,k2,k3,k4⟩:=h.kp b hb;rw[hv,hk.2];exact⟨k1,by rw[Zy];exact k2,(Zx _ _ _ _ _ (by omega)).trans k3,k4⟩
def Zt.pI(h:Zt lo base Rb Pb w0 w m)(n:Nat):Zt lo base Rb Pb w0 (w.setCell (Y Pb 0) (I (n:Int))) {m with N:=n}:=
 h.pY 0 (by omega) _ _ rfl rfl rfl ⟨rfl,rfl⟩ (λ_ _=>rfl) (λi hi=>by
  rcases(show i=0\/i=1\/i=2\/i=3\/i=4\/i=5 by omega) with rfl|rfl|rfl|rfl|rfl|rfl<;>rfl)
def Zt.oD(h:Zt lo base Rb Pb w0 w m)(v:Value):Zt lo base Rb Pb w0 (w.setCell (Y Pb 1) v) {m with leq:=v}:=
 h.pY 1 (by omega) _ _ rfl rfl rfl ⟨rfl,rfl⟩ (λ_ _=>rfl) (λi hi=>by
  rcases(show i=0\/i=1\/i=2\/i=3\/i=4\/i=5 by omega) with rfl|rfl|rfl|rfl|rfl|rfl<;>rfl)
def Zt.ng(h:Zt lo base Rb Pb w0 w m)(v:Bool):Zt lo base Rb Pb w0 (w.setCell (Y Rb 7) (.bool v)) {m with ae:=v}:=by
 obtain⟨b1,b2,b3,b4,b5,b6,b7⟩:=h.bP;refine{bel:=h.bel.setCell (by show lo<=Rb;omega) _,bP:=⟨b1,b2,b3,b4,b5,by rw[Zy];omega,b7⟩,cR:=(h.cR.set (j:=7) (by omega) (.bool v)).congr λi hi=>?_,cP:= ?_,own:=λi hi=>Zj (h.own i hi) (λb hb=>Zx _ _ _ _ _ (by have:=((h.own i hi).lt b hb).1;omega)),jp:=h.jp,kp:=λb hb=>have k:=h.kp b hb;⟨k.1,by rw[Zy];exact k.2.1,(Zx _ _ _ _ _ (by have:=k.1;omega)).trans k.2.2.1,k.2.2.2⟩}
 ·unfold rrC
  by_cases h7:i=7
  ·subst h7;rfl
  simp[h7]
 exact(h.cP.block (Zx _ _ _ _ _ (Ne.symm b5))).congr λi hi=>rfl
def Zk.kF(h:Zk r fl t m)(N:Nat)(v:Value)(Wx:Nat->Prop)(wk:World)(ht:zd0 {m with N:=N,leq:=v,gy:=Wx,wk:=wk} r.au.length r.tab):Zk {r with ae:=true} fl (t+1) {m with ae:=true,N:=N,leq:=v,gy:=Wx,wk:=wk}:=
 {r1:=h.r1,r2:=h.r2,r3:=h.r3,r4:=h.r4,r5:=h.r5,r6:=h.r6,r8:=h.r8,gw:=h.gw,jX:=h.jX,jG:=h.jG,bg:=rfl,st:=h.st,nm:=h.nm,lv:=h.lv,ce:=h.ce,ch:=h.ch,lo:=h.lo,sm:=h.sm,fr:=h.fr,lw:=by have:=h.lw;show r.aI.length<=_;omega,ft:=by have:=h.ft;omega,pr:=h.pr,bw:=h.bw,cl:=h.cl,hl:=h.hl,lt:=λ_=>ht}
end
end Go.Proofs.YtjmcibbdedlcoaaGreatDoor
namespace Go.Proofs.YtjmcibbdedlcoaaGreatDoor
open Go.Proofs.Tryz List World Region Value Act Fl
variable{lo base Rb Pb t n i j g cap k:Nat}{w0 w w' W:World}{r:RS}{e:TypeId}{xs z cs:Vs}{x:Value}{f:Fl.Frame}{fs:List Fl.Frame}{P:Program}{ops:Array Oper}{Q:Exit->Act->World->Prop}{a:Act}
namespace Fl
def lattice_bad{t:cG}(hi:i<n)(hj:j<n)(h:bE n t i j=false):br n t=false:=by
 unfold br;rw[Bool.and_eq_false_iff]
 right
 rw[all_eq_false];refine⟨i,mem_range.mpr hi,?_⟩;rw[Bool.not_eq_true,all_eq_false];exact⟨j,mem_range.mpr hj,by rw[h];simp⟩
def lattice_good{t:cG}(h:∀i j,i<n->j<n->bE n t i j=true):br n t=decide (0<n):=by
 unfold br;have h2:((range n).all λi=>(range n).all λj=>bE n t i j)=true:=by
  rw[all_eq_true];intro i hi;rw[all_eq_true];intro j hj;exact h i j (mem_range.mp hi) (mem_range.mp hj)
 rw[h2,Bool.and_true]
def pair_both{t:cG}(a0:i≠j)(h1:t i j=true)(h2:t j i=true):bE n t i j=false:=by
 unfold bE;simp[h1,h2,a0]
def pair_none{t:cG}(h:join n t i j<0\/fB n t i j<0):bE n t i j=false:=by
 unfold bE;rw[Bool.and_eq_false_iff]
 right
 rw[Bool.and_eq_false_iff];rcases h with h|h
 ·left;simp;exact h
 right;simp;exact h
def pair_good{t:cG}(h:i=j\/t i j=false\/t j i=false)(h1:0<=join n t i j)(h2:0<=fB n t i j):bE n t i j=true:=by
 unfold bE;rcases h with rfl|h|h
 ·simp[h1,h2]
 ·simp[h,h1,h2]
 simp[h,h1,h2]
end Fl
open Go.RowKit
structure yxy(r:RS)(t:Nat)(m:Yo):Prop where
 r1:m.n 1=r.au.length/\m.xs 1=r.au.map strV
 r5:m.n 5=r.aI.length/\m.xs 5=Ym r.aI
 r6:m.n 6=r.aF.length/\m.xs 6=Ym r.aF
 lv:r.au.length<=6
 lw:r.aI.length<=t
 pr:r.aI.length=r.aF.length
 bw:(∀x∈r.aI,x<r.au.length)/\(∀x∈r.aF,x<r.au.length)
def zr6(lo base Rb Pb:Nat)(w0:World)(m:Yo)(n:Nat)(T:Fl.cG)(aX:Bool)(e:Ending)(w':World):Prop:=
 e=.returned (.bool aX)/\∃N v Wx wk,Zt lo base Rb Pb w0 w' {m with N:=N,leq:=v,gy:=Wx,wk:=wk}/\zd0 {m with N:=N,leq:=v,gy:=Wx,wk:=wk} n T
section
variable{m:Yo}{fl:List FlS}
def yk4(b0:∀(W:World) (m:Yo) (r:RS),Zt lo base Rb Pb w0 W m->yxy r t m->F 32 #[M Rb] W (zr6 lo base Rb Pb w0 m r.au.length r.tab (Fl.br r.au.length r.tab)))
  (h:Zt lo base Rb Pb w0 w m) (hr:Zk r fl t m) (b off cap:Nat) (k:K) (hb:b<w.heap.size) (j0:b≠Rb) (h0:1<=cap/\cap<=maxLen) (c0:w.cell? (Y b off)=some (.string ⟨#[98,101,103,105,110]⟩)):
  F 22 #[M Rb,Sq b off 1 cap] w (Yh lo base Rb Pb w0 fl t (r.head [k])):=by
 have bP:=h.bP;have HL:O (F 32 #[M Rb] (w.setCell (Y Rb 7) (.bool true)) (zr6 lo base Rb Pb w0 {m with ae:=true} r.au.length r.tab (Fl.br r.au.length r.tab))):=b0 _ {m with ae:=true} r (h.ng true) {r1:=hr.r1,r5:=hr.r5,r6:=hr.r6,lv:=hr.lv,lw:=hr.lw,pr:=hr.pr,bw:=hr.bw};have HO:=A hr;have a0:O (r.head [k]=if Fl.br r.au.length r.tab then(0,{r with ae:=true}) else(6,r)):=rfl;obtain⟨v7,x7⟩:∃v,D w Rb 7 v:=⟨_,h.cR.c 7 (by omega)⟩;have z7:w.frozen? (Y Rb 7)=false:=h.cR.z 7;obtain⟨aX,d0⟩:=U (r.head [k]);rw[<-d0]at a0⊢
 have f0:(1:Int)<=(cap:Int):=by omega
 generalize Fl.br r.au.length r.tab=ok at*;clear h hr d0 b0
 go_enter func22,ntmps22
 go_wp2_with fail
 refine HL.mono ?_;rintro e w1 ⟨rfl,N,v,Wx,wk,g0,e0⟩;have HW:=A g0;have i0:=A e0;clear g0 e0 HL
 cases ok
 ·have HE:O (Yh lo base Rb Pb w0 fl t aX (.returned (I 6)) w1):=by
   show Yh _ _ _ _ _ _ _ _ _ _;rw[a0.out];exact⟨rfl,λh=>(by cases h),λ_=>HW.bel⟩
  go_wp2;go_ret;exact HE
 have HE:O (Yh lo base Rb Pb w0 fl t aX (.returned (I 0)) w1):=by
  show Yh _ _ _ _ _ _ _ _ _ _;rw[a0.out];exact⟨rfl,λ_=>⟨_,HW,HO.kF N v Wx wk i0⟩,λhh=>absurd rfl hh⟩
 go_wp2;go_ret;exact HE
end
section
variable{m:Yo}{fl:List FlS}
def ydw(f0:∀(W:World) (m:Yo) (r:RS),Zt lo base Rb Pb w0 W m->yxy r t m->F 32 #[M Rb] W (zr6 lo base Rb Pb w0 m r.au.length r.tab (Fl.br r.au.length r.tab)))
  (h:Zt lo base Rb Pb w0 w m) (hr:Zk r fl t m) (g0:r.ae=false) (ht:t<=1000000) (v:Value) (ws:List K) (hw:Zi w.heap.size w v ws) (i0:∀b off k c,v=Sq b off k c->b≠Rb/\∀j,Zr j->(m.v j).ownBlock≠some b) (hl:Fl.ap ws=true) (hh:du (ws.getD 0 [])=true):
  F 22 #[M Rb,v] w (Yh lo base Rb Pb w0 fl t (r.head ws)):=by
 obtain⟨ao,cap,hv,c0,d0,l0,hx,b0⟩:=hw
 have j0:ws≠[]:=by intro h0;subst h0;simp[Fl.ap]at hl
 obtain⟨b,off,k0,hb,a0⟩:=b0 j0;subst k0;have e0:=i0 b off ws.length cap hv;subst hv;clear b0 i0
 match ws,hl,hh with
 |[a],hl,hh=>
  have e:a=dv:=by
   simp[Fl.ap,du]at hl hh;rcases hl with(h1|h1)|h1
   ·exact h1
   ·subst h1;simp[eq,cN,bO,cB,bk,dv]at hh
   subst h1;simp[gT,cN,bO,cB,bk,dv]at hh
  subst e;exact yk4 f0 h hr b off cap _ hb e0.1 ⟨c0,d0⟩ (a0 0 (by simp))
 |[a,n],hl,hh=>
  have e:a=cN:=by
   simp[Fl.ap,du]at hl hh;rcases hl with h1|⟨h1|h1,_⟩
   ·exact h1.1
   ·subst h1;simp[jo,cN,bO,cB,bk,dv]at hh
   subst h1;simp[eK,cN,bO,cB,bk,dv]at hh
  subst e;exact yk2 h hr g0 b off cap _ n (hx n (by simp)) hb e0 ⟨c0,d0⟩ (a0 0 (by simp)) (a0 1 (by simp))
 |[a,n,l],hl,hh=>
  have e:a=bO\/a=cB\/a=bk:=by
   simp[Fl.ap,du]at hl hh;rcases hl with⟨⟨h1,_⟩,_⟩|⟨⟨h1|h1,_⟩,_⟩
   ·rcases h1 with(h1|h1)|h1
    ·exact .inl h1
    ·exact .inr (.inl h1)
    exact .inr (.inr h1)
   ·subst h1;simp[fY,cN,bO,cB,bk,dv]at hh
   subst h1;simp[fh,cN,bO,cB,bk,dv]at hh
  rcases e with e|e|e
  ·subst e
   exact yk3 h hr g0 ht b off cap n l hb e0 ⟨c0,d0⟩ (a0 0 (by simp)) (a0 1 (by simp)) (a0 2 (by simp))
  ·subst e
   exact yg5 h hr b off cap n l (hx n (by simp)) hb e0 ⟨c0,d0⟩ (a0 0 (by simp)) (a0 1 (by simp)) (a0 2 (by simp))
  subst e;exact yt7 h hr b off cap n l (hx n (by simp)) hb e0 ⟨c0,d0⟩ (a0 0 (by simp)) (a0 1 (by simp)) (a0 2 (by simp))
 |[_,_,_,_],hl,hh=>simp[Fl.ap]at hl
 |[a,_,_,_,_],hl,hh=>
  simp[Fl.ap,du]at hl hh;rw[hl.1.1.1.1]at hh;simp[fh,cN,bO,cB,bk,dv]at hh
 |_::_::_::_::_::_::_,hl,hh=>simp[Fl.ap]at hl
end
def Ua(b:Nat):∀(cs:Vs) (w:World) (o k:Nat),k≠b->(w.setCells b o cs).heap[k]?=w.heap[k]?
 |[],_,_,_,_=>rfl
 |v::r,w,o,k,h=>(Ua b r _ _ k h).trans (Zx w b o v k h)
def zl0(b:Nat):∀(cs:Vs) (w:World) (o:Nat),(w.setCells b o cs).heap.size=w.heap.size
 |[],_,_=>rfl
 |v::r,w,o=>(zl0 b r _ _).trans (Zy w _ v)
def zl1(b:Nat):∀(cs:Vs) (w:World) (o:Nat),(w.setCells b o cs).os=w.os/\(w.setCells b o cs).tape=w.tape/\(w.setCells b o cs).output=w.output
 |[],_,_=>⟨rfl,rfl,rfl⟩
 |v::r,w,o=>zl1 b r (w.setCell (Y b o) v) (o+1)
def zl2(l:Vs)(o:Nat)(v:Value)(h:o<l.length):(l.set o v).take (o+1)=l.take o++[v]:=by
 rw[set_eq_take_append_cons_drop,G h,take_append,take_take]
 have h1:(l.take o).length=o:=by simp;omega
 rw[h1,show o+1 - o=1 by omega,show min (o+1) o=o by omega];simp
def zkx(b:Nat)(e:TypeId):∀(cs:Vs) (w:World) (o:Nat) (cur:Array Value),w.heap[b]?=some (.cells cur e (0,0))->o+cs.length<=cur.size->
  ∃cur',(w.setCells b o cs).heap[b]?=some (.cells cur' e (0,0))/\cur'.size=cur.size/\cur'.toList.take (o+cs.length)=cur.toList.take o++cs
 |[],w,o,cur,hg,h=>⟨cur,hg,rfl,by simp⟩
 |v::r,w,o,cur,hg,h=>by
  have h0:o+(r.length+1)<=cur.size:=h;obtain⟨cur',e1,e2,e3⟩:=zkx b e r (w.setCell (Y b o) v) (o+1) (cur.setIfInBounds o v) (Go.heap_setCell_same w b o cur e v hg) (by rw[Array.size_setIfInBounds];omega);refine⟨cur',e1,by rw[e2,Array.size_setIfInBounds],?_⟩;rw[length_cons,show o+(r.length+1)=o+1+r.length by omega,e3,Array.toList_setIfInBounds,zl2 _ _ _ (by simp;omega)];simp
def own_put(h:W.ownsRow base e 10 (Sq g 0 (n+1) cap) (n+1) (xs++z))(hz:z.length=10)(hc:cs.length=10):(W.setCells g (n*10) cs).ownsRow base e 10 (Sq g 0 (n+1) cap) (n+1) (xs++cs):=by
 obtain⟨h1,h2⟩:=h
 have hl:xs.length=n*10:=by simp at h1;omega
 refine⟨by simp;omega,?_⟩;rcases h2 with⟨h3,-⟩|⟨g',cap',cur,h3,hb,hg,a0,hm,hs,ht⟩
 ·cases h3
 simp only[slice.injEq,Ql,Addr.mk.injEq]at h3;obtain⟨⟨rfl,-⟩,-,rfl⟩:=h3;obtain⟨cur',e1,e2,e3⟩:=zkx g e cs W (n*10) cur hg (by rw[hs,hc];omega);refine .inr ⟨g,cap,cur',rfl,hb,e1,a0,hm,by rw[e2];exact hs,?_⟩;rw[show (n+1)*10=n*10+cs.length by rw[hc];omega,e3];have:=congrArg (take (n*10)) ht;rw[take_take,show min (n*10) ((n+1)*10)=n*10 by omega,take_append_of_le_length (by omega),take_of_length_le (by omega:xs.length<=n*10)]at this;rw[this]
def zkw(h:W.ownsRow base e 10 (Sq g 0 (n+1) cap) (n+1) xs):W.there g (n*10) 10:=by
 obtain⟨h1,h2⟩:=h;rcases h2 with⟨h3,-⟩|⟨g',cap',cur,h3,hb,hg,b0,hm,hs,ht⟩
 ·cases h3
 simp only[slice.injEq,Ql,Addr.mk.injEq]at h3;obtain⟨⟨rfl,-⟩,-,rfl⟩:=h3;intro j hj
 have a0:n*10+j<cur.size:=by omega
 exact⟨by simp[cell?,hg,a0],by simp[frozen?,hg]⟩
def zcy{row:Option Nat}(h:w.grownBy w' row)(g o:Nat)(cs:Vs)(hg:some g=row\/w.heap.size<=g):w.grownBy (w'.setCells g o cs) row:=by
 obtain⟨r1,r2,r3⟩:=zl1 g cs w' o;refine⟨r1.trans h.os,r2.trans h.tape,r3.trans h.output,by rw[zl0];exact h.size,λk hk a0=>(Ua g cs w' o k ?_).trans (h.block k hk a0)⟩;rintro rfl;rcases hg with h1|h1
 ·exact a0 h1
 omega
def yt8(w:World)(b c i j:Nat)(u v:Value)(h:b≠c):(w.setCell (Y b i) u).setCell (Y c j) v=(w.setCell (Y c j) v).setCell (Y b i) u:=by
 unfold setCell
 congr 1
 apply Array.ext_getElem?
 intro k;simp only[Array.getElem?_modify]
 by_cases h1:b=k
 ·by_cases h2:c=k
  ·exact absurd (h1.trans h2.symm) h
  simp[h1,h2]
 simp[h1]
def zv0(b c j:Nat)(v:Value)(h:b≠c):∀(cs:Vs) (w:World) (o:Nat),(w.setCell (Y c j) v).setCells b o cs=(w.setCells b o cs).setCell (Y c j) v
 |[],_,_=>rfl
 |u::r,w,o=>by
  show ((w.setCell (Y c j) v).setCell (Y b o) u).setCells b (o+1) r=((w.setCell (Y b o) u).setCells b (o+1) r).setCell (Y c j) v;rw[yt8 w c b j o v u (Ne.symm h),zv0 b c j v h r]
section
variable{m:Yo}{fl:List FlS}
def Zt.flat(h:Zt lo base Rb Pb w0 w m){W3 W4:World}(b0:E w W3)(c0:W4.ownsRow base 75 10 (Sq g 0 (m.n 10+1) cap) (m.n 10+1) (m.xs 10++z))(hz:z.length=10)(hc:cs.length=10)(d0:W3.grownBy W4 (m.v 10).ownBlock)(a0:some g=(m.v 10).ownBlock\/some g=some W3.heap.size):
  Zt lo base Rb Pb w0 ((W4.setCells g (m.n 10*10) cs).setCell (Y Rb 10) (Sq g 0 (m.n 10+1) cap)) (m.app 10 (Sq g 0 (m.n 10+1) cap) cs):=
 h.kA 10 (by unfold Zr;omega) (by omega) b0 (own_put c0 hz hc) (zcy d0 g _ _ (by rcases a0 with h1|h1;exact .inl h1;simp only[Ql]at h1;exact .inr (by omega))) a0
def Zt.nZ(h:Zt lo base Rb Pb w0 w m)(k:Nat):Zt lo base Rb Pb w0 (w.setCell (Y Rb 9) (I (k:Int))) {m with am:=k}:=by
 obtain⟨b1,b2,b3,b4,b5,b6,b7⟩:=h.bP;refine{bel:=h.bel.setCell (by show lo<=Rb;omega) _,bP:=⟨b1,b2,b3,b4,b5,by rw[Zy];omega,b7⟩,cR:=(h.cR.set (j:=9) (by omega) (I (k:Int))).congr λi hi=>?_,cP:= ?_,own:=λi hi=>Zj (h.own i hi) (λb hb=>Zx _ _ _ _ _ (by have:=((h.own i hi).lt b hb).1;omega)),jp:=h.jp,kp:=λb hb=>have k:=h.kp b hb;⟨k.1,by rw[Zy];exact k.2.1,(Zx _ _ _ _ _ (by have:=k.1;omega)).trans k.2.2.1,k.2.2.2⟩}
 ·unfold rrC
  by_cases h7:i=9
  ·subst h7;rfl
  simp[h7]
 exact(h.cP.block (Zx _ _ _ _ _ (Ne.symm b5))).congr λi hi=>rfl
def zx9(m:Yo)(v:Value)(n:Nat)(xs:Vs):Yo:={m with n:=λi=>if i=8 then n else m.n i,xs:=λi=>if i=8 then xs else m.xs i,v:=λi=>if i=8 then v else m.v i}
def Jw(m:Yo)(v:Value)(n:Nat)(xs:Vs)(h:i≠8):(zx9 m v n xs).v i=m.v i/\(zx9 m v n xs).n i=m.n i/\(zx9 m v n xs).xs i=m.xs i:=by
 unfold zx9;simp[h]
def Zt.nA(h:Zt lo base Rb Pb w0 w m){y:Value}(hv:m.v 8=Sq g 0 (k+1) cap)(hn:m.n 8=k+1)(hx:m.xs 8=xs++[x]):Zt lo base Rb Pb w0 (w.setCell (Y g k) y) (zx9 m (m.v 8) (m.n 8) (xs++[y])):=by
 obtain⟨b1,b2,b3,b4,b5,b6,b7⟩:=h.bP
 have h8:Zr 8:=by unfold Zr;omega
 have ho:=h.own 8 h8;have hg:=ho.lt g (by rw[hv];rfl)
 have a0:(λi=>if i=8 then m.v 8 else m.v i)=m.v:=by funext i;by_cases hi:i=8<;>simp[hi]
 refine{bel:=h.bel.setCell (by show lo<=g;omega) _,bP:=⟨b1,b2,b3,b4,b5,by rw[Zy];omega,b7⟩,cR:=(h.cR.block (Zx _ _ _ _ _ (by omega))).congr λi hi=>?_,cP:=(h.cP.block (Zx _ _ _ _ _ (by omega))).congr λi hi=>?_,own:=λi hi=>?_,jp:=λi j b hi hj hne=>by show ((λi=>if i=8 then m.v 8 else m.v i) i).ownBlock=_->((λi=>if i=8 then m.v 8 else m.v i) j).ownBlock≠_;rw[a0];exact h.jp i j b hi hj hne,kp:=λb hb=>?_}
 ·show rrC Pb m i=if i=0 then ptr Pb else if i=7 then .bool m.ae else if i=9 then I m.am else(λi=>if i=8 then m.v 8 else m.v i) i
  rw[a0];rfl
 ·show rpC m i=if i=0 then _ else if i=1 then m.leq else if i=4 then _ else if i=5 then m.aZ else(λi=>if i=8 then m.v 8 else m.v i) (10+i)
  rw[a0];rfl
 ·by_cases b0:i=8
  ·subst b0
   show (w.setCell (Y g k) y).ownsRow base (rTy 8) (rSz 8) (if 8=8 then m.v 8 else m.v 8) (if 8=8 then m.n 8 else m.n 8) (if 8=8 then xs++[y] else m.xs 8);rw[G rfl,G rfl,G rfl];obtain⟨h1,h2⟩:=ho;rw[hx]at h1;have c0:rSz 8=1:=rfl;rw[c0]at h1 h2⊢;have hl:xs.length=k:=(by simp at h1;omega);refine⟨by simp;omega,?_⟩;rcases h2 with⟨h3,h4⟩|⟨g',cap',cur,h3,hb,d0,hc,hm,hs,ht⟩
   ·omega
   rw[hv]at h3;simp only[slice.injEq,Ql,Addr.mk.injEq]at h3;obtain⟨⟨rfl,-⟩,-,rfl⟩:=h3;refine .inr ⟨g,cap,cur.setIfInBounds k y,by rw[hv,hn],hb,Go.heap_setCell_same w g k cur _ y d0,hc,hm,by rw[Array.size_setIfInBounds];exact hs,?_⟩;rw[hn,Nat.mul_one]at ht⊢;rw[Array.toList_setIfInBounds,zl2 _ _ _ (by simp;omega)];have:=congrArg (take k) ht;rw[take_take,show min k (k+1)=k by omega,hx,take_append_of_le_length (by omega),take_of_length_le (by omega:xs.length<=k)]at this;rw[this]
  obtain⟨e1,e2,e3⟩:=Jw m (m.v 8) (m.n 8) (xs++[y]) b0;rw[e1,e2,e3];refine Zj (h.own i hi) (λb hb=>Zx _ _ _ _ _ ?_);rintro rfl;exact h.jp i 8 b hi h8 b0 hb (by rw[hv];rfl)
 obtain⟨k1,k2,k3,k4⟩:=h.kp b hb;refine⟨k1,by rw[Zy];exact k2,(Zx _ _ _ _ _ ?_).trans k3,λj hj=>?_⟩
 ·rintro rfl;exact k4 8 h8 (by rw[hv];rfl)
 show ((λi=>if i=8 then m.v 8 else m.v i) j).ownBlock≠_;rw[a0];exact k4 j hj
def Zt.ot(h:Zt lo base Rb Pb w0 w m)(hv:m.v 8=Sq g 0 (k+1) cap)(hn:m.n 8=k+1)(hx:m.xs 8=xs++[x]):Zt lo base Rb Pb w0 (w.setCell (Y Rb 8) (Sq g 0 k cap)) (zx9 m (Sq g 0 k cap) k xs):=by
 obtain⟨b1,b2,b3,b4,b5,b6,b7⟩:=h.bP
 have h8:Zr 8:=by unfold Zr;omega
 have b0:∀i,((zx9 m (Sq g 0 k cap) k xs).v i).ownBlock=(m.v i).ownBlock:=λi=>by
  by_cases hi:i=8
  ·subst hi;rw[hv];rfl
  rw[(Jw m _ k xs hi).1]
 refine{bel:=h.bel.setCell (by show lo<=Rb;omega) _,bP:=⟨b1,b2,b3,b4,b5,by rw[Zy];omega,b7⟩,cR:=(h.cR.set (j:=8) (by omega) (Sq g 0 k cap)).congr λi hi=>?_,cP:=(h.cP.block (Zx _ _ _ _ _ (Ne.symm b5))).congr λi hi=>?_,own:=λi hi=>?_,jp:=λi j b hi hj hne=>by rw[b0,b0];exact h.jp i j b hi hj hne,kp:=λb hb=>have k:=h.kp b hb;⟨k.1,by rw[Zy];exact k.2.1,(Zx _ _ _ _ _ (by have:=k.1;omega)).trans k.2.2.1,λj hj=>by rw[b0];exact k.2.2.2 j hj⟩}
 ·by_cases a0:i=8
  ·subst a0;rfl
  rw[Z a0];unfold rrC;rw[(Jw m _ k xs a0).1];rfl
 ·unfold rpC
  rw[(Jw m (Sq g 0 k cap) k xs (show 10+i≠8 by omega)).1];rfl
 by_cases a0:i=8
 ·subst a0
  have ho:=h.own 8 h8;rw[hv,hn,hx]at ho;refine Zj (w:=w) ?_ (λb hb=>Zx _ _ _ _ _ ?_)
  ·exact yu2 ho
  have:=ho.lt b hb;omega
 obtain⟨e1,e2,e3⟩:=Jw m (Sq g 0 k cap) k xs a0;rw[e1,e2,e3];exact Zj (h.own i hi) (λb hb=>Zx _ _ _ _ _ (by have:=((h.own i hi).lt b hb).1;omega))
end
def Xu(lo base Rb Pb:Nat)(w0:World)(t:Nat)(aX:Nat×RS)(e:Ending)(w':World):Prop:=
 e=.returned (I aX.1)/\(aX.1=0->∃m' fl',Zt lo base Rb Pb w0 w' m'/\Zk aX.2 fl' (t+1) m'/\Xd fl' aX.2/\dy fl'=aX.2.am)/\(aX.1≠0->Below lo w0 w')
def zzx(f:Fl.Frame)(fs:List Fl.Frame):Xf (f::fs)=Xf fs++[.int .u8 (zzy f:Nat)]:=by simp[Xf]
def yz5(fs:List Fl.Frame):(Xf fs).length=fs.length:=by simp[Xf]
def zr3(fl:List FlS)(f:FlS):Jg (fl++[f])=Jg fl++Zn f:=by simp[Jg]
section
variable{r':RS}{fl fl':List FlS}{t':Nat}{m m':Yo}
def Zk.move(h:Zk r fl t m)(e1:r'.au=r.au)(e2:r'.cells=r.cells)(e3:r'.aj=r.aj)(e4:r'.ak=r.ak)(e5:r'.aI=r.aI)(e6:r'.aF=r.aF)(e7:r'.aT=r.aT)(e8:r'.aS=r.aS)(e9:r'.ae=r.ae)
  (hv:∀i,i≠8->i≠10->m'.n i=m.n i/\m'.xs i=m.xs i) (r8:m'.n 8=r'.fr.length/\m'.xs 8=Xf r'.fr) (gw:m'.n 10=fl'.length/\m'.xs 10=Jg fl') (hb:m'.ae=m.ae/\∀n t,zd0 m n t->zd0 m' n t) (st:m'.am=r'.am) (sm:r'.am<=16) (fr:r'.fr.length<=3) (ht:t<=t') (ft:fl'.length<=t'):Zk r' fl' t' m':=by
 have g:∀i,i≠8->i≠10->∀{k:Nat} {xs:Vs},m.n i=k/\m.xs i=xs->m'.n i=k/\m'.xs i=xs:=λi h1 h2 k xs hh=>⟨(hv i h1 h2).1.trans hh.1,(hv i h1 h2).2.trans hh.2⟩;exact{r1:=by rw[e1];exact g 1 (by decide) (by decide) h.r1,r2:=by rw[e2];exact g 2 (by decide) (by decide) h.r2,r3:=by rw[e3];exact g 3 (by decide) (by decide) h.r3,r4:=by rw[e4];exact g 4 (by decide) (by decide) h.r4,r5:=by rw[e5];exact g 5 (by decide) (by decide) h.r5,r6:=by rw[e6];exact g 6 (by decide) (by decide) h.r6,r8:=r8,gw:=gw,jX:=by rw[e7];exact g 12 (by decide) (by decide) h.jX,jG:=by rw[e8];exact g 13 (by decide) (by decide) h.jG,bg:=by rw[hb.1,e9];exact h.bg,st:=st,nm:=by rw[e1,e2,e3,e4];exact h.nm,lv:=by rw[e1];exact h.lv,ce:=by rw[e2];exact h.ce,ch:=by rw[e3];exact h.ch,lo:=by rw[e4];exact h.lo,sm:=sm,fr:=fr,lw:=by rw[e5];have:=h.lw;omega,ft:=ft,pr:=by rw[e5,e6];exact h.pr,bw:=by rw[e1,e5,e6];exact h.bw,cl:=by rw[e7,e2];exact h.cl,hl:=by rw[e8,e3];exact h.hl,lt:=λhh=>by unfold RS.tab;rw[e1,e5,e6];exact hb.2 _ _ (h.lt (e9.symm.trans hh))}
def Zk.cX(h:Zk r fl t m){f:Fl.Frame}{fs:List Fl.Frame}(hf:r.fr=f::fs)(hk:f.kind=5)(v8 v':Value):Zk r.cX (fl++[Xe]) (t+1) ((zx9 m v8 (m.n 8) (Xf fs++[.int .u8 101])).app 10 v' (Zn Xe)):=by
 have e:r.cX={r with fr:={f with cA:=true}::fs}:=by unfold RS.cX;rw[hf]
 have h8:=h.r8;rw[hf]at h8;have b0:=h.ft;have a0:=h.fr;rw[hf]at a0;rw[e];refine h.move rfl rfl rfl rfl rfl rfl rfl rfl rfl (λi h1 h2=>?_) ⟨?_,?_⟩ ⟨?_,?_⟩ ⟨rfl,λ_ _ h=>h⟩ h.st h.sm a0 (by omega) (by simp;omega)
 ·show (if i=10 then _ else if i=8 then _ else m.n i)=_/\(if i=10 then _ else if i=8 then _ else m.xs i)=_
  simp[h1,h2]
 ·exact h8.1
 ·show Xf fs++[.int .u8 101]=Xf ({f with cA:=true}::fs)
  rw[zzx];simp[zzy,hk]
 ·show m.n 10+1=_
  rw[h.gw.1];simp
 show m.xs 10++_=_;rw[h.gw.2,zr3]
def ends_fr(hf:r.fr=f::fs):r.bB.fr.length=fs.length/\Xf r.bB.fr=Xf fs:=by
 unfold RS.bB;rw[hf]
 cases fs with
 |nil=>exact⟨rfl,rfl⟩
 |cons g gs=>
  refine⟨rfl,?_⟩;show Xf ((if g.cA then _ else _)::gs)=_;rw[zzx,zzx]
  cases hg:g.cA<;>simp[zzy,hg]
def yz6(hf:r.fr=f::fs):r.bB.au=r.au/\r.bB.cells=r.cells/\r.bB.aj=r.aj/\r.bB.ak=r.ak/\r.bB.aI=r.aI/\r.bB.aF=r.aF/\r.bB.aT=r.aT/\r.bB.aS=r.aS/\r.bB.ae=r.ae/\r.bB.am=r.am:=by
 unfold RS.bB;rw[hf]
 cases fs<;>exact⟨rfl,rfl,rfl,rfl,rfl,rfl,rfl,rfl,rfl,rfl⟩
def Zk.bB(h:Zk r fl t m){f:Fl.Frame}{fs:List Fl.Frame}(hf:r.fr=f::fs)(v8 v':Value):Zk r.bB (fl++[Xk]) (t+1) ((zx9 m v8 fs.length (Xf fs)).app 10 v' (Zn Xk)):=by
 obtain⟨e1,e2,e3,e4,e5,e6,e7,e8,e9,e10⟩:=yz6 hf;obtain⟨f1,f2⟩:=ends_fr hf;have b0:=h.ft;have a0:=h.fr;rw[hf,length_cons]at a0;refine h.move e1 e2 e3 e4 e5 e6 e7 e8 e9 (λi h1 h2=>?_) ⟨f1.symm,f2.symm⟩ ⟨?_,?_⟩ ⟨rfl,λ_ _ h=>h⟩ (by rw[e10];exact h.st) (by rw[e10];exact h.sm) (by rw[f1];omega) (by omega) (by simp;omega)
 ·show (if i=10 then _ else if i=8 then _ else m.n i)=_/\(if i=10 then _ else if i=8 then _ else m.xs i)=_
  simp[h1,h2]
 ·show m.n 10+1=_
  rw[h.gw.1];simp
 show m.xs 10++_=_;rw[h.gw.2,zr3]
def yt9(s:aa):(r.put s).au=r.au/\(r.put s).cells=r.cells/\(r.put s).aj=r.aj/\(r.put s).ak=r.ak/\(r.put s).aI=r.aI/\(r.put s).aF=r.aF/\(r.put s).aT=r.aT/\(r.put s).aS=r.aS/\(r.put s).ae=r.ae/\(r.put s).am=r.am+1/\(r.put s).fr.length=r.fr.length/\Xf (r.put s).fr=Xf r.fr:=by
 unfold RS.put
 cases hf:r.fr with
 |nil=>exact⟨rfl,rfl,rfl,rfl,rfl,rfl,rfl,rfl,rfl,rfl,rfl,rfl⟩
 |cons g gs=>
  refine⟨rfl,rfl,rfl,rfl,rfl,rfl,rfl,rfl,rfl,rfl,rfl,?_⟩;show Xf ((if g.cA then _ else _)::gs)=_;rw[zzx,zzx]
  cases hg:g.cA<;>simp[zzy,hg]
def Zk.put(h:Zk r fl t m)(s:aa)(f:FlS)(hs:r.am<16)(v':Value):Zk (r.put s) (fl++[f]) (t+1) {m.app 10 v' (Zn f) with am:=r.am+1}:=by
 obtain⟨e1,e2,e3,e4,e5,e6,e7,e8,e9,e10,f1,f2⟩:=yt9 (r:=r) s;have a0:=h.ft;have b0:=h.fr;refine h.move e1 e2 e3 e4 e5 e6 e7 e8 e9 (λi h1 h2=>?_) ⟨?_,?_⟩ ⟨?_,?_⟩ ⟨rfl,λ_ _ h=>h⟩ (by rw[e10]) (by rw[e10];omega) (by rw[f1];omega) (by omega) (by simp;omega)
 ·show (if i=10 then _ else m.n i)=_/\(if i=10 then _ else m.xs i)=_
  simp[h2]
 ·rw[f1];exact h.r8.1
 ·rw[f2];exact h.r8.2
 ·show m.n 10+1=_
  rw[h.gw.1];simp
 show m.xs 10++_=_;rw[h.gw.2,zr3]
def Zk.opens(h:Zk r fl t m)(kind ap:Nat)(e:da)(hs:r.am<16)(hl:r.fr.length<3)(v' v8:Value)(c:Nat)(hc:c=if kind=6 then 119 else 105):Zk (r.opens kind ap e) (fl++[⟨0,⟨kind,0,ap,e,[],[]⟩⟩]) (t+1) ({m.app 10 v' (Zn ⟨0,⟨kind,0,ap,e,[],[]⟩⟩) with am:=r.am+1}.app 8 v8 [.int .u8 (c:Nat)]):=by
 have a0:=h.ft;refine h.move rfl rfl rfl rfl rfl rfl rfl rfl rfl (λi h1 h2=>?_) ⟨?_,?_⟩ ⟨?_,?_⟩ ⟨rfl,λ_ _ h=>h⟩ rfl (by show r.am+1<=16;omega) (by show (_::r.fr).length<=3;simp;omega) (by omega) (by simp;omega)
 ·show (if i=8 then _ else if i=10 then _ else m.n i)=_/\(if i=8 then _ else if i=10 then _ else m.xs i)=_
  simp[h1,h2]
 ·show m.n 8+1=(_::r.fr).length
  rw[h.r8.1];simp
 ·show m.xs 8++_=Xf (_::r.fr)
  rw[h.r8.2,zzx,hc];simp[zzy]
 ·show m.n 10+1=_
  rw[h.gw.1];simp
 show m.xs 10++_=_;rw[h.gw.2,zr3]
def iq(ws:List K):(r.head ws).2.ct=r.ct/\(r.head ws).2.fr=r.fr/\(r.head ws).2.am=r.am:=by
 unfold RS.head
 repeat' split
 all_goals exact⟨rfl,rfl,rfl⟩
def Xd.same(h:Xd fl r)(e1:r'.ct=r.ct)(e2:r'.fr=r.fr):Xd fl r':=by
 obtain⟨a,b,h1,h2,h3⟩:=h;exact⟨a,b,h1,by rw[e1];exact h2,by rw[e2];exact h3⟩
def Yh.row{ws:List K}{e:Ending}(hf:Xd fl r)(hc:dy fl=r.am)(h:Yh lo base Rb Pb w0 fl t (r.head ws) e w'):Xu lo base Rb Pb w0 t (r.head ws) e w':=by
 obtain⟨h1,h2,h3⟩:=h;obtain⟨s1,s2,s3⟩:=iq (r:=r) ws;refine⟨h1,λh0=>?_,h3⟩;obtain⟨m',hm,hr⟩:=h2 h0;exact⟨m',fl,hm,hr,hf.same s1 s2,by rw[s3];exact hc⟩
end
section
variable   {m : Yo}  {fl : List FlS} 
def row_bad (h : Zt lo base Rb Pb w0 w m) (hr : Zk r fl t m) (b off n cap : Nat) (at_ : Int) (x0 : ByteArray) (hn : 1 <= n /\ n <= maxLen) (c0 : w.cell? ⟨b, off, none⟩ = some (.string x0)) (hh : du x0.toList = r.ae) :
  F 12 #[.pointer (some ⟨Rb, 0, none⟩), J (some ⟨b, off, none⟩) n cap, I at_] w (Xu lo base Rb Pb w0 t (3, r)) := by
 have x7 : w.cell? ⟨Rb, 7, none⟩ = some (.bool r.ae) := by rw [<- hr.bg]; exact h.cR.c 7 (by omega)
 have a0 : (0 : Int) < (n : Int) := by omega
 have HE : O (Xu lo base Rb Pb w0 t (3, r) (.returned (I 3)) w) := ⟨rfl, λh => (by cases h), λ_ => h.bel⟩
 rw [<- hh] at x7
 clear h hr hh
 rcases dN x0.toList with h | h | h | h | h | h | h | h | h | h | h | h
 all_goals
  obtain ⟨k1, k2, k3, k4, k5, k6, k7, k8, k9, k10, k11⟩ := h
  simp only [du, cN, bO, cB, bk, dv, k1, k2, k3, k4, k5, Bool.or_true, Bool.true_or, Bool.or_false, Bool.false_or] at x7
  go_enter func12, ntmps12
  go_wp2
  go_ret
  exact HE
def ydv (h : Zt lo base Rb Pb w0 w m) (hr : Zk r fl t m) (hf : Xd fl r) (hc : dy fl = r.am) (b off n cap : Nat) (at_ : Int) (x0 : ByteArray) (ws : List K) (hn : 1 <= n /\ n <= maxLen) (c0 : w.cell? ⟨b, off, none⟩ = some (.string x0)) (hh : du x0.toList = true) (hb : r.ae = false)
    (b0 : F 22 #[.pointer (some ⟨Rb, 0, none⟩), J (some ⟨b, off, none⟩) n cap] w (Yh lo base Rb Pb w0 fl t (r.head ws))) :
    F 12 #[.pointer (some ⟨Rb, 0, none⟩), J (some ⟨b, off, none⟩) n cap, I at_] w (Xu lo base Rb Pb w0 t (r.head ws)) := by
  have x7 : w.cell? ⟨Rb, 7, none⟩ = some (.bool false) := by rw [<- hb, <- hr.bg]; exact h.cR.c 7 (by omega)
  have e0 : (0 : Int) < (n : Int) := by omega
  have d0 : O (F 22 #[.pointer (some ⟨Rb, 0, none⟩), J (some ⟨b, off, none⟩) n cap] w (λe w' => (∃ v, e = .returned (I v)) /\ Xu lo base Rb Pb w0 t (r.head ws) e w')) := by
    refine b0.mono ?_
    intro e w' he
    exact ⟨⟨_, he.1⟩, he.row hf hc⟩
  obtain ⟨aX, a0⟩ := U (r.head ws)
  rw [<- a0] at d0 ⊢
  clear h hr hb hf hc b0 a0
  rcases dN x0.toList with h | h | h | h | h | h | h | h | h | h | h | h
  all_goals
    obtain ⟨k1, k2, k3, k4, k5, k6, k7, k8, k9, k10, k11⟩ := h
    simp only [du, cN, bO, cB, bk, dv, k1, k2, k3, k4, k5, Bool.or_true, Bool.true_or, Bool.or_false, Bool.false_or] at hh
    first
    | (exact absurd hh (by decide))
    | (clear hh
       go_enter func12, ntmps12
       go_wp2_with fail
       refine d0.mono ?_
       rintro e w1 ⟨⟨v, rfl⟩, he⟩
       have HE : O _ := he
       clear he
       go_wp2
       go_ret
       exact HE)
end
def yq0(m:Nat):∀(l:List Nat),(Zp m l).size=m:=by
 have key:∀(l:List Nat) (d:Array Bool),(l.foldl (λd i=>d.setIfInBounds i true) d).size=d.size:=by
  intro l
  induction l with
  |nil=>intro d;rfl
  |cons i l ih=>intro d;rw[foldl_cons,ih];simp
 intro l;unfold Zp;rw[key];simp
def zoz(ops:Array Oper)(late:List Nat):List Nat->List (Nat×Nat)->Bool
 |_,[]=>true
 |pre,(0,i)::l=>free .any ops (Zp ops.size pre) i && ((ready .any ops (Zp ops.size pre)).contains i && (late.all (λk=>zn1 ops k i) && zoz ops late (pre++[i]) l))
 |pre,(_+1,i)::l=>decide (ready .any ops (Zp ops.size pre)=[i]) && zoz ops late (pre++[i]) l
section
variable{S S':World->Prop}{Qy:Act->World->Prop}{late:List Nat}
def zl3:∀(fuel:Nat) (listed:Array Bool) (a:Act) (w:World),(∀i,listed.getD i true=false->i∈late)->Jr P ops Q S' [] fuel listed a w->Jr P ops Q S late fuel listed a w
 |0,_,_,_,_,h=>h
 |fuel+1,listed,a,w,hl,h=>⟨h.1,λi hi=>wpOp_mono (λa' w' h'=>⟨λhn=>absurd (hl i (mem_ready.1 hi).1) hn,zl3 fuel _ a' w' (λk hk=>hl k (by
   by_cases a0:i=k
   ·subst a0;exact(mem_ready.1 hi).1
   rw[getD_set_ne true a0]at hk;exact hk)) h'.2⟩) (h.2 i hi)⟩
def zkv(f:Nat)(hs:noSelect ops=true)(hQ:∀c a d v w,Q (.panic c) (put a d v) w->Q (.panic c) a w):
  ∀(st:List (Nat×Nat)) (so:List (Nat×Oper)) (pre:List Nat) (a:Act) (w:World),S w->st.map (λp=>(p.1,ops[p.2]?))=so.map (λp=>(p.1,some p.2))->zoz ops late pre st=true->
  (∀a w,Qy a w->S w->Jr P ops Q S late f (Zp ops.size (pre++st.map (·.2))) a w)->
  Xo P ops S Q Qy so a w->Jr P ops Q S late (f+st.length) (Zp ops.size pre) a w
 |[],so,pre,a,w,hS,a0,hB,hE,h=>by
  have:so=[]:=by cases so with|nil=>rfl|cons o so=>simp at a0
  subst this;have:=hE a w h.2 h.1;simpa using this
 |(0,i)::st,so,pre,a,w,hS,a0,hB,hE,h=>by
  cases so with
  |nil=>simp at a0
  |cons p so=>
   obtain⟨c,o⟩:=p;simp only[map_cons,List.cons.injEq,Prod.mk.injEq]at a0;obtain⟨⟨rfl,ho⟩,a0⟩:=a0;simp only[zoz,Qk,all_eq_true]at hB;obtain⟨v,h1,h2⟩:=h;have ih:=zkv f hs hQ st so (pre++[i]) (a.put o.dst v) w hS a0 hB.2.2.2 (λa w hE' hS'=>by have:=hE a w hE' hS';simpa using this) h2;rw[Yx]at ih;have:=zr9 ho (noSelect_spec hs) (λc a w h=>hQ c a _ _ w h) hB.2.2.1 (f+st.length) _ a w (free_spec ho hB.1) (by simpa using hB.2.1) h1 hS ih;simpa [Nat.add_assoc] using this
 |(k+1,i)::st,so,pre,a,w,hS,a0,hB,hE,h=>by
  cases so with
  |nil=>simp at a0
  |cons p so=>
   obtain⟨c,o⟩:=p;simp only[map_cons,List.cons.injEq,Prod.mk.injEq]at a0;obtain⟨⟨rfl,ho⟩,a0⟩:=a0;simp only[zoz,Qk,Qn]at hB;rw[length_cons,<-Nat.add_assoc];refine⟨λh0=>(by rw[hB.1]at h0;cases h0),λx hx=>?_⟩;rw[hB.1]at hx;simp only[mem_singleton]at hx;subst hx;refine wpOp_mono (λa1 w1 hk=>⟨λ_=>hk.1,?_⟩) (Uy ho h);have ih:=zkv f hs hQ st so (pre++[x]) a1 w1 hk.1 a0 hB.2 (λa w hE' hS'=>by have:=hE a w hE' hS';simpa using this) hk.2
   rwa [Yx]at ih
def zyz{id:Nat}{l:List Oper}(S:World->Prop)(late:List Nat)(st st2:List (Nat×Nat))(i j:Nat)(hm:P.follows .mixedOrders=true)
  (hB:(noSelect l.toArray && (zoz l.toArray late [] st && (((range l.length).all λk=>(Zp l.toArray.size (st.map (·.2))).getD k true||late.contains k) && (zyy l.toArray (st.map (·.2)) st2 && (decide (ready .any l.toArray (Zp l.toArray.size (st.map (·.2)++st2.map (·.2)))=[i,j]) && (decide (ready .any l.toArray (Zp l.toArray.size (st.map (·.2)++st2.map (·.2)++[i]))=[j]) && (decide (ready .any l.toArray (Zp l.toArray.size (st.map (·.2)++st2.map (·.2)++[j]))=[i]) && (decide (ready .any l.toArray (Zp l.toArray.size (st.map (·.2)++st2.map (·.2)++[i]++[j]))=[]) && decide (ready .any l.toArray (Zp l.toArray.size (st.map (·.2)++st2.map (·.2)++[j]++[i]))=[])))))))))=true)
  (bt:l.length=2+st2.length+st.length) (so so2:List (Nat×Oper)) (oi oj:Oper) (d0:st.map (λp=>(p.1,l.toArray[p.2]?))=so.map (λp=>(p.1,some p.2))) (b0:st2.map (λp=>(p.1,l.toArray[p.2]?))=so2.map (λp=>(p.1,some p.2))) (hi:l.toArray[i]?=some oi) (hj:l.toArray[j]?=some oj)
  (hQ:∀c a d v w,Q (.panic c) (put a d v) w->Q (.panic c) a w) (hS:S w.drew)
  (h:∀ops:Array Oper,Xo P ops S Q (Xo P ops (λ_=>True) Q (λa' w'=>wpList P ops (Exit.then (λa1 w1=>wpList P ops (Exit.then (λa2 w2=>Q .normal a2 w2) Q) [oj] a1 w1) Q) [oi] a' w'/\wpList P ops (Exit.then (λa1 w1=>wpList P ops (Exit.then (λa2 w2=>Q .normal a2 w2) Q) [oi] a1 w1) Q) [oj] a' w') so2) so a w.drew):(Code.region id l.toArray true).wp P Q a w:=by
 simp only[Qk,Qn]at hB;obtain⟨hs,hh,c0,e0,r0,ri,rj,rij,rji⟩:=hB;have key:=zkv (P:=P) (Q:=Q) (S:=S) (late:=late) (ops:=l.toArray) (2+st2.length) hs hQ st so [] a w.drew hS d0 hh ?_ (h l.toArray)
 ·refine wp_region_any hm (zy0 (S:=S) (late:=late) _ _ _ _ ?_)
  have e:l.toArray.size=2+st2.length+st.length:=(by simp[bt]);rw[<-e]at key;simpa [Zp] using key
 intro a0 w0 f0 _;refine zl3 (S':=λ_=>True) _ _ _ _ (λk hk=>?_) ?_
 ·simp only[nil_append]at hk
  by_cases g0:k<l.length
  ·have:=all_eq_true.1 c0 k (mem_range.2 g0)
   rw[hk,Bool.false_or]at this;simpa using this
  have cH:(Zp l.toArray.size (st.map (·.2))).size<=k:=(by rw[yq0];simp;omega);rw[Array.getD_eq_getD_getElem?,Array.getElem?_eq_none cH]at hk
  cases hk
 refine zv3 (S:=λ_=>True) 2 hs hQ st2 so2 ([]++st.map (·.2)) a0 w0 trivial b0 (by simpa using e0) ?_ f0;intro a' w' hE _
 have step:∀(x y:Nat) (ox oy:Oper),l.toArray[x]?=some ox->l.toArray[y]?=some oy->ready .any l.toArray (Zp l.toArray.size (st.map (·.2)++st2.map (·.2)++[x]))=[y]->ready .any l.toArray (Zp l.toArray.size (st.map (·.2)++st2.map (·.2)++[x]++[y]))=[]->
   wpList P l.toArray (Exit.then (λa1 w1=>wpList P l.toArray (Exit.then (λa2 w2=>Q .normal a2 w2) Q) [oy] a1 w1) Q) [ox] a' w'->wpOp P l.toArray Q x (λa1 w1=>(x ∉ ([]:List Nat)->True)/\Jr P l.toArray Q (λ_=>True) [] 1 ((Zp l.toArray.size ([]++st.map (·.2)++st2.map (·.2))).setIfInBounds x true) a1 w1) a' w':=by
  intro x y ox oy hx hy h1 h2 hw;refine wpOp_mono (λa1 w1 hk=>⟨λ_=>trivial,?_⟩) (Uy hx hw);have e1:(Zp l.toArray.size ([]++st.map (·.2)++st2.map (·.2))).setIfInBounds x true=Zp l.toArray.size (st.map (·.2)++st2.map (·.2)++[x]):=(by rw[Yx];rfl);rw[e1];refine⟨λh0=>(by rw[h1]at h0;cases h0),λz hz=>?_⟩;rw[h1]at hz;simp only[mem_singleton]at hz;subst hz;refine wpOp_mono (λa2 w2 i0=>⟨λ_=>trivial,?_⟩) (Uy hy hk);have e2:(Zp l.toArray.size (st.map (·.2)++st2.map (·.2)++[x])).setIfInBounds z true=Zp l.toArray.size (st.map (·.2)++st2.map (·.2)++[x]++[z]):=(Yx _ _ _).symm;rw[e2];exact⟨h2,i0⟩
 refine⟨λh0=>?_,λz hz=>?_⟩
 ·simp only[nil_append]at h0;rw[r0]at h0;cases h0
 simp only[nil_append]at hz;rw[r0]at hz;simp only[mem_cons,not_mem_nil,or_false]at hz;rcases hz with rfl|rfl
 ·exact step _ j oi oj hi hj ri rij hE.1
 exact step _ i oj oi hj hi rj rji hE.2
end
section
variable{rest:List Oper}{ty:TypeId}{ps:String}{af:Array Edge}{p d:Nat}{y:Operand}
def Vt(g:Nat)(arr:Array Value)(hg:w.heap[g]?=some (.cells arr 75 (0,0)))(cH:arr.size=10)(hx:a.eval (.tmp p)=M g)(h:wpList prog ops Q rest (a.put (some d) (.agg arr)) w):
  wpList prog ops Q ({dst:=some d,op:=.load 75 (.tmp p),type:=ty,pos:=ps,after:=af,guard:=none}::rest) a w:=
 zq9 rfl (.tmp p) 75 rfl g hx arr 75 (0,0) hg _ underlying75 rfl (by rw[cH];exact Tryz.infoStmt10) h
def Ys(g:Nat)(c c':Array Value)(hg:w.heap[g]?=some (.cells c 75 (0,0)))(cH:c.size=10)(hsz':c'.size=10)(h1:c'.all (·.oneCell')=true)(hx:a.eval (.tmp p)=M g)(hy:a.eval y=.agg c')(h:wpList prog ops Q rest (a.put none undef) (w.setRow g c')):
  wpList prog ops Q ({dst:=none,op:=.store 75 (.tmp p) y,type:=ty,pos:=ps,after:=af,guard:=none}::rest) a w:=
 Jx rfl (.tmp p) y 75 rfl g hx c c' hy 75 hg (by rw[hsz'];exact Tryz.infoStmt10) (by rw[cH,hsz']) h1 h
def zt4(p:Nat)(h:wpList P ops Q ({dst:=some d,op:=.load 75 (.tmp p),type:=ty,pos:=ps,after:=af,guard:=none}::rest) a w):wpList P ops Q ({dst:=some d,op:=.load 75 (.tmp p),type:=ty,pos:=ps,after:=af,guard:=none}::rest) a w:=h
def Ya(p:Nat)(h:wpList P ops Q ({dst:=none,op:=.store 75 (.tmp p) y,type:=ty,pos:=ps,after:=af,guard:=none}::rest) a w):wpList P ops Q ({dst:=none,op:=.store 75 (.tmp p) y,type:=ty,pos:=ps,after:=af,guard:=none}::rest) a w:=h
end
def Xp(k x op:Int)(av:Bool)(an:Int)(bv:Bool)(bn:Int):(Zg k x op av an bv bn).all (·.oneCell')=true:=by simp[Zg,oneCell']
def zy6{b:Nat}{arr:Array Value}{t:TypeId}(h:w.heap[b]?=some (.cells arr t (0,0)))(i:Nat)(v:Value)(arr':Array Value)(he:arr.setIfInBounds i v=arr'):(w.setCell (Y b i) v).heap[b]?=some (.cells arr' t (0,0)):=by
 rw[heap_setCell_same w b i arr t v h,he]
def zm7(Rb:Nat)(w:World)(m:Yo)(w':World)(m':Yo):Prop:=∀b,b<w.heap.size->b≠Rb->(∀j,Zr j->(m.v j).ownBlock≠some b)->w'.heap[b]?=w.heap[b]?/\∀j,Zr j->(m'.v j).ownBlock≠some b
def zm7.below{m:Yo}(h:E w w'):zm7 Rb w m w' m:=λb hb _ dS=>⟨h.block b hb,dS⟩
def zwy(lo base Rb Pb:Nat)(w0 w:World)(m:Yo)(fl:List FlS)(t:Nat)(aX:Nat×aa×RS)(e:Ending)(w':World):Prop:=
 (aX.1=0->e=.returned (.tuple #[.agg (Zg aX.2.1.kind aX.2.1.x aX.2.1.e.op aX.2.1.e.a.var aX.2.1.e.a.v aX.2.1.e.b.var aX.2.1.e.b.v),I 0])/\∃m',Zt lo base Rb Pb w0 w' m'/\Zk aX.2.2 fl t m'/\zm7 Rb w m w' m')/\
 (aX.1≠0->(∃(k x op:Int) (av:Bool) (an:Int) (bv:Bool) (bn:Int),e=.returned (.tuple #[.agg (Zg k x op av an bv bn),I aX.1]))/\Below lo w0 w')
def Jd{fn:Func}(hf:fn.results=#[.cell 4 75,.tmp 5]){R:Ending->World->Prop}{cs0 cs:Array Value}{c:Int}(hE:W.heap[n]?=some (.cells cs0 75 (0,0)))(ha:a.tmps.getD 4 undef=M n)(hc:a.tmps.getD 5 undef=I c)(hd:a.defers=[])(hs:cs.size=10)(hR:R (.returned (.tuple #[.agg cs,I c])) (W.setRow n cs)):bodyPost prog fn R .ret a (W.setRow n cs):=
 bodyPost_ret (by rw[<-hc];exact zq0 hf _ _ (Y n 0) _ ha (run_loadVar_row _ _ _ _ _ _ _ (setRow_heap _ _ _ _ _ _ hE) underlying75 rfl (by rw[hs];exact Tryz.infoStmt10))) hd hR
def zw8(r:RS)(kind:Nat)(a:K):Nat×aa×RS:=match r.value [a] with
 |none=>(4,noS,r)
 |some e=>(0,⟨kind,0,0,e,[],[]⟩,r)
section
variable{m:Yo}{fl:List FlS}
def ypy(h:Zt lo base Rb Pb w0 w m)(hr:Zk r fl t m)(b off cap:Nat)(kw:ByteArray)(k:Nat)(hk:(kw=⟨#[105,102]⟩/\k=5)\/(kw=⟨#[119,104,105,108,101]⟩/\k=6))(a:K)(ha:a.length<=100000)(hb:b<w.heap.size)(k0:2<=cap/\cap<=maxLen)(c0:w.cell? (Y b off)=some (.string kw))(c1:w.cell? (Y b (off+1))=some (Tq a)):
  F 23 #[M Rb,Sq b off 2 cap] w (zwy lo base Rb Pb w0 w m fl t (zw8 r k a)):=by
 have bP:=h.bP;have HH:=A h;have HO:=A hr;have h0:O (∀W,E w W->F 33 #[M Rb,Tq a] W (zo8 (r.atom a) W)):=λW hW=>zs2 (h.below hW) hr a ha;have e0:O (zw8 r k a=match r.atom a with|none=>(4,noS,r)|some x=>(0,⟨k,0,0,⟨-1,x,kz⟩,[],[]⟩,r)):=by
  show _=_;have hv:r.value [a]=(r.atom a).map λx=>⟨-1,x,kz⟩:=rfl;unfold zw8;rw[hv];generalize r.atom a=o
  cases o<;>rfl
 obtain⟨aX,b0⟩:=U (zw8 r k a);rw[<-b0]at e0⊢;obtain⟨oa,i0⟩:=U (r.atom a);rw[<-i0]at h0 e0
 have j0:(2:Int)<=(cap:Int):=by omega
 have HB:O (∀o o',E w ((w.alloc o).alloc o')):=λo o'=>(bA).alloc (by simp) _;clear h hr b0 i0;rcases hk with⟨rfl,rfl⟩|⟨rfl,rfl⟩
 all_goals
  go_enter func23,ntmps23
  go_wp2_with fail
  refine(h0 _ (HB _ _)).mono ?_;rintro e W1 ⟨d0,aQ,a0⟩;have rE:W1.heap[w.heap.size]?=some (.cells Yv 75 (0,0)):=by
   rw[d0.block _ (by simp;omega),Below.heap_alloc _ _ _ (by simp)];exact zx8 _ _ _ rfl
  have rS:=(d0.block (w.heap.size+1) (by simp)).trans (zx8 _ _ _ (by simp));have l0:O (E w W1):=(HB _ _).trans (d0.mono (by simp;omega));have n0:w.heap.size+2<=W1.heap.size:=(by have:=d0.size;simp at this;omega);have o0:w.heap.size+1<W1.heap.size:=(by omega);have m0:w.heap.size<W1.heap.size:=(by omega);have s0:D W1 (w.heap.size+1) 0 _:=cR 0 rS;have s1:D W1 (w.heap.size+1) 1 (I 0):=cR 1 rS;have s2:D W1 (w.heap.size+1) 2 (I 0):=cR 2 rS;have s3:D W1 (w.heap.size+1) 3 (I (-1)):=cR 3 rS;have s4:D W1 (w.heap.size+1) 4 (.bool false):=cR 4 rS;have s5:D W1 (w.heap.size+1) 5 (I 0):=cR 5 rS;have s6:D W1 (w.heap.size+1) 6 (.bool false):=cR 6 rS;have s7:D W1 (w.heap.size+1) 7 (I 0):=cR 7 rS;have s8:D W1 (w.heap.size+1) 8 Zq:=cR 8 rS;have s9:D W1 (w.heap.size+1) 9 Zq:=cR 9 rS
  have sz:∀j,W1.frozen? (Y (w.heap.size+1) j)=false:=λj=>by simp[frozen?,rS]
  have RE:=A rE;clear rE rS d0
  have f0:O (∀u v a,(((W1.setCell (Y (w.heap.size+1) 4) u).setCell (Y (w.heap.size+1) 5) v).alloc a).heap[w.heap.size]?=some (.cells Yv 75 (0,0))):=λu v a=>by
   rw[Below.heap_alloc _ _ _ (by rw[Zy,Zy];exact m0),Zx _ _ _ _ _ (by omega),Zx _ _ _ _ _ (by omega)];exact RE
  have g0:O (∀u v a c,E w ((((W1.setCell (Y (w.heap.size+1) 4) u).setCell (Y (w.heap.size+1) 5) v).alloc a).setRow w.heap.size c)):=λu v a c=>by
   refine below_setRow ((((l0.setCell (by show w.heap.size<=w.heap.size+1;omega) _).setCell (by show w.heap.size<=w.heap.size+1;omega) _)).alloc (by rw[Zy,Zy];omega) _) lE _
  cases oa with
  |none=>
   obtain⟨v,rfl⟩:=a0 rfl;have HR:=A e0.out;clear aQ a0
   go_wp2_with (refine Ya 4 ?_;refine Ys w.heap.size Yv (Zg _ 0 (-1) true v false 0) (f0 _ _ _) rfl rfl (Xp _ _ _ _ _ _ _) rfl rfl ?_)
   refine Jd results23 (f0 _ _ _) rfl rfl rfl rfl ?_;rw[HR.out];exact⟨λh=>(by cases h),λ_=>⟨⟨_,_,_,_,_,_,_,rfl⟩,(HH.below (g0 _ _ _ _)).bel⟩⟩
  |some x=>
   obtain rfl:=aQ x rfl;have HR:=A e0.out;clear aQ a0
   go_wp2_with (refine Ya 4 ?_;refine Ys w.heap.size Yv (Zg _ 0 (-1) x.var x.v false 0) (f0 _ _ _) rfl rfl (Xp _ _ _ _ _ _ _) rfl rfl ?_)
   refine Jd results23 (f0 _ _ _) rfl rfl rfl rfl ?_;rw[HR.out];exact⟨λ_=>⟨rfl,m,HH.below (g0 _ _ _ _),HO,zm7.below (g0 _ _ _ _)⟩,λh=>absurd rfl h⟩
def st_if(h:Zt lo base Rb Pb w0 w m)(hr:Zk r fl t m)(b off cap:Nat)(a:K)(ha:a.length<=100000)(hb:b<w.heap.size)(a0:2<=cap/\cap<=maxLen)(c0:w.cell? (Y b off)=some (.string ⟨#[105,102]⟩))(c1:w.cell? (Y b (off+1))=some (Tq a)):
  F 23 #[M Rb,Sq b off 2 cap] w (zwy lo base Rb Pb w0 w m fl t (zw8 r 5 a)):=
 ypy h hr b off cap _ 5 (.inl ⟨rfl,rfl⟩) a ha hb a0 c0 c1
def yc0(h:Zt lo base Rb Pb w0 w m)(hr:Zk r fl t m)(b off cap:Nat)(a:K)(ha:a.length<=100000)(hb:b<w.heap.size)(a0:2<=cap/\cap<=maxLen)(c0:w.cell? (Y b off)=some (.string ⟨#[119,104,105,108,101]⟩))(c1:w.cell? (Y b (off+1))=some (Tq a)):
  F 23 #[M Rb,Sq b off 2 cap] w (zwy lo base Rb Pb w0 w m fl t (zw8 r 6 a)):=
 ypy h hr b off cap _ 6 (.inr ⟨rfl,rfl⟩) a ha hb a0 c0 c1
end
end Go.Proofs.YtjmcibbdedlcoaaGreatDoor
