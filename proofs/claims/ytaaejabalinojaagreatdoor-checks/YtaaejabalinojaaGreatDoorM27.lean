import Derived.Test.YtaaejabalinojaaGreatDoorM25
set_option linter.all false
set_option maxRecDepth 100000
set_option maxHeartbeats 40000000
namespace Go.Proofs.YtaaejabalinojaaGreatDoor
open Go.RowKit Go.Proofs.Tryz
def Yl(lo base Rb Pb:Nat)(w0:World)(fl:List FlS)(t:Nat)(res:Nat×Fl.RS)(e:Ending)(w':World):Prop:=
 e=.returned (.int .i64 res.1)/\(res.1=0->∃m',Zu lo base Rb Pb w0 w' m'/\Zh res.2 fl (t+1) m')/\(res.1≠0->Below lo w0 w')
section
variable{lo base Rb Pb:Nat}{w0 w w':World}{m:Yn}{r:Fl.RS}{fl:List FlS}{t:Nat}
def Zh.later(h:Zh r fl t m):Zh r fl (t+1) m:={h with lw:=by have:=h.lw;omega,ft:=by have:=h.ft;omega}
def Zh.addLevel(h:Zh r fl t m)(x:List UInt8)(v:Value)(hx:x.length<=100000)(hl:r.levels.length<6)(a0:r.begun=false):Zh {r with levels:=r.levels++[x]} fl t (m.app 1 v [strV x]):=
 {
  r1:=⟨by show m.n 1+1=_;rw[h.r1.1];simp,by show m.xs 1++_=_;rw[h.r1.2];simp⟩,r2:=h.r2,r3:=h.r3,r4:=h.r4,r5:=h.r5,r6:=h.r6,r8:=h.r8,r10:=h.r10,r12:=h.r12,r13:=h.r13,bg:=h.bg,st:=h.st,nm:=λy hy=>by
   simp only[List.mem_append,List.mem_singleton]at hy;rcases hy with(h1|rfl)|h1|h1|h1
   ·exact h.nm y (by simp[h1])
   ·exact hx
   ·exact h.nm y (by simp[h1])
   ·exact h.nm y (by simp[h1])
   exact h.nm y (by simp[h1])
  lv:=by simp;omega,ce:=h.ce,ch:=h.ch,lo:=h.lo,sm:=h.sm,fr:=h.fr,lw:=h.lw,ft:=h.ft,pr:=h.pr,bw:=⟨λy hy=>by have:=h.bw.1 y hy;simp;omega,λy hy=>by have:=h.bw.2 y hy;simp;omega⟩,cl:=h.cl,hl:=h.hl,lt:=λhh=>absurd (a0.symm.trans hh) (by simp)}
def yry(h:Zu lo base Rb Pb w0 w m)(hr:Zh r fl t m)(G0:Hid (r.begun=false))(b off cap:Nat)(k n:List UInt8)(H0:n.length<=100000)(hb:b<w.heap.size)(y0:b≠Rb/\∀j,Zt j->(m.v j).ownBlock≠some b)(I0:2<=cap/\cap<=maxLen)(c0:w.cell? ⟨b,off,none⟩=some (.string ⟨#[108,101,118,101,108]⟩))(c1:w.cell? ⟨b,off+1,none⟩=some (.string ⟨n.toArray⟩)):
  Calls prog 29 #[.pointer (some ⟨Rb,0,none⟩),.slice (some ⟨b,off,none⟩) 2 cap] w (Yl lo base Rb Pb w0 fl t (r.head [k,n])):=by
 have hba:=h.hba
 have A0:Rb<w.heap.size:=by omega
 have HH:=Zz h;have HO:=Zz hr;have o0:Hid (∀W,Below w.heap.size w W->Calls prog 28 #[m.v 1,.string ⟨n.toArray⟩] W λe w'=>e=.returned (.int .i64 (Fl.place r.levels n))/\w'=W):=λW hW=>Yd ((h.below hW).levels hr) n;obtain⟨d1,k1,d0⟩:=h.shape 1 (by unfold Zt;omega);rw[hr.r1.1]at d0;have p0:=Zz d0;rw[d0]at o0;have f0:Hid (∀W,Below w.heap.size w W->W.cell? ⟨Rb,1,none⟩=some (.slice d1 r.levels.length k1)/\W.cell? ⟨b,off+1,none⟩=some (.string ⟨n.toArray⟩)):=λW hW=>⟨(hW.cell (p:=⟨Rb,1,none⟩) A0).trans (by rw[<-d0];exact h.cR.c 1 (by omega)),(hW.cell (p:=⟨b,off+1,none⟩) hb).trans c1⟩
 have B0:Hid (∀W,Below w.heap.size w W->W.ownsRow base 9 1 (.slice d1 r.levels.length k1) r.levels.length (r.levels.map strV)):=λW hW=>by
  have h1:=(h.below hW).own 1 (by unfold Zt;omega);rw[hr.r1.1,hr.r1.2,d0]at h1;exact h1
 have a0:Hid (r.head [k,n]=if 0<=Fl.place r.levels n then(4,r) else if r.levels.length=6 then(5,r) else(0,{r with levels:=r.levels++[n]})):=rfl;obtain⟨res,j0⟩:=nmE (r.head [k,n]);rw[<-j0]at a0⊢;have Q0:=Fl.place_cases r.levels n;have R0:=hr.lv;generalize Fl.place r.levels n=pc at*
 have C0:(2:Int)<=(cap:Int):=by omega
 have J0: -1<=pc/\pc<=6:=by omega
 have K0:(r.levels.length:Int)<=6:=by omega
 have D0:Hid ((Value.slice d1 r.levels.length k1).ownBlock≠some b):=by rw[<-d0];exact y0.2 1 (by unfold Zt;omega)
 clear h hr j0 d0 c1 y0
 go_enter func29,ntmps29
 go_wp2_with fail
 refine Zi (λW=>Below w.heap.size w W) [7] [] [] (Below.refl _ _).drew (by kernel_rfl) (λc a d v w h=>by cases d<;>exact h) (λops hG=>?_);clear hG
 iterate 7 refine Xn rfl (kE (by intro w' hw';obtain⟨x0,x1⟩:=f0.out w' hw';clear hw';go_simp<;>rfl) (by go_simp<;>rfl) ?_)
 refine Zk ?_
 go_wp2_with fail
 refine(o0.out _ (Below.refl _ _).drew).mono ?_;rintro e w1 ⟨rfl,E0⟩;rw[E0];clear E0 w1
 go_wp2_with fail
 refine⟨(Below.refl _ _).drew,?_⟩;refine Zw rfl (by rintro _ -;go_simp<;>rfl) (by go_simp<;>rfl) ?_;refine Zs ?_;have x1:=(f0.out w.drew (Below.refl _ _).drew).1;have x2:=(f0.out w.drew (Below.refl _ _).drew).2
 by_cases hp:0<=pc
 ·have HE:Hid (Yl lo base Rb Pb w0 fl t res (.returned (.int .i64 4)) w.drew):=by
   show Yl _ _ _ _ _ _ _ _ _ _;rw[a0.out,if_pos hp];exact⟨rfl,λh=>(by cases h),λ_=>HH.out.drew.bel⟩
  go_wp2;go_ret;exact HE.out
 have S0:pc<0:=by omega
 by_cases h6:r.levels.length=6
 ·have b6:((r.levels.length:Int)==6)=true:=by simp[h6]
  have HE:Hid (Yl lo base Rb Pb w0 fl t res (.returned (.int .i64 5)) w.drew):=by
   show Yl _ _ _ _ _ _ _ _ _ _;rw[a0.out,if_neg hp,if_pos h6];exact⟨rfl,λh=>(by cases h),λ_=>HH.out.drew.bel⟩
  clear h6 hp;go_wp2;go_ret;exact HE.out
 have b6:((r.levels.length:Int)==6)=false:=by simp;omega
 have HR:Hid (res=(0,{r with levels:=r.levels++[n]})):=by show _=_;rw[a0.out,if_neg hp,if_neg h6]
 have L0:r.levels.length<6:=by omega
 clear h6 hp
 go_wp2_with fail
 refine Zi (λW=>W.cell? ⟨Rb,1,none⟩=some (.slice d1 r.levels.length k1)/\W.cell? ⟨b,off+1,none⟩=some (.string ⟨n.toArray⟩)) [8,9,10] [12] [] ⟨x1,x2⟩ (by kernel_rfl) (λc a d v w h=>by cases d<;>exact h) (λops hG=>?_);clear hG
 iterate 8 refine Zw rfl (by rintro _ ⟨z0,z1⟩;go_simp<;>rfl) (by go_simp<;>rfl) ?_
 refine Zk ?_
 go_wp2_with fail
 obtain⟨W3,h0⟩:=nmE ((w.alloc (.cells #[.string ⟨n.toArray⟩] 9)).drew.drew);obtain⟨tb,q0⟩:=nmE (w.heap.size)
 have k0:Below w.heap.size w W3:=by rw[h0];exact(bA).drew.drew
 have T0:w.heap.size+1=W3.heap.size:=by rw[h0];simp
 have t0:∀i u,([.string ⟨n.toArray⟩]:List Value)[i]?=some u->W3.cell? ((⟨tb,0,none⟩:Addr).add i)=some u:=by rw[h0,q0];exact Xw
 have e0:W3.cell? ⟨Rb,1,none⟩=some (.slice d1 r.levels.length k1):=(f0.out W3 k0).1;have e1:W3.cell? ⟨b,off+1,none⟩=some (.string ⟨n.toArray⟩):=(f0.out W3 k0).2;have r0:Hid (W3.ownsRow base 9 1 (.slice d1 r.levels.length k1) r.levels.length (r.levels.map strV)):=B0.out W3 k0;have s0:=Zz k0
 first|rw[<-h0,<-q0]|rw[<-h0]
 clear h0 q0 k0 x1 x2 B0 f0 o0;refine⟨⟨e0,e1⟩,?_⟩;refine Zk ?_;obtain⟨i0,M0,N0,O0,P0⟩:=info_parts Tryz.infoStr
 go_wp2_with (at_builtin;refine Zj _ rfl (.tmp 47) (.tmp 51) 41 rfl base 9 i0 (.string ⟨#[]⟩) 1 16 underlying41 M0 N0 O0 P0 rfl (by decide) _ _ _ rfl r0.out ⟨tb,0,none⟩ 1 1 [.string ⟨n.toArray⟩] rfl rfl (by decide) t0 ?c2 ?c3 ?c4 ?c5 ?_)
 case c2=>intro u hu;simp at hu;subst hu;rfl
 case c3=>unfold maxLen;omega
 case c4=>omega
 case c5=>omega
 intro v' W4 b0 n0 l0;obtain⟨va,vcap,rfl⟩:∃va vcap,v'=.slice va (r.levels.length+1) vcap:=by
  rcases b0.2 with⟨h1,h2⟩|⟨g,cp,cur,h1,_⟩
  ·omega
  exact⟨_,cp,h1⟩
 have m0:∀k,(Value.slice d1 r.levels.length k1).ownBlock=some k->base<=k/\k<w.heap.size+1:=λk hk=>by have:=r0.out.lt k hk;omega
 have u0:W4.heap[Rb]?=W3.heap[Rb]?:=n0.block Rb (by omega) (λhh=>by have:=(m0 Rb hh.symm).1;omega);have F0:W4.heap[b]?=W3.heap[b]?:=n0.block b (by omega) (λhh=>D0.out hh.symm);have g0:W4.cell? ⟨Rb,1,none⟩=some (.slice d1 r.levels.length k1):=(Qc (a:=⟨Rb,1,none⟩) u0).trans e0;have g1:W4.cell? ⟨b,off+1,none⟩=some (.string ⟨n.toArray⟩):=(Qc (a:=⟨b,off+1,none⟩) F0).trans e1;have gz:W4.frozen? ⟨Rb,1,none⟩=false:=(Qd (a:=⟨Rb,1,none⟩) u0).trans ((s0.out.frozen (p:=⟨Rb,1,none⟩) A0).trans (HH.out.cR.z 1));have v0:Hid (Yl lo base Rb Pb w0 fl t res (.returned (.int .i64 0)) (W4.setCell ⟨Rb,1,none⟩ (.slice va (r.levels.length+1) vcap))):=by
  show Yl _ _ _ _ _ _ _ _ _ _;rw[HR.out];refine⟨rfl,λ_=>⟨_,HH.out.appR 1 (by unfold Zt;omega) (by omega) s0.out (v':=.slice va (r.levels.length+1) vcap) (news:=[.string ⟨n.toArray⟩]) ?_ ?_ ?_,(HO.out.addLevel n _ H0 L0 G0.out).later⟩,λhh=>absurd rfl hh⟩
  ·rw[HO.out.r1.1,HO.out.r1.2];exact b0
  ·rw[p0.out];exact n0
  rw[p0.out];exact l0
 clear b0 n0 l0 u0 F0 e0 e1 t0 r0 s0 m0 p0 HH HO HR a0 D0
 go_wp2_with fail
 refine⟨⟨g0,g1⟩,?_⟩;refine Zk ?_
 go_wp2_with fail
 refine⟨⟨g0,g1⟩,?_⟩;refine Zw rfl (by rintro _ ⟨z0,z1⟩;go_simp<;>rfl) (by go_simp<;>rfl) ?_;refine Xm ?_
 go_wp2_with fail
 refine Zs ?_;go_wp2;go_ret;exact v0.out
end
section
variable{lo base Rb Pb:Nat}{w0 w w':World}{m:Yn}{r:Fl.RS}{fl:List FlS}{t:Nat}
def Zh.addBelow(h:Zh r fl t m)(x y:Nat)(v v':Value)(hx:x<r.levels.length)(hy:y<r.levels.length)(a0:r.begun=false):Zh {r with low:=r.low++[x],high:=r.high++[y]} fl (t+1) ((m.app 5 v [.int .i64 (x:Int)]).app 6 v' [.int .i64 (y:Int)]):=
 {
  r1:=h.r1,r2:=h.r2,r3:=h.r3,r4:=h.r4,r5:=⟨by show m.n 5+1=_;rw[h.r5.1];simp,by show m.xs 5++_=_;rw[h.r5.2];simp[Yk]⟩,r6:=⟨by show m.n 6+1=_;rw[h.r6.1];simp,by show m.xs 6++_=_;rw[h.r6.2];simp[Yk]⟩,r8:=h.r8,r10:=h.r10,r12:=h.r12,r13:=h.r13,bg:=h.bg,st:=h.st,nm:=h.nm,lv:=h.lv,ce:=h.ce,ch:=h.ch,lo:=h.lo,sm:=h.sm,fr:=h.fr,lw:=by have:=h.lw;simp;omega,ft:=by have:=h.ft;omega,pr:=by have:=h.pr;simp;omega,bw:=⟨λz hz=>by
    simp only[List.mem_append,List.mem_singleton]at hz;rcases hz with h1|rfl
    ·exact h.bw.1 z h1
    ·exact hx,λz hz=>by
    simp only[List.mem_append,List.mem_singleton]at hz;rcases hz with h1|rfl
    ·exact h.bw.2 z h1
    exact hy⟩,cl:=h.cl,hl:=h.hl,lt:=λhh=>absurd (a0.symm.trans hh) (by simp)}
def yrx(h:Zu lo base Rb Pb w0 w m)(hr:Zh r fl t m)(R0:Hid (r.begun=false))(ht:t<=1000000)(b off cap:Nat)(n l:List UInt8)(hb:b<w.heap.size)(S0:b≠Rb/\∀j,Zt j->(m.v j).ownBlock≠some b)(T0:3<=cap/\cap<=maxLen)(c0:w.cell? ⟨b,off,none⟩=some (.string ⟨#[98,101,108,111,119]⟩))(c1:w.cell? ⟨b,off+1,none⟩=some (.string ⟨n.toArray⟩))(c2:w.cell? ⟨b,off+2,none⟩=some (.string ⟨l.toArray⟩)):
  Calls prog 29 #[.pointer (some ⟨Rb,0,none⟩),.slice (some ⟨b,off,none⟩) 3 cap] w (Yl lo base Rb Pb w0 fl t (r.head [Fl.wBelow,n,l])):=by
 have hba:=h.hba
 have f0:Rb<w.heap.size:=by omega
 have HH:=Zz h;have HO:=Zz hr;have v0:Hid (∀W,Below w.heap.size w W->Calls prog 28 #[m.v 1,.string ⟨n.toArray⟩] W λe w'=>e=.returned (.int .i64 (Fl.place r.levels n))/\w'=W):=λW hW=>Yd ((h.below hW).levels hr) n;have y0:Hid (∀W,Below w.heap.size w W->Calls prog 28 #[m.v 1,.string ⟨l.toArray⟩] W λe w'=>e=.returned (.int .i64 (Fl.place r.levels l))/\w'=W):=λW hW=>Yd ((h.below hW).levels hr) l;obtain⟨d1,k1,r0⟩:=h.shape 1 (by unfold Zt;omega);rw[hr.r1.1]at r0;rw[r0]at v0 y0;obtain⟨d5,k5,j0⟩:=h.shape 5 (by unfold Zt;omega);rw[hr.r5.1]at j0;obtain⟨d6,k6,z0⟩:=h.shape 6 (by unfold Zt;omega);rw[hr.r6.1]at z0;have A0:=Zz j0;have k0:=Zz z0;have B0:Hid (∀W,Below w.heap.size w W->W.cell? ⟨Rb,1,none⟩=some (.slice d1 r.levels.length k1)/\W.cell? ⟨b,off+1,none⟩=some (.string ⟨n.toArray⟩)/\W.cell? ⟨b,off+2,none⟩=some (.string ⟨l.toArray⟩)):=λW hW=>⟨(hW.cell (p:=⟨Rb,1,none⟩) f0).trans (by rw[<-r0];exact h.cR.c 1 (by omega)),(hW.cell (p:=⟨b,off+1,none⟩) hb).trans c1,(hW.cell (p:=⟨b,off+2,none⟩) hb).trans c2⟩
 have C0:Hid (∀W,Below w.heap.size w W->W.ownsRow base 3 1 (.slice d5 r.low.length k5) r.low.length (Yk r.low)/\W.cell? ⟨Rb,5,none⟩=some (.slice d5 r.low.length k5)):=λW hW=>by
  have h1:=(h.below hW).own 5 (by unfold Zt;omega);rw[hr.r5.1,hr.r5.2,j0]at h1;exact⟨h1,(hW.cell (p:=⟨Rb,5,none⟩) f0).trans (by rw[<-j0];exact h.cR.c 5 (by omega))⟩
 have a0:Hid (r.head [Fl.wBelow,n,l]=if Fl.place r.levels n<0\/Fl.place r.levels l<0 then(4,r) else(0,{r with low:=r.low++[(Fl.place r.levels n).toNat],high:=r.high++[(Fl.place r.levels l).toNat]})):=by show _=_;simp[Fl.RS.head]
 obtain⟨res,l0⟩:=nmE (r.head [Fl.wBelow,n,l]);rw[<-l0]at a0⊢;have Z0:=Fl.place_cases r.levels n;have a1:=Fl.place_cases r.levels l;have b1:=hr.lv;have f1:=hr.lw;have J0:=hr.pr;generalize Fl.place r.levels n=pc at*;generalize Fl.place r.levels l=pd at*
 have K0:(3:Int)<=(cap:Int):=by omega
 have U0: -1<=pc/\pc<=6:=by omega
 have V0: -1<=pd/\pd<=6:=by omega
 have W0:(r.levels.length:Int)<=6:=by omega
 have X0:pc<r.levels.length:=by omega
 have Y0:pd<r.levels.length:=by omega
 have g1:=Zz J0
 have i1:r.high.length<=t:=by omega
 clear h hr l0 r0 j0 z0 c1 c2 S0 J0
 go_enter func29,ntmps29
 go_wp2_with fail
 refine Zi (λW=>Below w.heap.size w W) [7] [] [] (Below.refl _ _).drew (by kernel_rfl) (λc a d v w h=>by cases d<;>exact h) (λops hG=>?_);clear hG
 iterate 7 refine Xn rfl (kE (by intro w' hw';obtain⟨x0,x1,x2⟩:=B0.out w' hw';clear hw';go_simp<;>rfl) (by go_simp<;>rfl) ?_)
 refine Zk ?_
 go_wp2_with fail
 refine(v0.out _ (Below.refl _ _).drew).mono ?_;rintro e w1 ⟨rfl,m0⟩;rw[m0];clear m0 w1
 go_wp2_with fail
 refine⟨(Below.refl _ _).drew,?_⟩;refine Zw rfl (by rintro _ -;go_simp<;>rfl) (by go_simp<;>rfl) ?_;refine Zs ?_
 go_wp2_with fail
 refine Zi (λW=>Below w.heap.size w W) [7] [] [] (Below.refl _ _).drew.drew (by kernel_rfl) (λc a d v w h=>by cases d<;>exact h) (λops hG=>?_);clear hG
 iterate 7 refine Xn rfl (kE (by intro w' hw';obtain⟨x0,x1,x2⟩:=B0.out w' hw';clear hw';go_simp<;>rfl) (by go_simp<;>rfl) ?_)
 refine Zk ?_
 go_wp2_with fail
 refine(y0.out _ (Below.refl _ _).drew.drew).mono ?_;rintro e w1 ⟨rfl,m0⟩;rw[m0];clear m0 w1
 go_wp2_with fail
 refine⟨(Below.refl _ _).drew.drew,?_⟩;refine Zw rfl (by rintro _ -;go_simp<;>rfl) (by go_simp<;>rfl) ?_;refine Zs ?_
 by_cases hp:pc<0
 ·have HE:Hid (Yl lo base Rb Pb w0 fl t res (.returned (.int .i64 4)) w.drew.drew):=by
   show Yl _ _ _ _ _ _ _ _ _ _;rw[a0.out,if_pos (.inl hp)];exact⟨rfl,λh=>(by cases h),λ_=>HH.out.drew.drew.bel⟩
  go_wp2;go_ret;exact HE.out
 have j1:0<=pc:=by omega
 clear hp
 by_cases hq:pd<0
 ·have HE:Hid (Yl lo base Rb Pb w0 fl t res (.returned (.int .i64 4)) w.drew.drew):=by
   show Yl _ _ _ _ _ _ _ _ _ _;rw[a0.out,if_pos (.inr hq)];exact⟨rfl,λh=>(by cases h),λ_=>HH.out.drew.drew.bel⟩
  go_wp2;go_ret;exact HE.out
 have l1:0<=pd:=by omega
 clear hq
 have HR:Hid (res=(0,{r with low:=r.low++[pc.toNat],high:=r.high++[pd.toNat]})):=by show _=_;rw[a0.out,if_neg (by omega)]
 have x5:=(C0.out w.drew.drew (Below.refl _ _).drew.drew).2;have D0:Below w.heap.size w (w.alloc (.cells #[.int .i64 pc] 3)).drew.drew:=(bA).drew.drew;have h0:=Zz D0;have E0:Hid ((w.alloc (.cells #[.int .i64 pc] 3)).drew.drew.ownsRow base 3 1 (.slice d5 r.low.length k5) r.low.length (Yk r.low)):=(C0.out _ D0).1;have L0:Hid (∀i u,([.int .i64 pc]:List Value)[i]?=some u->(w.alloc (.cells #[.int .i64 pc] 3)).drew.drew.cell? ((⟨w.heap.size,0,none⟩:Addr).add i)=some u):=Xw;clear v0 y0 B0 a0 C0 D0;obtain⟨i0,M0,N0,O0,P0⟩:=info_parts Tryz.infoIntP
 go_wp2_with (at_builtin;refine Zj _ rfl (.tmp 85) (.tmp 87) 30 rfl base 3 i0 (.int .i64 0) 1 8 underlying30 M0 N0 O0 P0 rfl (by decide) _ _ _ rfl E0.out ⟨w.heap.size,0,none⟩ 1 1 [.int .i64 pc] rfl rfl (by decide) L0.out ?c2 ?c3 ?c4 ?c5 ?_)
 case c2=>intro u hu;simp at hu;subst hu;rfl
 case c3=>unfold maxLen;omega
 case c4=>first|omega|(simp;omega)
 case c5=>first|omega|(simp;omega)
 intro v' W4 b0 s0 n0;obtain⟨va,vcap,rfl⟩:∃va vcap,v'=.slice va (r.low.length+1) vcap:=by
  rcases b0.2 with⟨h1,h2⟩|⟨g,cp,cur,h1,_⟩
  ·omega
  exact⟨_,cp,h1⟩
 have m1:(w.alloc (.cells #[.int .i64 pc] 3)).drew.drew.heap.size=w.heap.size+1:=by simp
 have o0:∀k,(Value.slice d5 r.low.length k5).ownBlock=some k->base<=k/\k<w.heap.size+1:=λk hk=>by have:=E0.out.lt k hk;omega
 have e0:W4.heap[Rb]?=(w.alloc (.cells #[.int .i64 pc] 3)).drew.drew.heap[Rb]?:=s0.block Rb (by omega) (λhh=>by have:=(o0 Rb hh.symm).1;omega);have gz:W4.frozen? ⟨Rb,5,none⟩=false:=(Qd (a:=⟨Rb,5,none⟩) e0).trans ((h0.out.frozen (p:=⟨Rb,5,none⟩) f0).trans (HH.out.cR.z 5));have g0:W4.cell? ⟨Rb,5,none⟩=some (.slice d5 r.low.length k5):=(Qc (a:=⟨Rb,5,none⟩) e0).trans ((h0.out.cell (p:=⟨Rb,5,none⟩) f0).trans x5);have H5:Hid (Zu lo base Rb Pb w0 (W4.setCell ⟨Rb,5,none⟩ (.slice va (r.low.length+1) vcap)) (m.app 5 (.slice va (r.low.length+1) vcap) [.int .i64 (pc.toNat:Int)])):=by
  have e1:(pc.toNat:Int)=pc:=(by omega);rw[e1];refine HH.out.appR 5 (by unfold Zt;omega) (by omega) h0.out (v':=.slice va (r.low.length+1) vcap) (news:=[.int .i64 pc]) ?_ ?_ ?_
  ·rw[HO.out.r5.1,HO.out.r5.2];exact b0
  ·rw[A0.out];exact s0
  rw[A0.out];rcases n0 with hh|hh
  ·exact .inl hh
  exact .inr (by rw[hh];simp)
 have n1:w.heap.size+1<=W4.heap.size:=by have:=s0.size;omega
 have t0:Hid ((W4.setCell ⟨Rb,5,none⟩ (.slice va (r.low.length+1) vcap)).heap.size=W4.heap.size):=Zy _ _ _;have y6:W4.cell? ⟨Rb,6,none⟩=some (.slice d6 r.high.length k6):=(Qc (a:=⟨Rb,6,none⟩) e0).trans ((h0.out.cell (p:=⟨Rb,6,none⟩) f0).trans (by rw[<-k0.out];exact HH.out.cR.c 6 (by omega)));have z6:W4.frozen? ⟨Rb,6,none⟩=false:=(Qd (a:=⟨Rb,6,none⟩) e0).trans ((h0.out.frozen (p:=⟨Rb,6,none⟩) f0).trans (HH.out.cR.z 6));have F0:Below (W4.setCell ⟨Rb,5,none⟩ (.slice va (r.low.length+1) vcap)).heap.size (W4.setCell ⟨Rb,5,none⟩ (.slice va (r.low.length+1) vcap)) ((W4.setCell ⟨Rb,5,none⟩ (.slice va (r.low.length+1) vcap)).alloc (.cells #[.int .i64 pd] 3)):=bA;have u0:=Zz F0;have G0:Hid (((W4.setCell ⟨Rb,5,none⟩ (.slice va (r.low.length+1) vcap)).alloc (.cells #[.int .i64 pd] 3)).ownsRow base 3 1 (.slice d6 r.high.length k6) r.high.length (Yk r.high)):=by
  have h1:=(H5.out.below F0).own 6 (by unfold Zt;omega);have e2:(m.app 5 (.slice va (r.low.length+1) vcap) [.int .i64 (pc.toNat:Int)]).v 6=.slice d6 r.high.length k6:=k0.out;have e3:(m.app 5 (.slice va (r.low.length+1) vcap) [.int .i64 (pc.toNat:Int)]).n 6=r.high.length:=HO.out.r6.1;have e4:(m.app 5 (.slice va (r.low.length+1) vcap) [.int .i64 (pc.toNat:Int)]).xs 6=Yk r.high:=HO.out.r6.2;rw[e2,e3,e4]at h1;exact h1
 have Q0:Hid (∀i u,([.int .i64 pd]:List Value)[i]?=some u->((W4.setCell ⟨Rb,5,none⟩ (.slice va (r.low.length+1) vcap)).alloc (.cells #[.int .i64 pd] 3)).cell? ((⟨W4.heap.size,0,none⟩:Addr).add i)=some u):=zm4 t0.out;clear b0 s0 n0 e0 E0 h0 L0 o0 A0 HH F0
 go_wp2_with (at_builtin;refine Zj _ rfl (.tmp 95) (.tmp 97) 30 rfl base 3 i0 (.int .i64 0) 1 8 underlying30 M0 N0 O0 P0 rfl (by decide) _ _ _ rfl G0.out ⟨W4.heap.size,0,none⟩ 1 1 [.int .i64 pd] rfl rfl (by decide) Q0.out ?d2 ?d3 ?d4 ?d5 ?_)
 case d2=>intro u hu;simp at hu;subst hu;rfl
 case d3=>unfold maxLen;omega
 case d4=>first|omega|(simp;omega)
 case d5=>first|omega|(simp;omega)
 intro v6 W6 d0 H0 p0;obtain⟨vb,vcbp,rfl⟩:∃va vcap,v6=.slice va (r.high.length+1) vcap:=by
  rcases d0.2 with⟨h1,h2⟩|⟨g,cp,cur,h1,_⟩
  ·omega
  exact⟨_,cp,h1⟩
 have o1:((W4.setCell ⟨Rb,5,none⟩ (.slice va (r.low.length+1) vcap)).alloc (.cells #[.int .i64 pd] 3)).heap.size=W4.heap.size+1:=by simp
 have q0:∀k,(Value.slice d6 r.high.length k6).ownBlock=some k->base<=k:=λk hk=>(G0.out.lt k hk).1;have e0:W6.heap[Rb]?=((W4.setCell ⟨Rb,5,none⟩ (.slice va (r.low.length+1) vcap)).alloc (.cells #[.int .i64 pd] 3)).heap[Rb]?:=H0.block Rb (by omega) (λhh=>by have:=q0 Rb hh.symm;omega);have gz6:W6.frozen? ⟨Rb,6,none⟩=false:=(Qd (a:=⟨Rb,6,none⟩) e0).trans ((u0.out.frozen (p:=⟨Rb,6,none⟩) (by rw[t0.out];show Rb<_;omega)).trans (H5.out.cR.z 6));have I0:Hid (Yl lo base Rb Pb w0 fl t res (.returned (.int .i64 0)) (W6.setCell ⟨Rb,6,none⟩ (.slice vb (r.high.length+1) vcbp))):=by
  show Yl _ _ _ _ _ _ _ _ _ _;rw[HR.out];have e1:(pd.toNat:Int)=pd:=(by omega);refine⟨rfl,λ_=>⟨_,H5.out.appR 6 (by unfold Zt;omega) (by omega) u0.out (v':=.slice vb (r.high.length+1) vcbp) (news:=[.int .i64 (pd.toNat:Int)]) ?_ ?_ ?_,HO.out.addBelow pc.toNat pd.toNat _ _ (by omega) (by omega) R0.out⟩,λhh=>absurd rfl hh⟩
  ·rw[e1]
   have e3:(m.app 5 (.slice va (r.low.length+1) vcap) [.int .i64 (pc.toNat:Int)]).n 6=r.high.length:=HO.out.r6.1;have e4:(m.app 5 (.slice va (r.low.length+1) vcap) [.int .i64 (pc.toNat:Int)]).xs 6=Yk r.high:=HO.out.r6.2;rw[e3,e4];exact d0
  ·have e2:(m.app 5 (.slice va (r.low.length+1) vcap) [.int .i64 (pc.toNat:Int)]).v 6=.slice d6 r.high.length k6:=k0.out
   rw[e2];exact H0
  have e2:(m.app 5 (.slice va (r.low.length+1) vcap) [.int .i64 (pc.toNat:Int)]).v 6=.slice d6 r.high.length k6:=k0.out;rw[e2];rcases p0 with hh|hh
  ·exact .inl hh
  exact .inr (by rw[hh];simp)
 have g6:∃v,W6.cell? ⟨Rb,6,none⟩=some v:=⟨_,(Qc (a:=⟨Rb,6,none⟩) e0).trans ((u0.out.cell (p:=⟨Rb,6,none⟩) (by rw[t0.out];show Rb<_;omega)).trans (H5.out.cR.c 6 (by omega)))⟩;obtain⟨v66,g6⟩:=g6;clear d0 H0 p0 e0 G0 u0 Q0 q0 k0 H5 HO HR t0;go_wp2;go_ret;exact I0.out
end
end Go.Proofs.YtaaejabalinojaaGreatDoor
