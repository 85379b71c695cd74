import Derived.Test.YtminjljgedopkaaGreatDoorM06
import Derived.Laws.CopyOwn
import Derived.DeepKeys4
set_option linter.all false
set_option maxRecDepth 100000
set_option maxHeartbeats 40000000
namespace Go.Proofs.YtminjljgedopkaaGreatDoor
open Go.RowKit Go.Proofs.Tryz
def Yq(w:World)(b ro:Nat):Prop:=∀k:Nat,k<8->w.cell? ⟨b,ro+k*4+1,none⟩=some (.int .i64 (Ys k:Nat))/\w.cell? ⟨b,ro+k*4+2,none⟩=some (.bool (k==7))/\w.cell? ⟨b,ro+k*4+3,none⟩=some (.func (.func (byF k)) #[] #[])
def Yq.move{w w':World}{b ro:Nat}(h:Yq w b ro)(m:Mv w w' b)(a0:1<=ro):Yq w' b ro:=λk hk=>by
 obtain⟨h1,h2,h3⟩:=h k hk;exact⟨(m.o _ (by omega)).trans h1,(m.o _ (by omega)).trans h2,(m.o _ (by omega)).trans h3⟩
structure Ul(s:List UInt8)(q f:Nat)(w wr:World)(b N PB x v j q':Nat)(xs:List Int):Prop where
 hn:zvx s q f j q' xs
 hm:Mv w wr b
 hc:wr.cell? ⟨b,1,none⟩=some (.int .i64 (q':Int))
 nd:Nd wr N x v (xs.getD 0 0) (xs.getD 1 0) (xs.getD 2 0) (.slice none 0 0)
 rs:Nd wr w.heap.size 0 0 0 0 0 (.slice none 0 0)
 p0:wr.cell? ⟨PB,0,none⟩=some (.pointer (some ⟨N,2,none⟩))
 p1:wr.cell? ⟨PB,1,none⟩=some (.pointer (some ⟨N,3,none⟩))
 p2:wr.cell? ⟨PB,2,none⟩=some (.pointer (some ⟨N,4,none⟩))
 hN:w.heap.size<N
 hP:N<PB
def Ul.ptr{s:List UInt8}{q f:Nat}{w wr:World}{b N PB x v j q':Nat}{xs:List Int}(h:Ul s q f w wr b N PB x v j q' xs)(hj:j<3):wr.cell? ⟨PB,j,none⟩=some (.pointer (some ⟨N,2+j,none⟩)):=by
 have:j=0\/j=1\/j=2:=by omega
 rcases this with rfl|rfl|rfl
 ·exact h.p0
 ·exact h.p1
 exact h.p2
def Ul.cell{s:List UInt8}{q f:Nat}{w wr:World}{b N PB x v j q':Nat}{xs:List Int}(h:Ul s q f w wr b N PB x v j q' xs)(hj:j<3):wr.cell? ⟨N,2+j,none⟩=some (.int .i64 (xs.getD j 0)):=by
 have:j=0\/j=1\/j=2:=by omega
 rcases this with rfl|rfl|rfl
 ·exact h.nd.c2
 ·exact h.nd.c3
 exact h.nd.c4
def Ul.next{s:List UInt8}{q f:Nat}{w wr w1:World}{b N PB x v j q':Nat}{xs:List Int}(h:Ul s q f w wr b N PB x v j q' xs)(hb:b<w.heap.size)(d0:j<f)(hj:j<3){y m:Nat}(hn:Fl.num s q'=((y:Int),(m:Int),0))(m1:Mv wr w1 b)(c1:w1.cell? ⟨b,1,none⟩=some (.int .i64 (m:Int))):
  Ul s q f w (w1.setCell ⟨N,2+j,none⟩ (.int .i64 y)) b N PB x v (j+1) m (xs++[(y:Int)]):=by
 have hN:=h.hN;have hP:=h.hP;have g1:=m1.g;have g2:=Yl w1 N (2+j) (.int .i64 y)
 have hnb:some N≠some b:=by simp;omega
 have a0:some PB≠some b:=by simp;omega
 have e0:some w.heap.size≠some b:=by simp;omega
 have b0:some PB≠some N:=by simp;omega
 have f0:some w.heap.size≠some N:=by simp;omega
 refine⟨by have:=h.hn.step d0 hn (by omega);simpa using this,(h.hm.trans m1).andSet hb (by omega) _ _,g2.cell c1 (by simp;omega),?_,(h.rs.grown g1 e0).grown g2 f0,g2.cell (g1.cell h.p0 a0) b0,g2.cell (g1.cell h.p1 a0) b0,g2.cell (g1.cell h.p2 a0) b0,hN,hP⟩;have c0:=h.nd.grown g1 hnb;have hlen:=h.hn.2.2.1
 have:j=0\/j=1\/j=2:=by omega
 rcases this with rfl|rfl|rfl
 ·match xs,hlen with
  |[],_=>exact c0.set2 _
 ·match xs,hlen with
  |[a],_=>exact c0.set3 _
 match xs,hlen with
 |[a,b'],_=>exact c0.set4 _
def Vi{W:World}{a:Addr}{o v:Value}(h:W.cell? a=some o):(W.setCell a v).cell? a=some v:=World.cell?_setCell_same' W a v (by simp[h])
def zs6{W:World}{B i j:Nat}{v:Value}(h:i≠j):(W.setCell ⟨B,j,none⟩ v).cell? ⟨B,i,none⟩=W.cell? ⟨B,i,none⟩:=by
 apply Qg;intro hh;apply h;injection hh with _ h2;exact h2.symm
def zfx{w1:World}{B:Nat}(v0 v1 v2 v3 v4 v5:Value){o0 o1 o2 o3 o4 o5:Value}(h0:w1.cell? ⟨B,0,none⟩=some o0)(h1:w1.cell? ⟨B,1,none⟩=some o1)(h2:w1.cell? ⟨B,2,none⟩=some o2)(h3:w1.cell? ⟨B,3,none⟩=some o3)(h4:w1.cell? ⟨B,4,none⟩=some o4)(h5:w1.cell? ⟨B,5,none⟩=some o5):
  (w1.setCell ⟨B,0,none⟩ v0).cell? ⟨B,0,none⟩=some v0/\((w1.setCell ⟨B,0,none⟩ v0).setCell ⟨B,1,none⟩ v1).cell? ⟨B,1,none⟩=some v1/\(((w1.setCell ⟨B,0,none⟩ v0).setCell ⟨B,1,none⟩ v1).setCell ⟨B,2,none⟩ v2).cell? ⟨B,2,none⟩=some v2/\((((w1.setCell ⟨B,0,none⟩ v0).setCell ⟨B,1,none⟩ v1).setCell ⟨B,2,none⟩ v2).setCell ⟨B,3,none⟩ v3).cell? ⟨B,3,none⟩=some v3/\(((((w1.setCell ⟨B,0,none⟩ v0).setCell ⟨B,1,none⟩ v1).setCell ⟨B,2,none⟩ v2).setCell ⟨B,3,none⟩ v3).setCell ⟨B,4,none⟩ v4).cell? ⟨B,4,none⟩=some v4/\((((((w1.setCell ⟨B,0,none⟩ v0).setCell ⟨B,1,none⟩ v1).setCell ⟨B,2,none⟩ v2).setCell ⟨B,3,none⟩ v3).setCell ⟨B,4,none⟩ v4).setCell ⟨B,5,none⟩ v5).cell? ⟨B,5,none⟩=some v5:=by
 refine⟨Vi h0,Vi (o:=o1) ?_,Vi (o:=o2) ?_,Vi (o:=o3) ?_,Vi (o:=o4) ?_,Vi (o:=o5) ?_⟩<;>repeat (rw[zs6 (by decide)])
 all_goals assumption
def zs7(r:Fl.Node×Int×Int)(b:Nat)(w:World)(e:Ending)(w':World):Prop:=
 Mv w w' b/\(r.2.1<0->e=.panicked (Zq 8 r.2.2))/\(¬r.2.1<0->∃lv,e=.returned (nodeV r.1 lv)/\Zy w'.heap.size w' lv r.1.list/\(∀bb,lv.ownBlock=some bb->w.heap.size<=bb)/\w'.cell? ⟨b,1,none⟩=some (.int .i64 r.2.1))
def Xa{r:Fl.Node×Int×Int}{pl:Int}{b:Nat}{w w':World}(hr:r=(Fl.nd0,-1,pl))(m:Mv w w' b):zs7 r b w (.panicked (Zq 8 pl)) w':=by
 subst hr;exact⟨m,λ_=>rfl,λh=>absurd (show (-1:Int)<0 by decide) h⟩
def zq8{r:Fl.Node×Int×Int}{nd:Fl.Node}{q b B:Nat}{w w1:World}{lv v0 v1 v2 v3 v4 v5:Value}(hr:r=(nd,(q:Int),0))(m:Mv w w1 b)(hb:b<w.heap.size)(hB:w.heap.size=B)(c:w1.cell? ⟨b,1,none⟩=some (.int .i64 (q:Int)))
  (hl:Zy w1.heap.size w1 lv nd.list) (b0:∀bb,lv.ownBlock=some bb->B<bb):
  zs7 r b w (.returned (nodeV nd lv)) ((((((w1.setCell ⟨B,0,none⟩ v0).setCell ⟨B,1,none⟩ v1).setCell ⟨B,2,none⟩ v2).setCell ⟨B,3,none⟩ v3).setCell ⟨B,4,none⟩ v4).setCell ⟨B,5,none⟩ v5):=by
 subst hr hB
 have a0:nd.list≠[]->lv.ownBlock≠some w.heap.size:=λ_ h=>by have:=b0 _ h;omega
 have hs:∀{W:World} {i:Nat} {u:Value},W.cell? ⟨b,1,none⟩=some (.int .i64 (q:Int))->(W.setCell ⟨w.heap.size,i,none⟩ u).cell? ⟨b,1,none⟩=some (.int .i64 (q:Int)):=λ{W i u} h=>(Yl W w.heap.size i u).cell h (by simp;omega);refine⟨(((((m.andSet hb (Nat.le_refl _) _ _).andSet hb (Nat.le_refl _) _ _).andSet hb (Nat.le_refl _) _ _).andSet hb (Nat.le_refl _) _ _).andSet hb (Nat.le_refl _) _ _).andSet hb (Nat.le_refl _) _ _,λh=>by simp only at h;omega,λ_=>⟨lv,rfl,?_,λbb h=>by have:=b0 bb h;omega,hs (hs (hs (hs (hs (hs c)))))⟩⟩;exact Xe (Xe (Xe (Xe (Xe (Xe hl a0) a0) a0) a0) a0) a0
def zmx{p k:Nat}{nd:Fl.Node}{e:Int}(h:(prem nd).any (λx=>decide ((k:Int)<=x))=true):Fl.oneFin p k nd e=(Fl.nd0,-1,(p:Int)):=by unfold Fl.oneFin;rw[if_pos h]
def zo5{p k:Nat}{nd:Fl.Node}{e:Int}(h:(prem nd).any (λx=>decide ((k:Int)<=x))=false):Fl.oneFin p k nd e=(nd,e,0):=by unfold Fl.oneFin;rw[if_neg (by rw[h];decide)]
def yv8{b:Nat}{ao:Option Addr}{cap:Nat}{s:List UInt8}{p:Nat}{w:World}(h:Dr w b ao cap s p)(hr:Yq w b 2)(k:Nat)(hk:k<=200):
  Calls prog 84 #[.pointer (some ⟨b,0,none⟩),.int .i64 k] w λe w'=>zs7 (Fl.one s p k) b w e w':=by
 have hlb:=h.lt;have hp:=h.hp;have hs:=h.hs
 have E1:∀o,(w.alloc o).cell? ⟨b,1,none⟩=some (.int .i64 p):=λo=>by rw[World.cell?_alloc_past _ _ _ hlb];exact h.c1
 have HD:=Zz h;have HR:=Zz hr;clear h hr
 go_enter func84,ntmps84
 go_wp2_with fail
 obtain⟨W0,C0⟩:=nmE (w.alloc (.cells #[.int .i64 0,.int .i64 0,.int .i64 0,.int .i64 0,.int .i64 0,.slice none 0 0] 121));rw[<-C0]
 have l1:Mv w W0 b:=by rw[C0];exact(Mv.refl w b).alloc hlb _
 have F1:W0.cell? ⟨b,1,none⟩=some (.int .i64 p):=by rw[C0];exact E1 _
 have m1:=Zz l1;have X0:Hid (Dr W0 b ao cap s p):=HD.out.move l1 F1 hp
 have G1:Hid (Nd W0 w.heap.size 0 0 0 0 0 (.slice none 0 0)):=by rw[C0];exact Nd.new _ _ _ _ _ _ _ _
 have H1:W0.heap.size=w.heap.size+1:=by rw[C0];simp
 have I1:=Zz H1;clear l1 E1 C0 H1
 by_cases x0:p<s.length
 ·refine(zk9 X0.out x0).mono ?_
  rintro e w1 ⟨rfl,y0,J1⟩;obtain⟨x,hx⟩:=nmE ((s.getD p 0).toNat);rw[<-hx];have K1:x<256:=(by rw[hx];exact(s.getD p 0).toNat_lt);have HX:=Zz hx;have n1:Hid (Mv w w1 b):=m1.out.trans y0;have A2:w.heap.size+1<=w1.heap.size:=(by have:=y0.g.size;have:=I1.out;omega);have L1:Hid (Nd w1 w.heap.size 0 0 0 0 0 (.slice none 0 0)):=G1.out.grown y0.g (by simp;omega);have J0:Hid (Dr w1 b ao cap s (p+1)):=X0.out.move y0 J1 (by omega);clear hx y0 J1 F1
  by_cases z0:x<8
  ·have i2:decide ((x:Int)<8)=true:=decide_eq_true (by omega)
   have o1:decide (x<8)=true:=decide_eq_true z0
   go_wp2_with fail
   obtain⟨W1,D0⟩:=nmE (w1.alloc (.cells #[.int .i64 x,.int .i64 0,.int .i64 0,.int .i64 0,.int .i64 0,.slice none 0 0] 121));rw[<-D0];obtain⟨N,hN⟩:=nmE (w1.heap.size);have p1:Nd W1 N x 0 0 0 0 (.slice none 0 0):=(by rw[D0,hN];exact Nd.new _ _ _ _ _ _ _ _);have j2:w.heap.size<N:=(by omega);have M1:Hid (Nd W1 w.heap.size 0 0 0 0 0 (.slice none 0 0)):=(by rw[D0];exact L1.out.grown (World.grownBy_alloc _ _ none) (by simp));rw[<-hN];have N1:Hid (Mv w W1 b):=(by rw[D0];exact n1.out.alloc hlb _);have r1:Hid (Dr W1 b ao cap s (p+1)):=(by rw[D0];exact J0.out.move ((Mv.refl w1 b).alloc J0.out.lt _) (by rw[World.cell?_alloc_past _ _ _ J0.out.lt];exact J0.out.c1) (by omega));have O1:=Zz p1;have n0:=p1.c0;clear D0 hN p1 J0;refine(Ux _ _ _).mono ?_;rintro e w' ⟨rfl,rfl⟩
   go_wp2_with fail
   go_quiet (fail)
   go_wp2_with fail
   obtain⟨W2,E0⟩:=nmE (w'.drewN nq);rw[<-E0];have s1:Hid (Mv w W2 b):=(by rw[E0];exact N1.out.drewN _);have P1:Hid (Dr W2 b ao cap s (p+1)):=(by rw[E0];exact r1.out.move ((Mv.refl w' b).drewN _) r1.out.c1 (by omega));have Q1:Hid (Nd W2 N x 0 0 0 0 (.slice none 0 0)):=(by rw[E0];exact O1.out.drewN _);have R1:Hid (Nd W2 w.heap.size 0 0 0 0 0 (.slice none 0 0)):=(by rw[E0];exact M1.out.drewN _);clear n0 E0 N1 r1 O1 M1 L1 n1 G1 m1 X0 I1;refine(zw8 P1.out).mono ?_;rintro e w2 ⟨K0,f0,hgood⟩
   by_cases hv:(Fl.num s (p+1)).2.1<0
   ·obtain rfl:=f0 hv
    exact⟨rfl,Xa (zg2 x0 HX.out z0 hv) (s1.out.trans K0)⟩
   obtain⟨rfl,Y0⟩:=hgood hv;obtain⟨v,q,g0,B2,t1,k2⟩:=zxv s (p+1) (by omega) hv;rw[g0]at Y0⊢;simp only at Y0⊢;have l0:=Zz g0;have L0:Hid (Mv w w2 b):=s1.out.trans K0;have p0:b≠N:=(by omega);have Z0:=Q1.out.grown K0.g (by simpa using λh=>p0 h.symm);have a1:Hid (Nd w2 w.heap.size 0 0 0 0 0 (.slice none 0 0)):=R1.out.grown K0.g (by simp;omega);have k1:=Z0.c1;have kf:=Z0.f;have M0:=Zz Z0;have b1:=Zz Y0;clear hv f0 hgood g0 Y0 Z0 K0
   go_wp2_with fail
   obtain⟨W3,N0⟩:=nmE (w2.setCell ⟨N,1,none⟩ (.int .i64 (v:Int)));rw[<-N0];have g3:w2.grownBy W3 (some N):=(by rw[N0];exact Yl _ _ _ _);have A0:Hid (Mv w W3 b):=(by rw[N0];exact L0.out.andSet hlb (by omega) _ _);have F0:Hid (Nd W3 N x v 0 0 0 (.slice none 0 0)):=(by rw[N0];exact M0.out.set1 _);have O0:Hid (Nd W3 w.heap.size 0 0 0 0 0 (.slice none 0 0)):=a1.out.grown g3 (by simp;omega);have S1:Hid (W3.cell? ⟨b,1,none⟩=some (.int .i64 (q:Int))):=g3.cell b1.out (by simpa using p0);have l2:=F0.out.lt;clear N0 g3 L0 M0 a1 b1 k1 kf P1 Q1 R1 s1;have r0:=(HR.out.move A0.out (by omega)) x z0;refine(zs3 b (2+x*4) N (Ys x) W3 (zpw x) (A0.out.lt hlb) r0.1).mono ?_;rintro e w3 ⟨rfl,u1⟩;have HL:Hid (Ul s q (Ys x) w w3 b N W3.heap.size x v 0 q []):=by
    have g4:W3.grownBy w3 none:=(by rw[u1];exact⟨rfl,rfl,rfl,by simp,λk hk _=>Below.heap_alloc _ _ _ hk⟩);refine⟨⟨by omega,t1,rfl,rfl⟩,A0.out.andGrown g4 hlb (λk e=>by cases e),g4.cell S1.out (by simp),F0.out.grown g4 (by simp),O0.out.grown g4 (by simp),?_,?_,?_,j2,l2⟩
    all_goals (rw[u1];simp)
   obtain⟨PB,T1⟩:=nmE (W3.heap.size);rw[<-T1]at HL⊢;have m2:=zpw x;obtain⟨f,hf⟩:=nmE (Ys x);rw[<-hf]at HL m2⊢;have HF:=Zz hf;clear T1 u1 A0 F0 O0 S1 r0 hf
   go_wp2_with fail
   go_loopw [36] (λi wr=>∃(j q':Nat) (xs:List Int),i=.int .i64 j/\Ul s q f w wr b N PB x v j q' xs) (λi _=>f - (intOf i).toNat)
   case atStart=>exact⟨0,q,[],rfl,HL.out⟩
   case round=>
    clear HL;obtain⟨j,q',xs,rfl,hl⟩:=hrel;have HL:=Zz hl;have C2:=hl.hn.1;clear hl;have f1:Hid (Dr wr b ao cap s q'):=HD.out.move HL.out.hm HL.out.hc HL.out.hn.2.1
    by_cases P0:j<f
    ·have s0:x≠7:=λh=>by have:=HF.out;rw[h]at this;have h0:Ys 7=0:=rfl;omega
     have D2:=HL.out.ptr (show j<3 by omega)
     by_cases hv:(Fl.num s q').2.1<0
     ·go_wp2_with (go_at_call 83;refine(zw8 f1.out).mono ?_;rintro e w4 ⟨i0,f0,_⟩;obtain rfl:=f0 hv)
      refine⟨rfl,Xa ?_ (HL.out.hm.trans i0)⟩;rw[zi5 x0 HX.out z0 s0 l0.out,<-HF.out];have:=HL.out.hn.bad P0 (v:=(Fl.num s q').1) (m:=(Fl.num s q').2.1) (b:=(Fl.num s q').2.2) rfl hv;rw[this];rfl
     obtain⟨y,m,g0,_,_,_⟩:=zxv s q' HL.out.hn.2.1 hv;have v1:=Zz g0;have n2:Hid (Calls prog 83 #[.pointer (some ⟨b,0,none⟩),.int .i64 0,.int .i64 2147483647] wr λe w'=>zz9 ((y:Int),(m:Int),0) b wr e w'):=(by rw[<-g0];exact zw8 f1.out);clear hv g0
     go_wp2_with (go_at_call 83;refine(n2.out).mono ?_;rintro e w4 ⟨i0,_,hgood⟩;obtain⟨rfl,G0⟩:=hgood (by simp only;omega);have kj:=i0.g.cell (HL.out.cell (show j<3 by omega)) (by simpa using λh=>p0 h.symm);have kf:∀o,w4.frozen? ⟨N,o,none⟩=false:=(HL.out.nd.grown i0.g (by simpa using λh=>p0 h.symm)).f)
     go_roundw
     case rel=>exact⟨j+1,m,xs++[(y:Int)],by go_num,HL.out.next hlb P0 (by omega) v1.out i0 G0⟩
     case measure=>simp[intOf];omega
    have hjf':j=f:=(by omega);have t0:Fl.nums s q f=(xs,(q':Int),0):=by
     have:=HL.out.hn.2.2.2;rw[this,hjf',Nat.sub_self];rfl
    have U1:=Zz t0;have r0:=(HR.out.move HL.out.hm (by omega)) x z0;have g1:=r0.2.1;clear t0 hjf'
    by_cases s0:x=7
    ·have b7:(x==7)=true:=beq_iff_eq.2 s0
     rw[b7]at g1;have x1:=Zz s0;have h3:=r0.2.2;have i1:=Zz h3;have V1:f=0:=(by have:=HF.out;rw[s0]at this;exact this);have o2:q'=q/\xs=[]:=by
      have h1:=U1.out;rw[V1]at h1;have h2:Fl.nums s q 0=([],(q:Int),0):=rfl;rw[h2]at h1;simp only[Prod.mk.injEq]at h1;exact⟨by omega,h1.1.symm⟩
     obtain⟨rfl,rfl⟩:=o2;have X1:Hid (Calls prog 83 #[.pointer (some ⟨b,0,none⟩),.int .i64 0,.int .i64 16] wr λe w'=>zz9 (Fl.numB s q' 0 16) b wr e w'):=zx3 f1.out 0 16 (by omega) (by omega);have Q0:Hid (Nd wr N x v 0 0 0 (.slice none 0 0)):=HL.out.nd;clear r0 h3 s0 V1
     go_wp2_with fail
     refine(X1.out).mono ?_;rintro e w4 ⟨i0,f0,hgood⟩
     by_cases R0:(Fl.numB s q' 0 16).2.1<0
     ·obtain rfl:=f0 R0
      exact⟨rfl,Xa (zfy x0 (by rw[<-HX.out,x1.out]) l0.out R0 t1) (HL.out.hm.trans i0)⟩
     obtain⟨rfl,G0⟩:=hgood R0;obtain⟨m,q2,hnb,Y1,E2,S0,_,p2⟩:=zs5 s q' 0 16 t1 R0;rw[hnb]at G0⊢;simp only at G0⊢;have v1:=Zz Y1;have L0:Hid (Mv w w4 b):=HL.out.hm.trans i0;have b1:Hid (Dr w4 b ao cap s q2):=f1.out.move i0 G0 S0;have M0:Hid (Nd w4 N x v 0 0 0 (.slice none 0 0)):=Q0.out.grown i0.g (by simpa using λh=>p0 h.symm);have a1:Hid (Nd w4 w.heap.size 0 0 0 0 0 (.slice none 0 0)):=HL.out.rs.grown i0.g (by simp;omega);have hm16':m<=16:=(by omega);have y1:Hid (w4.cell? ⟨b,2+x*4+3,none⟩=some (.func (.func (byF x)) #[] #[])):=(i0.o _ (by omega)).trans i1.out;clear f0 hgood R0 hnb Y1 G0 i0 g1 i1 Q0 X1
     go_wp2_with fail
     refine(zq7 b1.out m (by omega)).mono ?_;rintro e w5 ⟨H0,f0,hgood⟩;have a0:=yv7 (k:=k) x0 (by rw[<-HX.out,x1.out]) l0.out v1.out hm16'
     by_cases T0:(Fl.nums s q2 m).2.1<0
     ·obtain rfl:=f0 T0
      rw[if_pos T0]at a0;exact⟨rfl,Xa a0 (L0.out.trans H0)⟩
     obtain⟨lv,rfl,j0,j1⟩:=hgood T0;rw[if_neg T0]at a0;have z1:=Fl.nums_ok s q2 m S0;obtain⟨ls,q3,Z1⟩:∃(ls:List Int) (q3:Nat),Fl.nums s q2 m=(ls,(q3:Int),(Fl.nums s q2 m).2.2):=⟨(Fl.nums s q2 m).1,(Fl.nums s q2 m).2.1.toNat,by rw[Int.toNat_of_nonneg (by omega)]⟩;rw[Z1]at a0 j0 j1;simp only at a0 j0 j1;obtain⟨lao,lcap,rfl⟩:=Xq j0;have k0:Hid (Fl.one s p k=Fl.oneFin p k ⟨x,v,0,0,0,ls⟩ (q3:Int)):=(by show _=_;rw[a0,x1.out];rfl);have r2:=M0.out.lt
     have u0:∀bb,(Value.slice lao ls.length lcap).ownBlock=some bb->N<bb:=λbb h=>by have:=(j0.lt bb h).1;omega
     have m0:=M0.out.grown H0.g (by simpa using λh=>p0 h.symm);have k5:=m0.c5;have kf:=m0.f;have F0:=Zz m0;have O0:Hid (Nd w5 w.heap.size 0 0 0 0 0 (.slice none 0 0)):=a1.out.grown H0.g (by simp;omega);have HM5':Hid (Mv w w5 b):=L0.out.trans H0;have a2:Hid (Zy w5.heap.size w5 (.slice lao ls.length lcap) ls):=Zy.of_own j0;have HD5':Hid (w5.cell? ⟨b,1,none⟩=some (.int .i64 (q3:Int))):=j1;have U0:Hid (w5.cell? ⟨b,2+x*4+3,none⟩=some (.func (.func (byF x)) #[] #[])):=(H0.o _ (by omega)).trans y1.out;have b2:=Zz u0;clear a0 z1 Z1 j0 j1 m0 H0 f0 hgood T0 u0
     go_wp2_with fail
     obtain⟨W6,I0⟩:=nmE (w5.setCell ⟨N,5,none⟩ (.slice lao ls.length lcap));rw[<-I0];have g6:w5.grownBy W6 (some N):=(by rw[I0];exact Yl _ _ _ _);have A1:Hid (Mv w W6 b):=(by rw[I0];exact HM5'.out.andSet hlb (by omega) _ _);have B1:Hid (Nd W6 N x v 0 0 0 (.slice lao ls.length lcap)):=(by rw[I0];exact F0.out.set5 _);have c2:Hid (Nd W6 w.heap.size 0 0 0 0 0 (.slice none 0 0)):=O0.out.grown g6 (by simp;omega);have f2:Hid (W6.cell? ⟨b,1,none⟩=some (.int .i64 (q3:Int))):=g6.cell HD5'.out (by simpa using p0);have C1:Hid (Zy W6.heap.size W6 (.slice lao ls.length lcap) ls):=(by rw[I0];exact Xe a2.out (λ_ h=>by have h9:N<N:=b2.out N h;omega));have V0:Hid (W6.cell? ⟨b,2+x*4+3,none⟩=some (.func (.func (byF x)) #[] #[])):=g6.cell U0.out (by simpa using p0);clear I0 g6 k5 kf HM5' F0 O0 HD5' a2 U0;refine(zv4 b (2+x*4) (byF x) k (.pointer (some ⟨N,0,none⟩)) (prem ⟨x,v,0,0,0,ls⟩) W6 V0.out (zs4 x _ _) (zmy (B1.out.nodeAt C1.out))).mono ?_;rintro e w7 ⟨rfl,o0⟩;have g2:Hid (Mv w w7 b):=A1.out.andBelow o0 hlb;have s2:Hid (w7.cell? ⟨b,1,none⟩=some (.int .i64 (q3:Int))):=(o0.cell (p:=⟨b,1,none⟩) (A1.out.lt hlb)).trans f2.out;have g7:W6.grownBy w7 none:=⟨o0.os,o0.tape,o0.output,o0.size,λk hk _=>o0.block k hk⟩;have t2:Hid (Zy w7.heap.size w7 (.slice lao ls.length lcap) ls):=Jq C1.out o0;have u2:=B1.out.grown g7 (by simp);have v2:=c2.out.grown g7 (by simp);obtain⟨e0,e1,e2,e3,e4,e5,_⟩:=u2;obtain⟨d0,d1,d2,d3,d4,d5,df⟩:=v2;obtain⟨q0,q1,q2',q3',q4,q5⟩:=zfx (w1:=w7) (B:=w.heap.size) (.int .i64 x) (.int .i64 v) (.int .i64 0) (.int .i64 0) (.int .i64 0) (.slice lao ls.length lcap) d0 d1 d2 d3 d4 d5;clear o0 g7 A1 B1 c2 f2 C1 V0
     by_cases b0:(prem ⟨x,v,0,0,0,ls⟩).any (λy=>decide ((k:Int)<=y))=true
     ·rw[b0]
      have B0:Hid (Fl.one s p k=(Fl.nd0,-1,(p:Int))):=k0.out.trans (zmx b0);clear b0 q0 q1 q2' q3' q4 q5
      go_wp2_with fail
      refine(Xz _ _ _).mono ?_;rintro e w6 ⟨rfl,D1⟩;exact⟨rfl,Xa B0.out (g2.out.andBelow D1 hlb)⟩
     have hany':(prem ⟨x,v,0,0,0,ls⟩).any (λy=>decide ((k:Int)<=y))=false:=(by simpa using b0);rw[hany'];have B0:Hid (Fl.one s p k=(⟨x,v,0,0,0,ls⟩,(q3:Int),0)):=k0.out.trans (zo5 hany');clear b0 hany'
     go_wp2_with fail
     refine(Ux _ _ _).mono ?_;rintro e w6 ⟨rfl,rfl⟩;go_wp2;exact bodyPost_ret (v:=.agg #[.int .i64 x,.int .i64 v,.int .i64 0,.int .i64 0,.int .i64 0,.slice lao ls.length lcap]) (by simp[results,results84,go_sem,q0,q1,q2',q3',q4,q5]) rfl (zq8 B0.out g2.out hlb rfl s2.out t2.out (λbb h=>by have:=b2.out bb h;omega))
    have b7:(x==7)=false:=beq_eq_false_iff_ne.2 s0;rw[b7]at g1;have h3:=r0.2.2;have i1:=Zz h3;clear r0 h3
    go_wp2_with fail
    have HI:Hid (Zy wr.heap.size wr (.slice none 0 0) ([]:List Int)):=Zy.nil _ _;refine(zv4 b (2+x*4) (byF x) k (.pointer (some ⟨N,0,none⟩)) (prem ⟨x,v,xs.getD 0 0,xs.getD 1 0,xs.getD 2 0,[]⟩) wr i1.out (zs4 x _ _) (zmy (HL.out.nd.nodeAt HI.out))).mono ?_;rintro e w5 ⟨rfl,v0⟩;have A0:Hid (Mv w w5 b):=HL.out.hm.andBelow v0 hlb;have k0:Hid (Fl.one s p k=Fl.oneFin p k ⟨x,v,xs.getD 0 0,xs.getD 1 0,xs.getD 2 0,[]⟩ (q':Int)):=by
     show _=_;rw[zi5 x0 HX.out z0 s0 l0.out,<-HF.out,U1.out,if_neg (by simp only;omega)]
    have x2:Hid (w5.cell? ⟨b,1,none⟩=some (.int .i64 (q':Int))):=(v0.cell (p:=⟨b,1,none⟩) (HL.out.hm.lt hlb)).trans HL.out.hc;have g5:wr.grownBy w5 none:=⟨v0.os,v0.tape,v0.output,v0.size,λk hk _=>v0.block k hk⟩;have y2:=HL.out.nd.grown g5 (by simp);have z2:=HL.out.rs.grown g5 (by simp);obtain⟨e0,e1,e2,e3,e4,e5,_⟩:=y2;obtain⟨d0,d1,d2,d3,d4,d5,df⟩:=z2;obtain⟨q0,q1,q2,q3,q4,q5⟩:=zfx (w1:=w5) (B:=w.heap.size) (.int .i64 x) (.int .i64 v) (.int .i64 (xs.getD 0 0)) (.int .i64 (xs.getD 1 0)) (.int .i64 (xs.getD 2 0)) (.slice none 0 0) d0 d1 d2 d3 d4 d5;clear v0 g5 g1 HI
    by_cases b0:(prem ⟨x,v,xs.getD 0 0,xs.getD 1 0,xs.getD 2 0,[]⟩).any (λy=>decide ((k:Int)<=y))=true
    ·rw[b0]
     have B0:Hid (Fl.one s p k=(Fl.nd0,-1,(p:Int))):=k0.out.trans (zmx b0);clear b0 q0 q1 q2 q3 q4 q5
     go_wp2_with fail
     refine(Xz _ _ _).mono ?_;rintro e w6 ⟨rfl,D1⟩;exact⟨rfl,Xa B0.out (A0.out.andBelow D1 hlb)⟩
    have hany':(prem ⟨x,v,xs.getD 0 0,xs.getD 1 0,xs.getD 2 0,[]⟩).any (λy=>decide ((k:Int)<=y))=false:=(by simpa using b0);rw[hany'];have B0:Hid (Fl.one s p k=(⟨x,v,xs.getD 0 0,xs.getD 1 0,xs.getD 2 0,[]⟩,(q':Int),0)):=k0.out.trans (zo5 hany');clear b0 hany'
    go_wp2_with fail
    refine(Ux _ _ _).mono ?_;rintro e w6 ⟨rfl,rfl⟩;generalize xs.getD 0 0=xa at*;generalize xs.getD 1 0=xb at*;generalize xs.getD 2 0=xc at*;go_wp2;exact bodyPost_ret (v:=.agg #[.int .i64 x,.int .i64 v,.int .i64 xa,.int .i64 xb,.int .i64 xc,.slice none 0 0]) (by simp[results,results84,go_sem,q0,q1,q2,q3,q4,q5]) rfl (zq8 B0.out A0.out hlb rfl x2.out (Zy.nil _ _) (λbb h=>by simp[Value.ownBlock]at h))
  have i2:decide ((x:Int)<8)=false:=decide_eq_false (by omega);have o1:decide (x<8)=false:=decide_eq_false z0
  go_wp2_with fail
  refine(Xz _ _ _).mono ?_;rintro e w' ⟨rfl,hb⟩;refine⟨rfl,Xa ?_ ((n1.out.alloc hlb _).andBelow hb hlb)⟩;unfold Fl.one;rw[if_neg (by omega)];simp only[<-HX.out];rw[if_pos (by unfold Fl.fields;repeat' split<;>omega)]
 refine(zoz X0.out x0).mono ?_;rintro e w1 ⟨rfl,y0⟩;refine⟨rfl,Xa ?_ (m1.out.trans y0)⟩
 have:p=s.length:=by omega
 unfold Fl.one;rw[if_pos this,this]
def Vu(nd:Fl.Node):List Value:=[.int .i64 nd.kind,.int .i64 nd.level,.int .i64 nd.a,.int .i64 nd.b,.int .i64 nd.c,.int .i64 nd.list.length]
def zy2(nd:Fl.Node):List Value:=Vu nd++List.replicate 16 (Value.int .i64 0)
def Zc(nd:Fl.Node):List Value:=Vu nd++(nd.list.map (Value.int .i64)++List.replicate (16 - nd.list.length) (Value.int .i64 0))
def Jv(nd:Fl.Node)(h:nd.list.length<=16):(Zc nd).length=22:=by simp[Zc,Vu];omega
def zfw(nd:Fl.Node):(Zc nd).toArray.all (·.oneCell')=true:=by
 rw[List.all_toArray,List.all_eq_true];intro x hx;simp only[Zc,Vu,List.mem_append,List.mem_cons,List.mem_map,List.mem_replicate,List.not_mem_nil,or_false]at hx;rcases hx with(rfl|rfl|rfl|rfl|rfl|rfl)|⟨y,_,rfl⟩|⟨_,rfl⟩<;>rfl
def zky(nd:Fl.Node):splice (zy2 nd) 6 (nd.list.map (Value.int .i64))=Zc nd:=by
 unfold splice zy2 Zc;have h6:(Vu nd).length=6:=rfl;rw[List.take_left' h6,List.drop_append,List.drop_of_length_le (by rw[h6];simp),List.nil_append,List.drop_replicate,h6];simp
def Tryz.infoInt1:(Tryz.prog.info? 3).map (·.size)=some 1:=by kernel_rfl
def Tryz.infoContent:(Tryz.prog.info? 200).map (·.size)=some 22:=by kernel_rfl
def zw1{w:World}{nb no:Nat}{nd:Fl.Node}{lv:Value}(h:Xu w nb no nd lv)(u0:nd.list.length<=16):
  Calls prog 96 #[.pointer (some ⟨nb,no,none⟩)] w λe w'=>e=.returned (.agg (Zc nd).toArray)/\Below w.heap.size w w':=by
 obtain⟨ao,cap,rfl,z0,hm,hx⟩:=id h.hl;have HX:=Zz hx;clear hx;unfold maxLen at hm;have i0:nb<w.heap.size:=Qe w _ h.c0;have H5:=Zz h.c5
 have a0:∀o,(w.alloc o).cell? ⟨nb,no,none⟩=some (.int .i64 nd.kind):=λo=>by rw[World.cell?_alloc_past _ _ _ i0];exact h.c0
 have a1:∀o,(w.alloc o).cell? ⟨nb,no+1,none⟩=some (.int .i64 nd.level):=λo=>by rw[World.cell?_alloc_past _ _ _ i0];exact h.c1
 have a2:∀o,(w.alloc o).cell? ⟨nb,no+2,none⟩=some (.int .i64 nd.a):=λo=>by rw[World.cell?_alloc_past _ _ _ i0];exact h.c2
 have a3:∀o,(w.alloc o).cell? ⟨nb,no+3,none⟩=some (.int .i64 nd.b):=λo=>by rw[World.cell?_alloc_past _ _ _ i0];exact h.c3
 have a4:∀o,(w.alloc o).cell? ⟨nb,no+4,none⟩=some (.int .i64 nd.c):=λo=>by rw[World.cell?_alloc_past _ _ _ i0];exact h.c4
 have a5:∀o,(w.alloc o).cell? ⟨nb,no+5,none⟩=some (.slice ao nd.list.length cap):=λo=>by rw[World.cell?_alloc_past _ _ _ i0];exact h.c5
 clear h
 go_enter func96,ntmps96
 go_wp2_with fail
 obtain⟨W0,e0⟩:=nmE (w.alloc (.cells #[.int .i64 0,.int .i64 0,.int .i64 0,.int .i64 0,.int .i64 0,.int .i64 0,.int .i64 0,.int .i64 0,.int .i64 0,.int .i64 0,.int .i64 0,.int .i64 0,.int .i64 0,.int .i64 0,.int .i64 0,.int .i64 0,.int .i64 0,.int .i64 0,.int .i64 0,.int .i64 0,.int .i64 0,.int .i64 0] 200));rw[<-e0]
 have d0:nb<W0.heap.size:=by rw[e0];simp;omega
 have b0:W0.cell? ⟨nb,no,none⟩=some (.int .i64 nd.kind):=by rw[e0];exact a0 _
 have b1:W0.cell? ⟨nb,no+1,none⟩=some (.int .i64 nd.level):=by rw[e0];exact a1 _
 have b2:W0.cell? ⟨nb,no+2,none⟩=some (.int .i64 nd.a):=by rw[e0];exact a2 _
 have b3:W0.cell? ⟨nb,no+3,none⟩=some (.int .i64 nd.b):=by rw[e0];exact a3 _
 have b4:W0.cell? ⟨nb,no+4,none⟩=some (.int .i64 nd.c):=by rw[e0];exact a4 _
 have b5:W0.cell? ⟨nb,no+5,none⟩=some (.slice ao nd.list.length cap):=by rw[e0];exact a5 _
 have p0:=Zz e0;clear e0 a0 a1 a2 a3 a4 a5;obtain⟨S,hS⟩:=nmE (α:=World->Prop) (λw'=>w'.cell? ⟨nb,no,none⟩=some (.int .i64 nd.kind)/\w'.cell? ⟨nb,no+1,none⟩=some (.int .i64 nd.level)/\w'.cell? ⟨nb,no+2,none⟩=some (.int .i64 nd.a)/\w'.cell? ⟨nb,no+3,none⟩=some (.int .i64 nd.b)/\w'.cell? ⟨nb,no+4,none⟩=some (.int .i64 nd.c)/\w'.cell? ⟨nb,no+5,none⟩=some (.slice ao nd.list.length cap))
 have HS:Hid (∀w',S w'->w'.cell? ⟨nb,no,none⟩=some (.int .i64 nd.kind)/\w'.cell? ⟨nb,no+1,none⟩=some (.int .i64 nd.level)/\w'.cell? ⟨nb,no+2,none⟩=some (.int .i64 nd.a)/\w'.cell? ⟨nb,no+3,none⟩=some (.int .i64 nd.b)/\w'.cell? ⟨nb,no+4,none⟩=some (.int .i64 nd.c)/\w'.cell? ⟨nb,no+5,none⟩=some (.slice ao nd.list.length cap)):=λw' h=>by rw[hS]at h;exact h
 have q0:Hid (∀o,S (W0.drew.alloc o)):=λo=>by
  have d0:nb<W0.drew.heap.size:=d0;rw[hS];exact⟨(World.cell?_alloc_past _ _ _ d0).trans b0,(World.cell?_alloc_past _ _ _ d0).trans b1,(World.cell?_alloc_past _ _ _ d0).trans b2,(World.cell?_alloc_past _ _ _ d0).trans b3,(World.cell?_alloc_past _ _ _ d0).trans b4,(World.cell?_alloc_past _ _ _ d0).trans b5⟩
 refine zm2 (S:=S) 26 (by kernel_rfl) (by kernel_rfl) rfl (λc a d v w h=>by cases d<;>exact h) _ _ rfl rfl rfl rfl (by rw[hS];exact⟨b0,b1,b2,b3,b4,b5⟩) ?_;clear hS;simp only[List.take_succ_cons,List.take_zero];refine Xw (λL HL=>?_)
 repeat refine Xx rfl (kE (by intro w' hw;obtain⟨s0,s1,s2,s3,s4,s5⟩:=HS.out w' hw;go_simp<;>rfl) (by go_simp<;>rfl) ?_)
 refine HL.out _ ⟨.pointer (some ⟨W0.drew.heap.size,0,none⟩),W0.drew.alloc (.cells #[.int .i64 0,.int .i64 0,.int .i64 0,.int .i64 0,.int .i64 0,.int .i64 0,.int .i64 0,.int .i64 0,.int .i64 0,.int .i64 0,.int .i64 0,.int .i64 0,.int .i64 0,.int .i64 0,.int .i64 0,.int .i64 0,.int .i64 0,.int .i64 0,.int .i64 0,.int .i64 0,.int .i64 0,.int .i64 0] 200),W0.drew.alloc (.cells #[.int .i64 nd.kind,.int .i64 nd.level,.int .i64 nd.a,.int .i64 nd.b,.int .i64 nd.c,.int .i64 nd.list.length,.int .i64 0,.int .i64 0,.int .i64 0,.int .i64 0,.int .i64 0,.int .i64 0,.int .i64 0,.int .i64 0,.int .i64 0,.int .i64 0,.int .i64 0,.int .i64 0,.int .i64 0,.int .i64 0,.int .i64 0,.int .i64 0] 200),by kernel_rfl,q0.out _,zk8 _ _ 200 rfl _ _ _ rfl rfl Tryz.infoContent rfl (by kernel_rfl),q0.out _,?_⟩;clear HL;obtain⟨W1,l0⟩:=nmE (W0.drew.alloc (.cells #[.int .i64 nd.kind,.int .i64 nd.level,.int .i64 nd.a,.int .i64 nd.b,.int .i64 nd.c,.int .i64 nd.list.length,.int .i64 0,.int .i64 0,.int .i64 0,.int .i64 0,.int .i64 0,.int .i64 0,.int .i64 0,.int .i64 0,.int .i64 0,.int .i64 0,.int .i64 0,.int .i64 0,.int .i64 0,.int .i64 0,.int .i64 0,.int .i64 0] 200));rw[<-l0]
 have hC:W0.drew.heap.size=w.heap.size+1:=by rw[p0.out];simp
 rw[hC]
 have m0:W1.heap[w.heap.size+1]?=some (.cells (zy2 nd).toArray 200 (0,0)):=by rw[l0,<-hC];exact heap_alloc_last _ _
 have f0:W1.heap[w.heap.size]?=some (.cells (List.replicate 22 (Value.int .i64 0)).toArray 200 (0,0)):=by
  rw[l0,Below.heap_alloc _ _ _ (by rw[hC];omega)];show W0.heap[w.heap.size]?=_;rw[p0.out];exact heap_alloc_last _ _
 have j0:Below w.heap.size w W1:=by
  rw[l0];refine Below.alloc ?_ (by rw[hC];omega) _;rw[p0.out];exact(bA).drew
 have k5:W1.cell? ⟨nb,no+5,none⟩=some (.slice ao nd.list.length cap):=(j0.cell (p:=⟨nb,no+5,none⟩) i0).trans H5.out;have n0:=Zz m0;have g0:=Zz f0;have k0:=Zz j0;clear l0 m0 f0 j0 hC b0 b1 b2 b3 b4 b5 HS q0 p0 d0
 go_wp2_with fail
 go_still_tail 6,(by kernel_rfl)
 refine wpList_copy_splice rfl (.tmp 31) (.tmp 35) 23 23 rfl 3 underlying23 Tryz.infoInt1 _ _ _ _ _ _ rfl rfl (w.heap.size+1) 6 (zy2 nd) 200 n0.out (nd.list.map (Value.int .i64)) ?hn ?hpos ?hfit ?h1 (w.heap.size+1) W1 ?hb ?hBg ?_
 case hn=>simp only[List.length_map];show nd.list.length=min nd.list.length 16;omega
 case hpos=>
  intro hpos;refine⟨rfl,?_⟩;obtain⟨bb,off,A0,B0,o0⟩:=HX.out (by intro h0;rw[h0]at hpos;simp at hpos);refine⟨_,A0,λj u hj=>?_⟩;have hj':j<nd.list.length:=(by have:=(List.getElem?_eq_some_iff.1 hj).1;simpa using this)
  have h2:(⟨bb,off,none⟩:Addr).add j=⟨bb,off+j,none⟩:=by unfold Addr.add;split<;>simp_all
  rw[h2];have h3:W1.cell? ⟨bb,off+j,none⟩=some u:=by
   rw[k0.out.cell (p:=⟨bb,off+j,none⟩) B0,o0 j hj'];rw[List.getElem?_map,Qb hj']at hj;simp only[Option.map_some,Option.some.injEq]at hj;rw[<-hj,Qa,Qb hj'];rfl
  exact h3
 case hfit=>simp only[zy2,Vu,List.length_append,List.length_map,List.length_replicate,List.length_cons,List.length_nil];omega
 case h1=>intro u hu;obtain⟨y,_,rfl⟩:=List.mem_map.1 hu;rfl
 case hb=>exact(Below.refl _ _).drew
 case hBg=>omega
 intro w2 v0 r0
 have hg2':w2.heap[w.heap.size+1]?=some (.cells (Zc nd).toArray 200 (0,0)):=by rw[v0.out,zky]
 have x0:w2.heap[w.heap.size]?=some (.cells (List.replicate 22 (Value.int .i64 0)).toArray 200 (0,0)):=(r0.block _ (by omega)).trans g0.out;have HG:=Zz hg2';have y0:=Zz x0;have C0:Hid (Below w.heap.size w w2):=k0.out.trans (r0.mono (by omega));have HI:Hid ((prog.info? 200).map (·.size)=some (Zc nd).toArray.size):=by
  show _=_;rw[Tryz.infoContent];simp only[List.size_toArray,Jv nd u0]
 clear v0 hg2' x0 r0 n0 g0 k0 HX H5 k5;generalize hcl:(Zc nd).toArray=cl at*
 have t0:Hid (cl.all (·.oneCell')=true):=by show _=_;rw[<-hcl];exact zfw nd
 have D0:Hid ((List.replicate 22 (Value.int .i64 0)).toArray.size=cl.size):=by show _=_;rw[<-hcl];simp only[List.size_toArray,List.length_replicate,Jv nd u0]
 have E0:=Zz hcl;clear hcl
 go_wp2_with (first|(refine zm6 rfl _ 200 rfl _ rfl cl _ _ HG.out _ underlying200 rfl HI.out ?_)|(refine Vq rfl _ _ 200 rfl _ rfl _ cl rfl _ y0.out HI.out D0.out t0.out ?_))
 refine bodyPost_ret (v:=.agg cl) ?_ rfl ⟨by rw[E0.out],below_setRow C0.out (Nat.le_refl _) _⟩;exact zr8 (p:=2) (ty:=200) results96 _ _ ⟨w.heap.size,0,none⟩ _ rfl (run_loadVar_row _ _ _ _ cl _ _ (setRow_heap _ _ _ _ _ _ y0.out) underlying200 rfl HI.out)
open Go.Maps Go.WideMaps
def Tryz.laidOut:laidOutB Tryz.prog=true:=by kernel_rfl
def yz5:(200:TypeId)<prog.types.size:=of_decide_eq_true (by kernel_rfl)
def zb1:(match prog.underlying 200 with|some (.array _ _)|some (.struct _)=>true|_=>false)=true:=by rw[underlying200]
def Vv:Keyed prog 200:=Keyed.of_law (deep_law_laid Tryz.laidOut (m:=4) (by omega) yz5 (by kernel_rfl) zb1)
def zkx{α β:Type}{f:α->Option β}:∀(l:List α),(∀x∈l,∃y,f x=some y)->∃ys,l.mapM f=some ys
 |[],_=>⟨[],rfl⟩
 |x::l,h=>by
  obtain⟨y,hy⟩:=h x (by simp);obtain⟨ys,a0⟩:=zkx l (λz hz=>h z (by simp[hz]));exact⟨y::ys,by simp[List.mapM_cons,hy,a0]⟩
def map_ex{α:Type}{f:α->Option (List Lit)}{l:List α}(h:∃ys,l.mapM f=some ys):∃y,Option.map List.flatten (l.mapM f)=some y:=by
 obtain⟨ys,a0⟩:=h;exact⟨ys.flatten,by rw[a0];rfl⟩
def zfv{l:List Value}{i:Nat}(h:i<l.length):(l.drop i).take 1=[l[i]]:=by
 rw[List.drop_eq_getElem_cons h];rfl
def zmw(cs:List Value):Prop:=∀v∈cs,∃x:Int,v=.int .i64 x/\(Lit.int .i64 x).wf=true
def yv9(d:Nat){v:Value}(h:∃x:Int,v=.int .i64 x/\(Lit.int .i64 x).wf=true):∃y,prog.keyLits (d+1) 3 [v]=some y:=by
 obtain⟨x,rfl,hw⟩:=h;exact⟨[.int .i64 x],by simp[Program.keyLits,underlying3,hw]⟩
def ze0:prog.cellsOf 3=1:=by kernel_rfl
def ze1:prog.cellsOf 198=16:=by kernel_rfl
def zq9:prog.cellsOf 200=22:=by kernel_rfl
def keyArr(d:Nat){cs:List Value}(hl:cs.length=16)(h:zmw cs):∃y,prog.keyLits (d+2) 198 cs=some y:=by
 have hm:∃ys,(List.range 16).mapM (λi=>prog.keyLits (d+1) 3 ((cs.drop (i*prog.cellsOf 3)).take (prog.cellsOf 3)))=some ys:=by
  refine zkx _ (λi hi=>?_);rw[ze0,Nat.mul_one,zfv (by simp at hi;omega)];exact yv9 d (h _ (List.getElem_mem _))
 obtain⟨ys,a0⟩:=hm;refine⟨ys.flatten,?_⟩;unfold Program.keyLits;simp only[underlying198,ze1,hl,if_true,a0,Option.map_some]
def yz6(d:Nat){cs:List Value}(hl:cs.length=22)(h:zmw cs):∃y,prog.keyLits (d+3) 200 cs=some y:=by
 unfold Program.keyLits;simp only[underlying200,zq9,hl];rw[if_pos ⟨trivial,by kernel_rfl⟩]
 have q:∀i,i<6->∃y,prog.keyLits (d+2) 3 (List.take (prog.cellsOf 3) (List.drop i cs))=some y:=λi hi=>by
  rw[ze0,zfv (by omega)];exact yv9 (d+1) (h _ (List.getElem_mem _))
 have qa:∃y,prog.keyLits (d+2) 198 (List.take (prog.cellsOf 198) (List.drop 6 cs))=some y:=by
  rw[ze1];exact keyArr d (by simp;omega) (λv hv=>h v (List.mem_of_mem_drop (List.mem_of_mem_take hv)))
 refine map_ex (zkx _ (λf hf=>?_));simp only[List.mem_cons,List.not_mem_nil,or_false]at hf;rcases hf with rfl|rfl|rfl|rfl|rfl|rfl|rfl
 ·exact q 0 (by omega)
 ·exact q 1 (by omega)
 ·exact q 2 (by omega)
 ·exact q 3 (by omega)
 ·exact q 4 (by omega)
 ·exact q 5 (by omega)
 exact qa
def yvz:3<=prog.types.size+1:=of_decide_eq_true (by kernel_rfl)
def key_ex{cs:List Value}(hl:cs.length=22)(h:zmw cs):∃kl,keyOf prog 200 (.agg cs.toArray)=some kl:=by
 obtain⟨d,hd⟩:∃d,prog.types.size+1=d+3:=⟨prog.types.size+1 - 3,by have:=yvz;omega⟩;obtain⟨y,hy⟩:=yz6 d hl h
 have hf:(Value.agg cs.toArray).formed prog 200=true:=by simp[Value.formed,underlying200,zq9,hl]
 have hk:prog.keyType 200=true:=by kernel_rfl
 refine⟨.string (keyBytes y),?_⟩;unfold keyOf;rw[underlying200];simp only[hf,hk,Bool.and_self,if_true,Value.cells,hd,hy,Option.map_some]
namespace Fl
def fits(nd:Node):Prop:=inR nd.kind=true/\inR nd.level=true/\inR nd.a=true/\inR nd.b=true/\inR nd.c=true/\nd.list.length<=16/\nd.list.all inR=true
end Fl
def zt1{x:Int}(h:Fl.inR x=true):(Lit.int .i64 x).wf=true:=by
 simp only[Fl.inR,Bool.and_eq_true,decide_eq_true_eq]at h;exact WalkArith.wf_i64 (by omega)
def zb2{nd:Fl.Node}(h:Fl.fits nd):zmw (Zc nd):=by
 obtain⟨h0,h1,h2,h3,h4,h5,h6⟩:=h;intro v hv;simp only[Zc,Vu,List.mem_append,List.mem_cons,List.mem_map,List.mem_replicate,List.not_mem_nil,or_false]at hv;rcases hv with(rfl|rfl|rfl|rfl|rfl|rfl)|⟨y,hy,rfl⟩|⟨_,rfl⟩
 ·exact⟨_,rfl,zt1 h0⟩
 ·exact⟨_,rfl,zt1 h1⟩
 ·exact⟨_,rfl,zt1 h2⟩
 ·exact⟨_,rfl,zt1 h3⟩
 ·exact⟨_,rfl,zt1 h4⟩
 ·exact⟨_,rfl,WalkArith.wf_i64 (by omega)⟩
 ·exact⟨_,rfl,zt1 (List.all_eq_true.1 h6 y hy)⟩
 exact⟨_,rfl,WalkArith.wf_i64 (by omega)⟩
def Vh(P:Program)(nd:Fl.Node):Lit:=(keyOf P 200 (.agg (Zc nd).toArray)).getD .nil
def zs8{nd:Fl.Node}(h:Fl.fits nd):keyOf prog 200 (.agg (Zc nd).toArray)=some (Vh prog nd):=by
 obtain⟨kl,hk⟩:=key_ex (Jv nd h.2.2.2.2.2.1) (zb2 h);unfold Vh;rw[hk];rfl
def ze2{x y:Fl.Node}(h:Zc x=Zc y):x=y:=by
 unfold Zc at h;have h1:=List.append_inj_left h rfl;have h2:=List.append_inj_right h rfl;obtain⟨xk,xl,xa,xb,xc,xs⟩:=x;obtain⟨yk,yl,ya,yb,yc,ys⟩:=y;simp only[Vu,List.cons.injEq,Value.int.injEq,true_and,and_true]at h1;obtain⟨rfl,rfl,rfl,rfl,rfl,hn⟩:=h1
 have hn':xs.length=ys.length:=by omega
 have h3:=List.append_inj_left h2 (by simpa using hn');have h4:xs=ys:=by
  simp only at h3;exact(List.map_inj_right (λa b a0=>by injection a0)).1 h3
 rw[h4]
def zqz{x y:Fl.Node}(hx:Fl.fits x)(hy:Fl.fits y)(h:Vh prog x=Vh prog y):x=y:=by
 have h1:=zs8 hx;rw[h]at h1;have:=Vv.inj h1 (zs8 hy);simp only[Value.agg.injEq]at this;exact ze2 (by have:=congrArg Array.toList this;simpa using this)
def zv5(w:World)(T B:Nat)(seen:List Fl.Node):Prop:=
 w.cell? ⟨T,0,none⟩=some (.map (some B))/\∃n D,n<=seen.length/\w.ownsMap (H:=Unit) prog 200 (plainElem prog 3) B n D/\∀nd,Fl.fits nd->(Maps.has D (Vh prog nd)=true ↔ nd∈seen)
def zv5.kept{w w':World}{T B:Nat}{seen:List Fl.Node}(h:zv5 w T B seen){row:Option Nat}(g:w.grownBy w' row)(hT:some T≠row)(hB:some B≠row):zv5 w' T B seen:=by
 obtain⟨h1,n,D,h2,h3,h4⟩:=h;exact⟨g.cell h1 hT,n,D,h2,h3.kept g hB,h4⟩
def za7(w:World):(zeroValue 3).run prog w=.ok (.int .i64 0) w:=by kernel_rfl
def ze3(w:World):Calls prog 92 #[] w λe w'=>e=.returned (.pointer (some ⟨w.heap.size+1,0,none⟩))/\zv5 w' (w.heap.size+1) w.heap.size []/\Below w.heap.size w w'/\w'.heap.size=w.heap.size+2:=by
 have a0:= @run_makeMap prog
 go_enter func92,ntmps92
 go_wp2;go_ret;refine⟨rfl,⟨?_,0,.map [],Nat.le_refl _,(World.ownsMap_made w _ _ _).alloc _,λnd _=>?_⟩,?_,?_⟩
 ·simp
 ·simp[Maps.has]
 ·exact((bA).alloc (by simp) _)
 simp
def ze4{w:World}{T B:Nat}{seen:List Fl.Node}{nd:Fl.Node}(h:zv5 w T B seen)(hf:Fl.fits nd)(hn:seen.length<=1000000):
  Calls prog 95 #[.pointer (some ⟨T,0,none⟩),.agg (Zc nd).toArray] w λe w'=>∃(c:Int) (t:Bool),e=.returned (.tuple #[.int .i64 c,.bool (!t)])/\(t=true ↔ nd∈seen)/\zv5 w' T B (nd::seen)/\w.grownBy w' (some B):=by
 obtain⟨hT,n,D,C0,d0,hD⟩:=h;have i0:=zs8 hf;have HI:Hid ((prog.info? 200).map (·.size)=some (Zc nd).toArray.size):=by
  show _=_;rw[Tryz.infoContent];simp only[List.size_toArray,Jv nd hf.2.2.2.2.2.1]
 generalize hcl:(Zc nd).toArray=cl at*;have u0:T<w.heap.size:=Qe w _ hT;have v0:=d0.lt;have HK:Hid (keyOf prog 200 (.agg cl)=some (Vh prog nd)):=i0;have HO:Hid (w.ownsMap (H:=Unit) prog 200 (plainElem prog 3) B n D):=d0;have k0:Hid (∀nd,Fl.fits nd->(Maps.has D (Vh prog nd)=true ↔ nd∈seen)):=hD;have HT:Hid (w.cell? ⟨T,0,none⟩=some (.map (some B))):=hT;clear i0 d0 hD hcl hT
 go_enter func95,ntmps95
 go_wp2_with fail
 obtain⟨W0,l0⟩:=nmE (w.alloc (.cells cl 200));rw[<-l0]
 have g0:w.grownBy W0 none:=by rw[l0];exact World.grownBy_alloc _ _ _
 have o0:W0.cell? ⟨T,0,none⟩=some (.map (some B)):=g0.cell HT.out (by simp);have a0:W0.ownsMap (H:=Unit) prog 200 (plainElem prog 3) B n D:=HO.out.kept g0 (by simp)
 have HX:Hid (W0.heap[w.heap.size]?=some (.cells cl 200 (0,0))):=by show _=_;rw[l0];exact heap_alloc_last _ _
 have p0:Hid (W0.ownsMap (H:=Unit) prog 200 (plainElem prog 3) B n D):=a0;have f0:Hid (w.grownBy W0 none):=g0;obtain⟨v,ps,n0,hv⟩:=a0.drew.look_ok Vv underlying243 (za7 _) (zd:=.lit (.int .i64 0)) (zp:=[]) (plainElem_int underlying3 (by decide)) HK.out;obtain⟨c,rfl,hc,x0⟩:=plainElem_int_inv underlying3 hv;obtain⟨t,ht⟩:=nmE (Maps.has D (Vh prog nd));rw[<-ht]at n0;have q0:Hid ((Instr.lookup 243 (.map (some B)) (.agg cl) true).run prog W0.drew=.ok (.tuple #[.int .i64 c,.bool t]) W0.drew):=n0;have r0:Hid (t=Maps.has D (Vh prog nd)):=ht;clear l0 g0 a0 n0 hv hc x0 HO ht;refine wp_region_still_lit (by kernel_rfl) (by kernel_rfl) ?_
 iterate 4 still_step
 refine Yg rfl (.agg cl) (zz1 _ 200 rfl w.heap.size rfl cl _ _ HX.out _ underlying200 rfl HI.out) ?_;refine Yg rfl (.tuple #[.int .i64 c,.bool t]) (Ve _ _ 243 rfl (.map (some B)) (.agg cl) _ rfl rfl q0.out) ?_
 repeat still_step
 refine wpStill_nil ?_;have m0:W0.drew.cell? ⟨T,0,none⟩=some (.map (some B)):=o0;have b0:Hid (w.grownBy W0.drew none):=⟨f0.out.os,f0.out.tape,f0.out.output,f0.out.size,f0.out.block⟩;have h0:Hid (W0.drew.ownsMap (H:=Unit) prog 200 (plainElem prog 3) B n D):=p0.out;have s0:Hid (W0.drew.heap[w.heap.size]?=some (.cells cl 200 (0,0))):=HX.out
 change Exit.then _ _ _ _ W0.drew
 generalize W0.drew=W1 at*;clear o0 f0 p0 HX q0
 cases t with
 |true=>
  have hmem:nd∈seen:=(k0.out nd hf).1 r0.out.symm;have j0:Hid (nd∈seen):=hmem;clear hmem;go_wp2
  go_ret2
  refine⟨c,true,rfl,⟨λ_=>j0.out,λ_=>rfl⟩,⟨m0,n,D,by simp;omega,h0.out,λnd' hf'=>?_⟩,⟨b0.out.os,b0.out.tape,b0.out.output,b0.out.size,λk hk _=>b0.out.block k hk (by simp)⟩⟩;rw[k0.out nd' hf',List.mem_cons];exact⟨λh=> .inr h,λh=>h.elim (λe=>by rw[e];exact j0.out) id⟩
 |false=>
  have hno:nd ∉ seen:=λh=>by have:=(k0.out nd hf).2 h;rw[<-r0.out]at this;cases this
  have y0:Hid (nd ∉ seen):=hno;have D0:=h0.out.size_le;clear hno
  go_wp2_with (at_len;refine wpList_len_own _ rfl _ 243 rfl 200 3 underlying243 _ B n D rfl h0.out ?_)
  refine wp_region_still_tail 6 (by kernel_rfl) (by kernel_rfl) ?_;simp only[List.take_succ_cons,List.take_zero,List.drop_succ_cons,List.drop_zero]
  iterate 4 still_step
  refine Yg rfl (.agg cl) (zz1 _ 200 rfl w.heap.size rfl cl _ _ s0.out _ underlying200 rfl HI.out) ?_
  still_step
  refine wpStill_nil ?_;have t0:Hid (W1.drew.ownsMap (H:=Unit) prog 200 (plainElem prog 3) B n D):=h0.out;refine wpList_mapUpdate_own W1.drew rfl _ _ _ 243 rfl 200 3 Vv underlying243 _ B n D rfl t0.out (by unfold maxLen;omega) _ _ _ rfl rfl HK.out _ [] (plainElem_int underlying3 (WalkArith.wf_i64 (by omega))) ?_;intro w2 c0 e0;have z0:Hid (zv5 w2 T B (nd::seen)):=by
   refine⟨?_,n+1,_,by simp;omega,c0,λnd' hf'=>?_⟩
   ·have hTB:T≠B:=by
     intro e;obtain⟨es,clock,hb,_⟩:=h0.out;subst e;simp[World.cell?,hb]at m0
    exact e0.cell m0 (by simpa using hTB)
   by_cases he:nd'=nd
   ·subst he
    rw[Maps.has_put_same h0.out.isMap (Vv.key HK.out)];simp
   rw[Maps.has_put_other (λh=>he (zqz hf' hf h)),k0.out nd' hf',List.mem_cons];exact⟨λh=> .inr h,λh=>h.elim (λe=>absurd e he) id⟩
  have A0:Hid (w.grownBy w2 (some B)):=⟨e0.os.trans b0.out.os,e0.tape.trans b0.out.tape,e0.output.trans b0.out.output,Nat.le_trans b0.out.size e0.size,λk hk B0=>(e0.block k (Nat.lt_of_lt_of_le hk b0.out.size) B0).trans (b0.out.block k hk (by simp))⟩;clear c0 e0 t0 m0 s0;go_wp2
  go_ret2
  exact⟨_,false,rfl,⟨λh=>(by cases h),λh=>absurd h y0.out⟩,z0.out,A0.out⟩
def Vg(w:World)(T B:Nat)(ws:List Fl.Node):Prop:=
 w.cell? ⟨T,0,none⟩=some (.map (some B))/\∃n D,n<=ws.length/\w.ownsMap (H:=Unit) prog 200 (plainElem prog 3) B n D/\Maps.size D=ws.length/\(∀nd,Fl.fits nd->(Maps.has D (Vh prog nd)=true ↔ nd∈ws))/\∀(i:Nat) (hi:i<ws.length),Fl.fits ws[i]/\∀z,D.atKey (Vh prog ws[i]) z=.lit (.int .i64 (i:Int))
def Vg.kept{w w':World}{T B:Nat}{ws:List Fl.Node}(h:Vg w T B ws){row:Option Nat}(g:w.grownBy w' row)(hT:some T≠row)(hB:some B≠row):Vg w' T B ws:=by
 obtain⟨h1,n,D,h2,h3,h4⟩:=h;exact⟨g.cell h1 hT,n,D,h2,h3.kept g hB,h4⟩
def yvy{w:World}{T B:Nat}{ws:List Fl.Node}{nd:Fl.Node}(h:Vg w T B ws)(hf:Fl.fits nd)(hn:ws.length<=100000000):
  Calls prog 95 #[.pointer (some ⟨T,0,none⟩),.agg (Zc nd).toArray] w λe w'=>((∃(i:Nat) (hi:i<ws.length),ws[i]=nd/\e=.returned (.tuple #[.int .i64 (i:Int),.bool false])/\Vg w' T B ws)\/(nd ∉ ws/\e=.returned (.tuple #[.int .i64 (ws.length:Int),.bool true])/\Vg w' T B (ws++[nd])))/\w.grownBy w' (some B):=by
 obtain⟨hT,n,D,hnl,hown,hsz,hD,hat⟩:=h;have HAT:Hid (∀(i:Nat) (hi:i<ws.length),Fl.fits ws[i]/\∀z,D.atKey (Vh prog ws[i]) z=.lit (.int .i64 (i:Int))):=hat;have HSZ:Hid (Maps.size D=ws.length):=hsz;clear hat hsz;have hkey:=zs8 hf;have HI:Hid ((prog.info? 200).map (·.size)=some (Zc nd).toArray.size):=by
  show _=_;rw[Tryz.infoContent];simp only[List.size_toArray,Jv nd hf.2.2.2.2.2.1]
 generalize hcl:(Zc nd).toArray=cl at*;have hTlt:T<w.heap.size:=World.block_lt_of_cell? w _ hT;have hBlt:=hown.lt;have HK:Hid (keyOf prog 200 (.agg cl)=some (Vh prog nd)):=hkey;have HO:Hid (w.ownsMap (H:=Unit) prog 200 (plainElem prog 3) B n D):=hown;have HDD:Hid (∀nd,Fl.fits nd->(Maps.has D (Vh prog nd)=true ↔ nd∈ws)):=hD;have HT:Hid (w.cell? ⟨T,0,none⟩=some (.map (some B))):=hT;clear hkey hown hD hcl hT
 go_enter func95,ntmps95
 go_wp2_with fail
 obtain⟨W0,hW0⟩:∃W0,W0=w.alloc (.cells cl 200):=⟨_,rfl⟩;rw[<-hW0]
 have g0:w.grownBy W0 none:=by rw[hW0];exact World.grownBy_alloc _ _ _
 have hT0:W0.cell? ⟨T,0,none⟩=some (.map (some B)):=g0.cell HT.out (by simp);have hown0:W0.ownsMap (H:=Unit) prog 200 (plainElem prog 3) B n D:=HO.out.kept g0 (by simp)
 have HX:Hid (W0.heap[w.heap.size]?=some (.cells cl 200 (0,0))):=by show _=_;rw[hW0];exact heap_alloc_last _ _
 have HO0:Hid (W0.ownsMap (H:=Unit) prog 200 (plainElem prog 3) B n D):=hown0;have HG0:Hid (w.grownBy W0 none):=g0;obtain⟨v,ps,hlk,hv⟩:=hown0.drew.look_ok Vv underlying243 (za7 _) (zd:=.lit (.int .i64 0)) (zp:=[]) (plainElem_int underlying3 (by decide)) HK.out;obtain⟨c,rfl,hc,hwc⟩:=plainElem_int_inv underlying3 hv;have HCC:Hid (D.atKey (Vh prog nd) (.lit (.int .i64 0))=.lit (.int .i64 c)):=congrArg Prod.fst hc;obtain⟨t,ht⟩:∃t,t=Maps.has D (Vh prog nd):=⟨_,rfl⟩;rw[<-ht]at hlk;have HLK:Hid ((Instr.lookup 243 (.map (some B)) (.agg cl) true).run prog W0.drew=.ok (.tuple #[.int .i64 c,.bool t]) W0.drew):=hlk;have HTT:Hid (t=Maps.has D (Vh prog nd)):=ht;clear hW0 g0 hown0 hlk hv hc hwc HO ht;refine wp_region_still_lit (by kernel_rfl) (by kernel_rfl) ?_
 iterate 4 still_step
 refine Yg rfl (.agg cl) (zz1 _ 200 rfl w.heap.size rfl cl _ _ HX.out _ underlying200 rfl HI.out) ?_;refine Yg rfl (.tuple #[.int .i64 c,.bool t]) (Ve _ _ 243 rfl (.map (some B)) (.agg cl) _ rfl rfl HLK.out) ?_
 repeat still_step
 refine wpStill_nil ?_;have hTd:W0.drew.cell? ⟨T,0,none⟩=some (.map (some B)):=hT0;have HGd:Hid (w.grownBy W0.drew none):=⟨HG0.out.os,HG0.out.tape,HG0.out.output,HG0.out.size,HG0.out.block⟩;have HOd:Hid (W0.drew.ownsMap (H:=Unit) prog 200 (plainElem prog 3) B n D):=HO0.out;have HXd:Hid (W0.drew.heap[w.heap.size]?=some (.cells cl 200 (0,0))):=HX.out
 change Exit.then _ _ _ _ W0.drew
 generalize W0.drew=W1 at*;clear hT0 HG0 HO0 HX HLK
 cases t with
 |true=>
  have hmem:nd∈ws:=(HDD.out nd hf).1 HTT.out.symm;have HMEM:Hid (nd∈ws):=hmem;clear hmem;go_wp2
  go_ret2
  obtain⟨i,hi,hie⟩:=List.getElem_of_mem HMEM.out;have hci:c=(i:Int):=by
   have h5:=(HAT.out i hi).2 (.lit (.int .i64 0));rw[hie,HCC.out]at h5;injection h5 with h5;injection h5
  exact⟨.inl ⟨i,hi,hie,by rw[hci];rfl,⟨hTd,n,D,hnl,HOd.out,HSZ.out,HDD.out,HAT.out⟩⟩,⟨HGd.out.os,HGd.out.tape,HGd.out.output,HGd.out.size,λk hk _=>HGd.out.block k hk (by simp)⟩⟩
 |false=>
  have hno:nd ∉ ws:=λh=>by have:=(HDD.out nd hf).2 h;rw[<-HTT.out]at this;cases this
  have HNO:Hid (nd ∉ ws):=hno;have hsl:=HOd.out.size_le;clear hno
  go_wp2_with (at_len;refine wpList_len_own _ rfl _ 243 rfl 200 3 underlying243 _ B n D rfl HOd.out ?_)
  refine wp_region_still_tail 6 (by kernel_rfl) (by kernel_rfl) ?_;simp only[List.take_succ_cons,List.take_zero,List.drop_succ_cons,List.drop_zero]
  iterate 4 still_step
  refine Yg rfl (.agg cl) (zz1 _ 200 rfl w.heap.size rfl cl _ _ HXd.out _ underlying200 rfl HI.out) ?_
  still_step
  refine wpStill_nil ?_;have HOe:Hid (W1.drew.ownsMap (H:=Unit) prog 200 (plainElem prog 3) B n D):=HOd.out;refine wpList_mapUpdate_own W1.drew rfl _ _ _ 243 rfl 200 3 Vv underlying243 _ B n D rfl HOe.out (by unfold maxLen;omega) _ _ _ rfl rfl HK.out _ [] (plainElem_int underlying3 (WalkArith.wf_i64 (by omega))) ?_;intro w2 hown2 hg2;have HS2:Hid (Vg w2 T B (ws++[nd])):=by
   refine⟨?_,n+1,_,by simp;omega,hown2,?_,λnd' hf'=>?_,λi hi=>?_⟩
   ·have hTB:T≠B:=by
     intro e;obtain⟨es,clock,hb,_⟩:=HOd.out;subst e;simp[World.cell?,hb]at hTd
    exact hg2.cell hTd (by simpa using hTB)
   ·rw[Maps.size_put (HOd.out.tidy Vv),<-HTT.out,HSZ.out];simp
   ·by_cases he:nd'=nd
    ·subst he
     rw[Maps.has_put_same HOd.out.isMap (Vv.key HK.out)];simp
    ·rw[Maps.has_put_other (λh=>he (zqz hf' hf h)),HDD.out nd' hf',List.mem_append,List.mem_singleton]
     exact⟨λh=> .inl h,λh=>h.elim id (λe=>absurd e he)⟩
   ·by_cases hil:i<ws.length
    ·rw[List.getElem_append_left hil]
     have h6:=HAT.out i hil;refine⟨h6.1,λz=>?_⟩;rw[Maps.atKey_put_other (λh=>HNO.out (by rw[<-zqz h6.1 hf h];exact List.getElem_mem hil))];exact h6.2 z
    ·have hie:i=ws.length:=by rw[List.length_append,List.length_singleton]at hi;omega
     subst hie;rw[List.getElem_append_right (Nat.le_refl _)];simp only[Nat.sub_self,List.getElem_cons_zero];refine⟨hf,λz=>?_⟩;rw[Maps.atKey_put_same HOd.out.isMap (Vv.key HK.out)];rw[HSZ.out]
  have HG2:Hid (w.grownBy w2 (some B)):=⟨hg2.os.trans HGd.out.os,hg2.tape.trans HGd.out.tape,hg2.output.trans HGd.out.output,Nat.le_trans HGd.out.size hg2.size,λk hk hne=>(hg2.block k (Nat.lt_of_lt_of_le hk HGd.out.size) hne).trans (HGd.out.block k hk (by simp))⟩;clear hown2 hg2 HOe hTd HXd;go_wp2
  go_ret2
  exact⟨.inr ⟨HNO.out,by rw[HSZ.out];rfl,HS2.out⟩,HG2.out⟩
end Go.Proofs.YtminjljgedopkaaGreatDoor
namespace Go.Proofs.YtminjljgedopkaaGreatDoor
open Go.RowKit Go.Proofs.Tryz
def Tryz.infoNodeW:(Tryz.prog.info? 121).map (λi=>(i.zero,i.size,i.bytes))=some (some (.agg #[.int .i64 0,.int .i64 0,.int .i64 0,.int .i64 0,.int .i64 0,.slice none 0 0]),6,64):=by kernel_rfl
def Jp(w:World)(b:Nat):Prop:=∃cs fr,w.heap[b]?=some (.cells cs 3 fr)
def Jp.of{w w':World}{b:Nat}(h:Jp w b)(e:w'.heap[b]?=w.heap[b]?):Jp w' b:=by
 obtain⟨cs,fr,h1⟩:=h;exact⟨cs,fr,e.trans h1⟩
def Jp.lt{w:World}{b:Nat}(h:Jp w b):b<w.heap.size:=by
 obtain⟨cs,fr,h1⟩:=h;rcases Nat.lt_or_ge b w.heap.size with h|h
 ·exact h
 ·rw[Array.getElem?_eq_none h]at h1;cases h1
structure Yv(w0 w:World)(Xb T B Fb:Nat)(wv:Value)(acc:List Fl.Node)(lvs:List Value):Prop where
 x0:w0.heap.size<=B/\B<T/\T<Xb
 hz:Xb<w.heap.size
 c0:w.cell? ⟨Xb,0,none⟩=some (.pointer (some ⟨Fb,0,none⟩))
 c1:w.cell? ⟨Xb,1,none⟩=some wv
 c2:w.cell? ⟨Xb,2,none⟩=some (.pointer (some ⟨T,0,none⟩))
 fz:∀j,w.frozen? ⟨Xb,j,none⟩=false
 se:Vg w T B acc
 hl:lvs.length=acc.length
 ow:w.ownsRow (Xb+1) 121 6 wv acc.length (Xr acc lvs)
 li:∀p,p∈Ym acc lvs->Xj w p.1 p.2 (.slice none 0 0) wv/\(p.2≠[]->∀b,p.1.ownBlock=some b->Xb<b/\Jp w b)
 be:Below w0.heap.size w0 w
structure zmv(w0 w:World)(Xb T B Fb:Nat)(wv:Value)(acc:List Fl.Node)(lvs:List Value):Prop where
 x0:w0.heap.size<=B/\B<T/\T<Xb
 hz:Xb<w.heap.size
 c0:w.cell? ⟨Xb,0,none⟩=some (.pointer (some ⟨Fb,0,none⟩))
 c1:w.cell? ⟨Xb,1,none⟩=some wv
 c2:w.cell? ⟨Xb,2,none⟩=some (.pointer (some ⟨T,0,none⟩))
 fz:∀j,w.frozen? ⟨Xb,j,none⟩=false
 hl:lvs.length=acc.length
 ow:w.ownsRow (Xb+1) 121 6 wv acc.length (Xr acc lvs)
 li:∀p,p∈Ym acc lvs->Xj w p.1 p.2 (.slice none 0 0) wv/\(p.2≠[]->∀b,p.1.ownBlock=some b->Xb<b/\Jp w b)
 be:Below w0.heap.size w0 w
structure Yp(w w':World)(Xb B:Nat)(wv wv':Value):Prop where
 os:w'.os=w.os
 tp:w'.tape=w.tape
 ou:w'.output=w.output
 sz:w.heap.size<=w'.heap.size
 bl:∀c,c<w.heap.size->c≠Xb->c≠B->some c≠wv.ownBlock->w'.heap[c]?=w.heap[c]?
 ow:wv'.ownBlock=wv.ownBlock\/∃g,wv'.ownBlock=some g/\w.heap.size<=g
def Yp.of_below{w w':World}{Xb B:Nat}{wv:Value}(h:Below w.heap.size w w'):Yp w w' Xb B wv wv:=⟨h.os,h.tape,h.output,h.size,λc hc _ _ _=>h.block c hc,.inl rfl⟩
def Yp.trans{w w' w'':World}{Xb B:Nat}{wv wv' wv'':Value}(h:Yp w w' Xb B wv wv')(h':Yp w' w'' Xb B wv' wv''):Yp w w'' Xb B wv wv'':=by
 refine⟨h'.os.trans h.os,h'.tp.trans h.tp,h'.ou.trans h.ou,Nat.le_trans h.sz h'.sz,λc h1 h2 h3 h4=>?_,?_⟩
 ·refine(h'.bl c (Nat.lt_of_lt_of_le h1 h.sz) h2 h3 (λhh=>?_)).trans (h.bl c h1 h2 h3 h4)
  rcases h.ow with e|⟨g,e,hg⟩
  ·exact h4 (hh.trans e)
  ·rw[e]at hh;injection hh with hh;omega
 ·rcases h'.ow with e|⟨g,e,hg⟩
  ·rw[e];exact h.ow
  ·exact .inr ⟨g,e,Nat.le_trans h.sz hg⟩
def Yv.below{w0 w w':World}{Xb T B Fb:Nat}{wv:Value}{acc:List Fl.Node}{lvs:List Value}(h:Yv w0 w Xb T B Fb wv acc lvs)(hb:Below w.heap.size w w'):Yv w0 w' Xb T B Fb wv acc lvs:=by
 have og:w.grownBy w' none:=⟨hb.os,hb.tape,hb.output,hb.size,λk hk _=>hb.block k hk⟩;have hx:=h.hz;exact⟨h.x0,Nat.lt_of_lt_of_le hx hb.size,(hb.cell (p:=⟨Xb,0,none⟩) hx).trans h.c0,(hb.cell (p:=⟨Xb,1,none⟩) hx).trans h.c1,(hb.cell (p:=⟨Xb,2,none⟩) hx).trans h.c2,λj=>(hb.frozen (p:=⟨Xb,j,none⟩) hx).trans (h.fz j),h.se.kept og (by simp) (by simp),h.hl,zpy h.ow hb,λp hp=>⟨(h.li p hp).1.below hb,λhn b hbb=>⟨((h.li p hp).2 hn b hbb).1,((h.li p hp).2 hn b hbb).2.of (hb.block b ((h.li p hp).2 hn b hbb).2.lt)⟩⟩,h.be.trans (hb.mono h.be.size)⟩
def yz7{ws:List Fl.Node}{nd:Fl.Node}{i:Nat}(hi:i<ws.length)(he:ws[i]=nd)(hu:∀j,(hj:j<ws.length)->ws[j]=nd->j=i):Fl.put1 ws nd=((i:Int),ws):=by
 have nth_at:∀j,(hj:j<ws.length)->Fl.nth ws j=ws[j]:=λj hj=>by unfold Fl.nth;rw[List.getD_eq_getElem?_getD,List.getElem?_eq_getElem hj];rfl
 have hf:(List.range ws.length).find? (λj=>Fl.eqNode (Fl.nth ws j) nd)=some i:=by
  have h1:=zpx (f:=λj=>Fl.eqNode (Fl.nth ws j) nd) (l:=List.range ws.length) (k:=i) (by simpa using hi) (λt ht=>?_) ?_
  ·simpa using h1
  ·simp only[List.getElem_range]
   cases hc:Fl.eqNode (Fl.nth ws t) nd
   ·rfl
   ·have h2:=(Fl.eqNode_iff _ _).1 hc
    rw[nth_at t (by omega)]at h2;have:=hu t (by omega) h2;omega
  ·simp only[List.getElem_range]
   exact(Fl.eqNode_iff _ _).2 (by rw[nth_at i hi];exact he)
 unfold Fl.put1;rw[hf]
def yr1{ws:List Fl.Node}{nd:Fl.Node}(h:nd ∉ ws):Fl.put1 ws nd=((ws.length:Int),ws++[nd]):=by
 have hf:(List.range ws.length).find? (λj=>Fl.eqNode (Fl.nth ws j) nd)=none:=by
  rw[List.find?_eq_none];intro j hj hc;rw[List.mem_range]at hj;have h2:=(Fl.eqNode_iff _ _).1 hc;unfold Fl.nth at h2;rw[List.getD_eq_getElem?_getD,List.getElem?_eq_getElem hj]at h2;exact h (by rw[<-h2];exact List.getElem_mem hj)
 unfold Fl.put1;rw[hf]
def Vg.once{w:World}{T B:Nat}{ws:List Fl.Node}(h:Vg w T B ws){i j:Nat}(hi:i<ws.length)(hj:j<ws.length)(he:ws[j]=ws[i]):j=i:=by
 obtain⟨-,n,D,-,-,-,-,h4⟩:=h;have h5:=(h4 i hi).2 (.lit (.int .i64 0));have h6:=(h4 j hj).2 (.lit (.int .i64 0));rw[he,h5]at h6;injection h6 with h6;injection h6 with _ h6;omega
end Go.Proofs.YtminjljgedopkaaGreatDoor
