import Derived.Test.YtaaejabalinojaaGreatDoorM39
import Derived.Laws.CopyOwn
import Derived.DeepKeys4
set_option linter.all false
set_option maxRecDepth 100000
set_option maxHeartbeats 40000000
namespace Go.Proofs.YtaaejabalinojaaGreatDoor
open Go.RowKit Go.Proofs.Tryz
def zwz(k:Nat):Nat:=if k=0 then 1 else if k=1 then 1 else if k=2 then 3 else if k=3 then 2 else if k=4 then 2 else if k=5 then 3 else if k=6 then 2 else 0
def yu8(k:Nat):zwz k<=3:=by unfold zwz;(repeat' split)<;>omega
def ywy(k:Nat)(h:k<8)(h7:k≠7):Fl.fields (k:Int)=(zwz k:Int):=by
 have:k=0\/k=1\/k=2\/k=3\/k=4\/k=5\/k=6:=by omega
 rcases this with rfl|rfl|rfl|rfl|rfl|rfl|rfl<;>rfl
def zu2(s:List UInt8)(p:Nat)(h:p<=s.length)(hq:¬(Fl.num s p).2.1<0):∃v q:Nat,Fl.num s p=((v:Int),(q:Int),0)/\p<q/\q<=s.length/\v<2147483648:=by
 have h1:=Fl.num_ok s p h;generalize Fl.num s p=r at*;obtain⟨a,b,c⟩:=r;simp only at h1 hq;rcases h1 with h1|h1
 ·omega
 obtain⟨h2,h3,h4,h5,rfl⟩:=h1;exact⟨a.toNat,b.toNat,by rw[Int.toNat_of_nonneg h4,Int.toNat_of_nonneg (by omega)],by omega,by omega,by omega⟩
def zqw(s:List UInt8)(p:Nat)(lo hi:Int)(h:p<=s.length)(hq:¬(Fl.numB s p lo hi).2.1<0):∃v q:Nat,Fl.numB s p lo hi=((v:Int),(q:Int),0)/\Fl.num s p=((v:Int),(q:Int),0)/\p<q/\q<=s.length/\lo<=(v:Int)/\(v:Int)<=hi:=by
 unfold Fl.numB at*
 by_cases h1:(Fl.num s p).2.1<0
 ·rw[if_pos h1]at hq;exact absurd (show (-1:Int)<0 by decide) hq
 rw[if_neg h1]at hq⊢
 by_cases h2:(Fl.num s p).1<lo\/hi<(Fl.num s p).1
 ·rw[if_pos h2]at hq;exact absurd (show (-1:Int)<0 by decide) hq
 rw[if_neg h2];obtain⟨v,q,h3,h4,h5,h6⟩:=zu2 s p h h1;rw[h3]at h2⊢;simp only at h2⊢;exact⟨v,q,rfl,rfl,h4,h5,by omega,by omega⟩
section
variable{s:List UInt8}{p k x v q:Nat}
def zc4(a0:p<s.length)(hx:x=(s.getD p 0).toNat)(b0:x<8)(hn:(Fl.num s (p+1)).2.1<0):Fl.one s p k=(Fl.nd0,-1,(Fl.num s (p+1)).2.2):=by
 unfold Fl.one;rw[if_neg (by omega)];simp only[<-hx];rw[if_neg (by unfold Fl.fields;repeat' split<;>omega),if_pos hn]
def zd3(b0:p<s.length)(hx:x=(s.getD p 0).toNat)(a0:x<8)(h7:x≠7)(hn:Fl.num s (p+1)=((v:Int),(q:Int),0)):
  Fl.one s p k=if(Fl.nums s q (zwz x)).2.1<0 then(Fl.nd0,-1,(Fl.nums s q (zwz x)).2.2) else Fl.oneFin p k ⟨x,v,(Fl.nums s q (zwz x)).1.getD 0 0,(Fl.nums s q (zwz x)).1.getD 1 0,(Fl.nums s q (zwz x)).1.getD 2 0,[]⟩ (Fl.nums s q (zwz x)).2.1:=by
 unfold Fl.one;rw[if_neg (by omega)];simp only[<-hx,hn];rw[ywy x a0 h7,if_neg (by omega),if_neg (by omega),if_neg (by omega)];simp only[Int.toNat_natCast]
def yy3(a0:p<s.length)(hx:7=(s.getD p 0).toNat)(hn:Fl.num s (p+1)=((v:Int),(q:Int),0))(hm:(Fl.numB s q 0 16).2.1<0)(hq:q<=s.length):
  Fl.one s p k=(Fl.nd0,-1,(Fl.numB s q 0 16).2.2):=by
 have b0:=Fl.num_ok s q hq;unfold Fl.one;rw[if_neg (by omega)];simp only[<-hx,hn];rw[if_neg (by decide),if_neg (by omega),if_pos (by decide)];simp only[Int.toNat_natCast];unfold Fl.numB at*
 by_cases h1:(Fl.num s q).2.1<0
 ·rw[if_pos h1,if_pos h1]
 rw[if_neg h1]at hm;rw[if_neg h1,if_neg h1]
 by_cases h2:(Fl.num s q).1<0\/16<(Fl.num s q).1
 ·rw[if_pos h2,if_pos (by omega)]
 rw[if_neg h2]at hm;exact absurd hm h1
def ym6(b0:p<s.length)(hx:7=(s.getD p 0).toNat)(hn:Fl.num s (p+1)=((v:Int),(q:Int),0)){m q2:Nat}(hm:Fl.num s q=((m:Int),(q2:Int),0))(a0:m<=16):
  Fl.one s p k=if(Fl.nums s q2 m).2.1<0 then(Fl.nd0,-1,(Fl.nums s q2 m).2.2) else Fl.oneFin p k ⟨7,v,0,0,0,(Fl.nums s q2 m).1⟩ (Fl.nums s q2 m).2.1:=by
 unfold Fl.one;rw[if_neg (by omega)];simp only[<-hx,hn];rw[if_neg (by decide),if_neg (by omega),if_pos (by decide)];simp only[Int.toNat_natCast,hm];rw[if_neg (by omega),if_neg (by omega)];rfl
end
def Vs(w:World)(b ro:Nat):Prop:=∀k:Nat,k<8->w.cell? ⟨b,ro+k*4+1,none⟩=some (.int .i64 (zwz k:Nat))/\w.cell? ⟨b,ro+k*4+2,none⟩=some (.bool (k==7))/\w.cell? ⟨b,ro+k*4+3,none⟩=some (.func (.func (byF k)) #[] #[])
def Vs.move{w w':World}{b ro:Nat}(h:Vs w b ro)(m:Mv w w' b)(a0:1<=ro):Vs w' b ro:=λk hk=>by
 obtain⟨h1,h2,h3⟩:=h k hk;exact⟨(m.o _ (by omega)).trans h1,(m.o _ (by omega)).trans h2,(m.o _ (by omega)).trans h3⟩
structure zz1(s:List UInt8)(q f:Nat)(w wr:World)(b N PB x v j q':Nat)(xs:List Int):Prop where
 hn:zs7 s q f j q' xs
 hm:Mv w wr b
 hc:wr.cell? ⟨b,1,none⟩=some (.int .i64 (q':Int))
 nd:Nd wr N x v (xs.getD 0 0) (xs.getD 1 0) (xs.getD 2 0) (.slice none 0 0)
 rs:Nd wr w.heap.size 0 0 0 0 0 (.slice none 0 0)
 p0:wr.cell? ⟨PB,0,none⟩=some (.pointer (some ⟨N,2,none⟩))
 p1:wr.cell? ⟨PB,1,none⟩=some (.pointer (some ⟨N,3,none⟩))
 p2:wr.cell? ⟨PB,2,none⟩=some (.pointer (some ⟨N,4,none⟩))
 hN:w.heap.size<N
 hP:N<PB
def zz1.ptr{s:List UInt8}{q f:Nat}{w wr:World}{b N PB x v j q':Nat}{xs:List Int}(h:zz1 s q f w wr b N PB x v j q' xs)(hj:j<3):wr.cell? ⟨PB,j,none⟩=some (.pointer (some ⟨N,2+j,none⟩)):=by
 have:j=0\/j=1\/j=2:=by omega
 rcases this with rfl|rfl|rfl
 ·exact h.p0
 ·exact h.p1
 exact h.p2
def zz1.cell{s:List UInt8}{q f:Nat}{w wr:World}{b N PB x v j q':Nat}{xs:List Int}(h:zz1 s q f w wr b N PB x v j q' xs)(hj:j<3):wr.cell? ⟨N,2+j,none⟩=some (.int .i64 (xs.getD j 0)):=by
 have:j=0\/j=1\/j=2:=by omega
 rcases this with rfl|rfl|rfl
 ·exact h.nd.c2
 ·exact h.nd.c3
 exact h.nd.c4
def zz1.next{s:List UInt8}{q f:Nat}{w wr w1:World}{b N PB x v j q':Nat}{xs:List Int}(h:zz1 s q f w wr b N PB x v j q' xs)(hb:b<w.heap.size)(d0:j<f)(hj:j<3){y m:Nat}(hn:Fl.num s q'=((y:Int),(m:Int),0))(m1:Mv wr w1 b)(c1:w1.cell? ⟨b,1,none⟩=some (.int .i64 (m:Int))):
  zz1 s q f w (w1.setCell ⟨N,2+j,none⟩ (.int .i64 y)) b N PB x v (j+1) m (xs++[(y:Int)]):=by
 have hN:=h.hN;have hP:=h.hP;have g1:=m1.g;have g2:=Xt w1 N (2+j) (.int .i64 y)
 have hnb:some N≠some b:=by simp;omega
 have a0:some PB≠some b:=by simp;omega
 have e0:some w.heap.size≠some b:=by simp;omega
 have b0:some PB≠some N:=by simp;omega
 have f0:some w.heap.size≠some N:=by simp;omega
 refine⟨by have:=h.hn.step d0 hn (by omega);simpa using this,(h.hm.trans m1).andSet hb (by omega) _ _,g2.cell c1 (by simp;omega),?_,(h.rs.grown g1 e0).grown g2 f0,g2.cell (g1.cell h.p0 a0) b0,g2.cell (g1.cell h.p1 a0) b0,g2.cell (g1.cell h.p2 a0) b0,hN,hP⟩;have c0:=h.nd.grown g1 hnb;have hlen:=h.hn.2.2.1
 have:j=0\/j=1\/j=2:=by omega
 rcases this with rfl|rfl|rfl
 ·match xs,hlen with
  |[],_=>exact c0.set2 _
 ·match xs,hlen with
  |[a],_=>exact c0.set3 _
 match xs,hlen with
 |[a,b'],_=>exact c0.set4 _
def zqv(r:Fl.Node×Int×Int)(b:Nat)(w:World)(e:Ending)(w':World):Prop:=
 Mv w w' b/\(r.2.1<0->e=.panicked (Zf 8 r.2.2))/\(¬r.2.1<0->∃lv,e=.returned (Vr r.1 lv)/\Zv w'.heap.size w' lv r.1.list/\(∀bb,lv.ownBlock=some bb->w.heap.size<=bb)/\w'.cell? ⟨b,1,none⟩=some (.int .i64 r.2.1))
def Vc{r:Fl.Node×Int×Int}{pl:Int}{b:Nat}{w w':World}(hr:r=(Fl.nd0,-1,pl))(m:Mv w w' b):zqv r b w (.panicked (Zf 8 pl)) w':=by
 subst hr;exact⟨m,λ_=>rfl,λh=>absurd (show (-1:Int)<0 by decide) h⟩
def zn6{r:Fl.Node×Int×Int}{nd:Fl.Node}{q b B:Nat}{w w1:World}{lv v0 v1 v2 v3 v4 v5:Value}(hr:r=(nd,(q:Int),0))(m:Mv w w1 b)(hb:b<w.heap.size)(hB:w.heap.size=B)(c:w1.cell? ⟨b,1,none⟩=some (.int .i64 (q:Int)))
  (hl:Zv w1.heap.size w1 lv nd.list) (b0:∀bb,lv.ownBlock=some bb->B<bb):
  zqv r b w (.returned (Vr nd lv)) ((((((w1.setCell ⟨B,0,none⟩ v0).setCell ⟨B,1,none⟩ v1).setCell ⟨B,2,none⟩ v2).setCell ⟨B,3,none⟩ v3).setCell ⟨B,4,none⟩ v4).setCell ⟨B,5,none⟩ v5):=by
 subst hr hB
 have a0:nd.list≠[]->lv.ownBlock≠some w.heap.size:=λ_ h=>by have:=b0 _ h;omega
 have hs:∀{W:World} {i:Nat} {u:Value},W.cell? ⟨b,1,none⟩=some (.int .i64 (q:Int))->(W.setCell ⟨w.heap.size,i,none⟩ u).cell? ⟨b,1,none⟩=some (.int .i64 (q:Int)):=λ{W i u} h=>(Xt W w.heap.size i u).cell h (by simp;omega);refine⟨(((((m.andSet hb (Nat.le_refl _) _ _).andSet hb (Nat.le_refl _) _ _).andSet hb (Nat.le_refl _) _ _).andSet hb (Nat.le_refl _) _ _).andSet hb (Nat.le_refl _) _ _).andSet hb (Nat.le_refl _) _ _,λh=>by simp only at h;omega,λ_=>⟨lv,rfl,?_,λbb h=>by have:=b0 bb h;omega,hs (hs (hs (hs (hs (hs c)))))⟩⟩;exact Uy (Uy (Uy (Uy (Uy (Uy hl a0) a0) a0) a0) a0) a0
def ziz{p k:Nat}{nd:Fl.Node}{e:Int}(h:(Yw nd).any (λx=>decide ((k:Int)<=x))=true):Fl.oneFin p k nd e=(Fl.nd0,-1,(p:Int)):=by unfold Fl.oneFin;rw[if_pos h]
def zm9{p k:Nat}{nd:Fl.Node}{e:Int}(h:(Yw nd).any (λx=>decide ((k:Int)<=x))=false):Fl.oneFin p k nd e=(nd,e,0):=by unfold Fl.oneFin;rw[if_neg (by rw[h];decide)]
def ym7{b:Nat}{ao:Option Addr}{cap:Nat}{s:List UInt8}{p:Nat}{w:World}(h:Dr w b ao cap s p)(hr:Vs w b 2)(k:Nat)(hk:k<=200):
  Calls prog 78 #[.pointer (some ⟨b,0,none⟩),.int .i64 k] w λe w'=>zqv (Fl.one s p k) b w e w':=by
 have hlb:=h.lt;have hp:=h.hp;have hs:=h.hs
 have E1:∀o,(w.alloc o).cell? ⟨b,1,none⟩=some (.int .i64 p):=λo=>by rw[World.cell?_alloc_past _ _ _ hlb];exact h.c1
 have HD:=Zz h;have HR:=Zz hr;clear h hr
 go_enter func78,ntmps78
 go_wp2_with fail
 obtain⟨W0,C0⟩:=nmE (w.alloc (.cells #[.int .i64 0,.int .i64 0,.int .i64 0,.int .i64 0,.int .i64 0,.slice none 0 0] 59));rw[<-C0]
 have l1:Mv w W0 b:=by rw[C0];exact(Mv.refl w b).alloc hlb _
 have F1:W0.cell? ⟨b,1,none⟩=some (.int .i64 p):=by rw[C0];exact E1 _
 have m1:=Zz l1;have X0:Hid (Dr W0 b ao cap s p):=HD.out.move l1 F1 hp
 have G1:Hid (Nd W0 w.heap.size 0 0 0 0 0 (.slice none 0 0)):=by rw[C0];exact Nd.new _ _ _ _ _ _ _ _
 have H1:W0.heap.size=w.heap.size+1:=by rw[C0];simp
 have I1:=Zz H1;clear l1 E1 C0 H1
 by_cases x0:p<s.length
 ·refine(zh6 X0.out x0).mono ?_
  rintro e w1 ⟨rfl,y0,J1⟩;obtain⟨x,hx⟩:=nmE ((s.getD p 0).toNat);rw[<-hx];have K1:x<256:=(by rw[hx];exact(s.getD p 0).toNat_lt);have HX:=Zz hx;have n1:Hid (Mv w w1 b):=m1.out.trans y0;have A2:w.heap.size+1<=w1.heap.size:=(by have:=y0.g.size;have:=I1.out;omega);have L1:Hid (Nd w1 w.heap.size 0 0 0 0 0 (.slice none 0 0)):=G1.out.grown y0.g (by simp;omega);have J0:Hid (Dr w1 b ao cap s (p+1)):=X0.out.move y0 J1 (by omega);clear hx y0 J1 F1
  by_cases z0:x<8
  ·have i2:decide ((x:Int)<8)=true:=decide_eq_true (by omega)
   have o1:decide (x<8)=true:=decide_eq_true z0
   go_wp2_with fail
   obtain⟨W1,D0⟩:=nmE (w1.alloc (.cells #[.int .i64 x,.int .i64 0,.int .i64 0,.int .i64 0,.int .i64 0,.slice none 0 0] 59));rw[<-D0];obtain⟨N,hN⟩:=nmE (w1.heap.size);have p1:Nd W1 N x 0 0 0 0 (.slice none 0 0):=(by rw[D0,hN];exact Nd.new _ _ _ _ _ _ _ _);have j2:w.heap.size<N:=(by omega);have M1:Hid (Nd W1 w.heap.size 0 0 0 0 0 (.slice none 0 0)):=(by rw[D0];exact L1.out.grown (World.grownBy_alloc _ _ none) (by simp));rw[<-hN];have N1:Hid (Mv w W1 b):=(by rw[D0];exact n1.out.alloc hlb _);have r1:Hid (Dr W1 b ao cap s (p+1)):=(by rw[D0];exact J0.out.move ((Mv.refl w1 b).alloc J0.out.lt _) (by rw[World.cell?_alloc_past _ _ _ J0.out.lt];exact J0.out.c1) (by omega));have O1:=Zz p1;have n0:=p1.c0;clear D0 hN p1 J0;refine(Jz _ _ _).mono ?_;rintro e w' ⟨rfl,rfl⟩
   go_wp2_with fail
   go_quiet (fail)
   go_wp2_with fail
   obtain⟨W2,E0⟩:=nmE (w'.drewN nq);rw[<-E0];have s1:Hid (Mv w W2 b):=(by rw[E0];exact N1.out.drewN _);have P1:Hid (Dr W2 b ao cap s (p+1)):=(by rw[E0];exact r1.out.move ((Mv.refl w' b).drewN _) r1.out.c1 (by omega));have Q1:Hid (Nd W2 N x 0 0 0 0 (.slice none 0 0)):=(by rw[E0];exact O1.out.drewN _);have R1:Hid (Nd W2 w.heap.size 0 0 0 0 0 (.slice none 0 0)):=(by rw[E0];exact M1.out.drewN _);clear n0 E0 N1 r1 O1 M1 L1 n1 G1 m1 X0 I1;refine(zux P1.out).mono ?_;rintro e w2 ⟨K0,f0,hgood⟩
   by_cases hv:(Fl.num s (p+1)).2.1<0
   ·obtain rfl:=f0 hv
    exact⟨rfl,Vc (zc4 x0 HX.out z0 hv) (s1.out.trans K0)⟩
   obtain⟨rfl,Y0⟩:=hgood hv;obtain⟨v,q,g0,B2,t1,k2⟩:=zu2 s (p+1) (by omega) hv;rw[g0]at Y0⊢;simp only at Y0⊢;have l0:=Zz g0;have L0:Hid (Mv w w2 b):=s1.out.trans K0;have p0:b≠N:=(by omega);have Z0:=Q1.out.grown K0.g (by simpa using λh=>p0 h.symm);have a1:Hid (Nd w2 w.heap.size 0 0 0 0 0 (.slice none 0 0)):=R1.out.grown K0.g (by simp;omega);have k1:=Z0.c1;have kf:=Z0.f;have M0:=Zz Z0;have b1:=Zz Y0;clear hv f0 hgood g0 Y0 Z0 K0
   go_wp2_with fail
   obtain⟨W3,N0⟩:=nmE (w2.setCell ⟨N,1,none⟩ (.int .i64 (v:Int)));rw[<-N0];have g3:w2.grownBy W3 (some N):=(by rw[N0];exact Xt _ _ _ _);have A0:Hid (Mv w W3 b):=(by rw[N0];exact L0.out.andSet hlb (by omega) _ _);have F0:Hid (Nd W3 N x v 0 0 0 (.slice none 0 0)):=(by rw[N0];exact M0.out.set1 _);have O0:Hid (Nd W3 w.heap.size 0 0 0 0 0 (.slice none 0 0)):=a1.out.grown g3 (by simp;omega);have S1:Hid (W3.cell? ⟨b,1,none⟩=some (.int .i64 (q:Int))):=g3.cell b1.out (by simpa using p0);have l2:=F0.out.lt;clear N0 g3 L0 M0 a1 b1 k1 kf P1 Q1 R1 s1;have r0:=(HR.out.move A0.out (by omega)) x z0;refine(yq6 b (2+x*4) N (zwz x) W3 (yu8 x) (A0.out.lt hlb) r0.1).mono ?_;rintro e w3 ⟨rfl,u1⟩;have HL:Hid (zz1 s q (zwz x) w w3 b N W3.heap.size x v 0 q []):=by
    have g4:W3.grownBy w3 none:=(by rw[u1];exact⟨rfl,rfl,rfl,by simp,λk hk _=>Below.heap_alloc _ _ _ hk⟩);refine⟨⟨by omega,t1,rfl,rfl⟩,A0.out.andGrown g4 hlb (λk e=>by cases e),g4.cell S1.out (by simp),F0.out.grown g4 (by simp),O0.out.grown g4 (by simp),?_,?_,?_,j2,l2⟩
    all_goals (rw[u1];simp)
   obtain⟨PB,T1⟩:=nmE (W3.heap.size);rw[<-T1]at HL⊢;have m2:=yu8 x;obtain⟨f,hf⟩:=nmE (zwz x);rw[<-hf]at HL m2⊢;have HF:=Zz hf;clear T1 u1 A0 F0 O0 S1 r0 hf
   go_wp2_with fail
   go_loopw [36] (λi wr=>∃(j q':Nat) (xs:List Int),i=.int .i64 j/\zz1 s q f w wr b N PB x v j q' xs) (λi _=>f - (intOf i).toNat)
   case atStart=>exact⟨0,q,[],rfl,HL.out⟩
   case round=>
    clear HL;obtain⟨j,q',xs,rfl,hl⟩:=hrel;have HL:=Zz hl;have C2:=hl.hn.1;clear hl;have f1:Hid (Dr wr b ao cap s q'):=HD.out.move HL.out.hm HL.out.hc HL.out.hn.2.1
    by_cases P0:j<f
    ·have s0:x≠7:=λh=>by have:=HF.out;rw[h]at this;have h0:zwz 7=0:=rfl;omega
     have D2:=HL.out.ptr (show j<3 by omega)
     by_cases hv:(Fl.num s q').2.1<0
     ·go_wp2_with (go_at_call 77;refine(zux f1.out).mono ?_;rintro e w4 ⟨i0,f0,_⟩;obtain rfl:=f0 hv)
      refine⟨rfl,Vc ?_ (HL.out.hm.trans i0)⟩;rw[zd3 x0 HX.out z0 s0 l0.out,<-HF.out];have:=HL.out.hn.bad P0 (v:=(Fl.num s q').1) (m:=(Fl.num s q').2.1) (b:=(Fl.num s q').2.2) rfl hv;rw[this];rfl
     obtain⟨y,m,g0,_,_,_⟩:=zu2 s q' HL.out.hn.2.1 hv;have v1:=Zz g0;have n2:Hid (Calls prog 77 #[.pointer (some ⟨b,0,none⟩),.int .i64 0,.int .i64 2147483647] wr λe w'=>zw2 ((y:Int),(m:Int),0) b wr e w'):=(by rw[<-g0];exact zux f1.out);clear hv g0
     go_wp2_with (go_at_call 77;refine(n2.out).mono ?_;rintro e w4 ⟨i0,_,hgood⟩;obtain⟨rfl,G0⟩:=hgood (by simp only;omega);have kj:=i0.g.cell (HL.out.cell (show j<3 by omega)) (by simpa using λh=>p0 h.symm);have kf:∀o,w4.frozen? ⟨N,o,none⟩=false:=(HL.out.nd.grown i0.g (by simpa using λh=>p0 h.symm)).f)
     go_roundw
     case rel=>exact⟨j+1,m,xs++[(y:Int)],by go_num,HL.out.next hlb P0 (by omega) v1.out i0 G0⟩
     case measure=>simp[intOf];omega
    have hjf':j=f:=(by omega);have t0:Fl.nums s q f=(xs,(q':Int),0):=by
     have:=HL.out.hn.2.2.2;rw[this,hjf',Nat.sub_self];rfl
    have U1:=Zz t0;have r0:=(HR.out.move HL.out.hm (by omega)) x z0;have g1:=r0.2.1;clear t0 hjf'
    by_cases s0:x=7
    ·have b7:(x==7)=true:=beq_iff_eq.2 s0
     rw[b7]at g1;have x1:=Zz s0;have h3:=r0.2.2;have i1:=Zz h3;have V1:f=0:=(by have:=HF.out;rw[s0]at this;exact this);have o2:q'=q/\xs=[]:=by
      have h1:=U1.out;rw[V1]at h1;have h2:Fl.nums s q 0=([],(q:Int),0):=rfl;rw[h2]at h1;simp only[Prod.mk.injEq]at h1;exact⟨by omega,h1.1.symm⟩
     obtain⟨rfl,rfl⟩:=o2;have X1:Hid (Calls prog 77 #[.pointer (some ⟨b,0,none⟩),.int .i64 0,.int .i64 16] wr λe w'=>zw2 (Fl.numB s q' 0 16) b wr e w'):=zvy f1.out 0 16 (by omega) (by omega);have Q0:Hid (Nd wr N x v 0 0 0 (.slice none 0 0)):=HL.out.nd;clear r0 h3 s0 V1
     go_wp2_with fail
     refine(X1.out).mono ?_;rintro e w4 ⟨i0,f0,hgood⟩
     by_cases R0:(Fl.numB s q' 0 16).2.1<0
     ·obtain rfl:=f0 R0
      exact⟨rfl,Vc (yy3 x0 (by rw[<-HX.out,x1.out]) l0.out R0 t1) (HL.out.hm.trans i0)⟩
     obtain⟨rfl,G0⟩:=hgood R0;obtain⟨m,q2,hnb,Y1,E2,S0,_,p2⟩:=zqw s q' 0 16 t1 R0;rw[hnb]at G0⊢;simp only at G0⊢;have v1:=Zz Y1;have L0:Hid (Mv w w4 b):=HL.out.hm.trans i0;have b1:Hid (Dr w4 b ao cap s q2):=f1.out.move i0 G0 S0;have M0:Hid (Nd w4 N x v 0 0 0 (.slice none 0 0)):=Q0.out.grown i0.g (by simpa using λh=>p0 h.symm);have a1:Hid (Nd w4 w.heap.size 0 0 0 0 0 (.slice none 0 0)):=HL.out.rs.grown i0.g (by simp;omega);have hm16':m<=16:=(by omega);have y1:Hid (w4.cell? ⟨b,2+x*4+3,none⟩=some (.func (.func (byF x)) #[] #[])):=(i0.o _ (by omega)).trans i1.out;clear f0 hgood R0 hnb Y1 G0 i0 g1 i1 Q0 X1
     go_wp2_with fail
     refine(zn4 b1.out m (by omega)).mono ?_;rintro e w5 ⟨H0,f0,hgood⟩;have a0:=ym6 (k:=k) x0 (by rw[<-HX.out,x1.out]) l0.out v1.out hm16'
     by_cases T0:(Fl.nums s q2 m).2.1<0
     ·obtain rfl:=f0 T0
      rw[if_pos T0]at a0;exact⟨rfl,Vc a0 (L0.out.trans H0)⟩
     obtain⟨lv,rfl,j0,j1⟩:=hgood T0;rw[if_neg T0]at a0;have z1:=Fl.nums_ok s q2 m S0;obtain⟨ls,q3,Z1⟩:∃(ls:List Int) (q3:Nat),Fl.nums s q2 m=(ls,(q3:Int),(Fl.nums s q2 m).2.2):=⟨(Fl.nums s q2 m).1,(Fl.nums s q2 m).2.1.toNat,by rw[Int.toNat_of_nonneg (by omega)]⟩;rw[Z1]at a0 j0 j1;simp only at a0 j0 j1;obtain⟨lao,lcap,rfl⟩:=Vy j0;have k0:Hid (Fl.one s p k=Fl.oneFin p k ⟨x,v,0,0,0,ls⟩ (q3:Int)):=(by show _=_;rw[a0,x1.out];rfl);have r2:=M0.out.lt
     have u0:∀bb,(Value.slice lao ls.length lcap).ownBlock=some bb->N<bb:=λbb h=>by have:=(j0.lt bb h).1;omega
     have m0:=M0.out.grown H0.g (by simpa using λh=>p0 h.symm);have k5:=m0.c5;have kf:=m0.f;have F0:=Zz m0;have O0:Hid (Nd w5 w.heap.size 0 0 0 0 0 (.slice none 0 0)):=a1.out.grown H0.g (by simp;omega);have HM5':Hid (Mv w w5 b):=L0.out.trans H0;have a2:Hid (Zv w5.heap.size w5 (.slice lao ls.length lcap) ls):=Zv.of_own j0;have HD5':Hid (w5.cell? ⟨b,1,none⟩=some (.int .i64 (q3:Int))):=j1;have U0:Hid (w5.cell? ⟨b,2+x*4+3,none⟩=some (.func (.func (byF x)) #[] #[])):=(H0.o _ (by omega)).trans y1.out;have b2:=Zz u0;clear a0 z1 Z1 j0 j1 m0 H0 f0 hgood T0 u0
     go_wp2_with fail
     obtain⟨W6,I0⟩:=nmE (w5.setCell ⟨N,5,none⟩ (.slice lao ls.length lcap));rw[<-I0];have g6:w5.grownBy W6 (some N):=(by rw[I0];exact Xt _ _ _ _);have A1:Hid (Mv w W6 b):=(by rw[I0];exact HM5'.out.andSet hlb (by omega) _ _);have B1:Hid (Nd W6 N x v 0 0 0 (.slice lao ls.length lcap)):=(by rw[I0];exact F0.out.set5 _);have c2:Hid (Nd W6 w.heap.size 0 0 0 0 0 (.slice none 0 0)):=O0.out.grown g6 (by simp;omega);have f2:Hid (W6.cell? ⟨b,1,none⟩=some (.int .i64 (q3:Int))):=g6.cell HD5'.out (by simpa using p0);have C1:Hid (Zv W6.heap.size W6 (.slice lao ls.length lcap) ls):=(by rw[I0];exact Uy a2.out (λ_ h=>by have h9:N<N:=b2.out N h;omega));have V0:Hid (W6.cell? ⟨b,2+x*4+3,none⟩=some (.func (.func (byF x)) #[] #[])):=g6.cell U0.out (by simpa using p0);clear I0 g6 k5 kf HM5' F0 O0 HD5' a2 U0;refine(zn5 b (2+x*4) (byF x) k (.pointer (some ⟨N,0,none⟩)) (Yw ⟨x,v,0,0,0,ls⟩) W6 V0.out (zk5 x _ _) (yy2 (B1.out.nodeAt C1.out))).mono ?_;rintro e w7 ⟨rfl,o0⟩;have g2:Hid (Mv w w7 b):=A1.out.andBelow o0 hlb;have s2:Hid (w7.cell? ⟨b,1,none⟩=some (.int .i64 (q3:Int))):=(o0.cell (p:=⟨b,1,none⟩) (A1.out.lt hlb)).trans f2.out;have g7:W6.grownBy w7 none:=⟨o0.os,o0.tape,o0.output,o0.size,λk hk _=>o0.block k hk⟩;have t2:Hid (Zv w7.heap.size w7 (.slice lao ls.length lcap) ls):=zrx C1.out o0;have u2:=B1.out.grown g7 (by simp);have v2:=c2.out.grown g7 (by simp);obtain⟨e0,e1,e2,e3,e4,e5,_⟩:=u2;obtain⟨d0,d1,d2,d3,d4,d5,df⟩:=v2;obtain⟨q0,q1,q2',q3',q4,q5⟩:=zy4 (w1:=w7) (B:=w.heap.size) (.int .i64 x) (.int .i64 v) (.int .i64 0) (.int .i64 0) (.int .i64 0) (.slice lao ls.length lcap) d0 d1 d2 d3 d4 d5;clear o0 g7 A1 B1 c2 f2 C1 V0
     by_cases b0:(Yw ⟨x,v,0,0,0,ls⟩).any (λy=>decide ((k:Int)<=y))=true
     ·rw[b0]
      have B0:Hid (Fl.one s p k=(Fl.nd0,-1,(p:Int))):=k0.out.trans (ziz b0);clear b0 q0 q1 q2' q3' q4 q5
      go_wp2_with fail
      refine(Xe _ _ _).mono ?_;rintro e w6 ⟨rfl,D1⟩;exact⟨rfl,Vc B0.out (g2.out.andBelow D1 hlb)⟩
     have hany':(Yw ⟨x,v,0,0,0,ls⟩).any (λy=>decide ((k:Int)<=y))=false:=(by simpa using b0);rw[hany'];have B0:Hid (Fl.one s p k=(⟨x,v,0,0,0,ls⟩,(q3:Int),0)):=k0.out.trans (zm9 hany');clear b0 hany'
     go_wp2_with fail
     refine(Jz _ _ _).mono ?_;rintro e w6 ⟨rfl,rfl⟩;go_wp2;exact bodyPost_ret (v:=.agg #[.int .i64 x,.int .i64 v,.int .i64 0,.int .i64 0,.int .i64 0,.slice lao ls.length lcap]) (by simp[results,results78,go_sem,q0,q1,q2',q3',q4,q5]) rfl (zn6 B0.out g2.out hlb rfl s2.out t2.out (λbb h=>by have:=b2.out bb h;omega))
    have b7:(x==7)=false:=beq_eq_false_iff_ne.2 s0;rw[b7]at g1;have h3:=r0.2.2;have i1:=Zz h3;clear r0 h3
    go_wp2_with fail
    have HI:Hid (Zv wr.heap.size wr (.slice none 0 0) ([]:List Int)):=Zv.nil _ _;refine(zn5 b (2+x*4) (byF x) k (.pointer (some ⟨N,0,none⟩)) (Yw ⟨x,v,xs.getD 0 0,xs.getD 1 0,xs.getD 2 0,[]⟩) wr i1.out (zk5 x _ _) (yy2 (HL.out.nd.nodeAt HI.out))).mono ?_;rintro e w5 ⟨rfl,v0⟩;have A0:Hid (Mv w w5 b):=HL.out.hm.andBelow v0 hlb;have k0:Hid (Fl.one s p k=Fl.oneFin p k ⟨x,v,xs.getD 0 0,xs.getD 1 0,xs.getD 2 0,[]⟩ (q':Int)):=by
     show _=_;rw[zd3 x0 HX.out z0 s0 l0.out,<-HF.out,U1.out,if_neg (by simp only;omega)]
    have x2:Hid (w5.cell? ⟨b,1,none⟩=some (.int .i64 (q':Int))):=(v0.cell (p:=⟨b,1,none⟩) (HL.out.hm.lt hlb)).trans HL.out.hc;have g5:wr.grownBy w5 none:=⟨v0.os,v0.tape,v0.output,v0.size,λk hk _=>v0.block k hk⟩;have y2:=HL.out.nd.grown g5 (by simp);have z2:=HL.out.rs.grown g5 (by simp);obtain⟨e0,e1,e2,e3,e4,e5,_⟩:=y2;obtain⟨d0,d1,d2,d3,d4,d5,df⟩:=z2;obtain⟨q0,q1,q2,q3,q4,q5⟩:=zy4 (w1:=w5) (B:=w.heap.size) (.int .i64 x) (.int .i64 v) (.int .i64 (xs.getD 0 0)) (.int .i64 (xs.getD 1 0)) (.int .i64 (xs.getD 2 0)) (.slice none 0 0) d0 d1 d2 d3 d4 d5;clear v0 g5 g1 HI
    by_cases b0:(Yw ⟨x,v,xs.getD 0 0,xs.getD 1 0,xs.getD 2 0,[]⟩).any (λy=>decide ((k:Int)<=y))=true
    ·rw[b0]
     have B0:Hid (Fl.one s p k=(Fl.nd0,-1,(p:Int))):=k0.out.trans (ziz b0);clear b0 q0 q1 q2 q3 q4 q5
     go_wp2_with fail
     refine(Xe _ _ _).mono ?_;rintro e w6 ⟨rfl,D1⟩;exact⟨rfl,Vc B0.out (A0.out.andBelow D1 hlb)⟩
    have hany':(Yw ⟨x,v,xs.getD 0 0,xs.getD 1 0,xs.getD 2 0,[]⟩).any (λy=>decide ((k:Int)<=y))=false:=(by simpa using b0);rw[hany'];have B0:Hid (Fl.one s p k=(⟨x,v,xs.getD 0 0,xs.getD 1 0,xs.getD 2 0,[]⟩,(q':Int),0)):=k0.out.trans (zm9 hany');clear b0 hany'
    go_wp2_with fail
    refine(Jz _ _ _).mono ?_;rintro e w6 ⟨rfl,rfl⟩;generalize xs.getD 0 0=xa at*;generalize xs.getD 1 0=xb at*;generalize xs.getD 2 0=xc at*;go_wp2;exact bodyPost_ret (v:=.agg #[.int .i64 x,.int .i64 v,.int .i64 xa,.int .i64 xb,.int .i64 xc,.slice none 0 0]) (by simp[results,results78,go_sem,q0,q1,q2,q3,q4,q5]) rfl (zn6 B0.out A0.out hlb rfl x2.out (Zv.nil _ _) (λbb h=>by simp[Value.ownBlock]at h))
  have i2:decide ((x:Int)<8)=false:=decide_eq_false (by omega);have o1:decide (x<8)=false:=decide_eq_false z0
  go_wp2_with fail
  refine(Xe _ _ _).mono ?_;rintro e w' ⟨rfl,hb⟩;refine⟨rfl,Vc ?_ ((n1.out.alloc hlb _).andBelow hb hlb)⟩;unfold Fl.one;rw[if_neg (by omega)];simp only[<-HX.out];rw[if_pos (by unfold Fl.fields;repeat' split<;>omega)]
 refine(zmv X0.out x0).mono ?_;rintro e w1 ⟨rfl,y0⟩;refine⟨rfl,Vc ?_ (m1.out.trans y0)⟩
 have:p=s.length:=by omega
 unfold Fl.one;rw[if_pos this,this]
def Ut(nd:Fl.Node):List Value:=[.int .i64 nd.kind,.int .i64 nd.level,.int .i64 nd.a,.int .i64 nd.b,.int .i64 nd.c,.int .i64 nd.list.length]
def zwy(nd:Fl.Node):List Value:=Ut nd++List.replicate 16 (Value.int .i64 0)
def Xx(nd:Fl.Node):List Value:=Ut nd++(nd.list.map (Value.int .i64)++List.replicate (16 - nd.list.length) (Value.int .i64 0))
def zwx(nd:Fl.Node)(h:nd.list.length<=16):(Xx nd).length=22:=by simp[Xx,Ut];omega
def yy4(nd:Fl.Node):(Xx nd).toArray.all (·.oneCell')=true:=by
 rw[List.all_toArray,List.all_eq_true];intro x hx;simp only[Xx,Ut,List.mem_append,List.mem_cons,List.mem_map,List.mem_replicate,List.not_mem_nil,or_false]at hx;rcases hx with(rfl|rfl|rfl|rfl|rfl|rfl)|⟨y,_,rfl⟩|⟨_,rfl⟩<;>rfl
def zgz(nd:Fl.Node):splice (zwy nd) 6 (nd.list.map (Value.int .i64))=Xx nd:=by
 unfold splice zwy Xx;have h6:(Ut nd).length=6:=rfl;rw[List.take_left' h6,List.drop_append,List.drop_of_length_le (by rw[h6];simp),List.nil_append,List.drop_replicate,h6];simp
def Tryz.infoInt1:(Tryz.prog.info? 3).map (·.size)=some 1:=by kernel_rfl
def Tryz.infoContent:(Tryz.prog.info? 233).map (·.size)=some 22:=by kernel_rfl
def zc5{w:World}{nb no:Nat}{nd:Fl.Node}{lv:Value}(h:zz2 w nb no nd lv)(u0:nd.list.length<=16):
  Calls prog 137 #[.pointer (some ⟨nb,no,none⟩)] w λe w'=>e=.returned (.agg (Xx nd).toArray)/\Below w.heap.size w w':=by
 obtain⟨ao,cap,rfl,z0,hm,hx⟩:=id h.hl;have HX:=Zz hx;clear hx;unfold maxLen at hm;have i0:nb<w.heap.size:=Qe w _ h.c0;have H5:=Zz h.c5
 have a0:∀o,(w.alloc o).cell? ⟨nb,no,none⟩=some (.int .i64 nd.kind):=λo=>by rw[World.cell?_alloc_past _ _ _ i0];exact h.c0
 have a1:∀o,(w.alloc o).cell? ⟨nb,no+1,none⟩=some (.int .i64 nd.level):=λo=>by rw[World.cell?_alloc_past _ _ _ i0];exact h.c1
 have a2:∀o,(w.alloc o).cell? ⟨nb,no+2,none⟩=some (.int .i64 nd.a):=λo=>by rw[World.cell?_alloc_past _ _ _ i0];exact h.c2
 have a3:∀o,(w.alloc o).cell? ⟨nb,no+3,none⟩=some (.int .i64 nd.b):=λo=>by rw[World.cell?_alloc_past _ _ _ i0];exact h.c3
 have a4:∀o,(w.alloc o).cell? ⟨nb,no+4,none⟩=some (.int .i64 nd.c):=λo=>by rw[World.cell?_alloc_past _ _ _ i0];exact h.c4
 have a5:∀o,(w.alloc o).cell? ⟨nb,no+5,none⟩=some (.slice ao nd.list.length cap):=λo=>by rw[World.cell?_alloc_past _ _ _ i0];exact h.c5
 clear h
 go_enter func137,ntmps137
 go_wp2_with fail
 obtain⟨W0,e0⟩:=nmE (w.alloc (.cells #[.int .i64 0,.int .i64 0,.int .i64 0,.int .i64 0,.int .i64 0,.int .i64 0,.int .i64 0,.int .i64 0,.int .i64 0,.int .i64 0,.int .i64 0,.int .i64 0,.int .i64 0,.int .i64 0,.int .i64 0,.int .i64 0,.int .i64 0,.int .i64 0,.int .i64 0,.int .i64 0,.int .i64 0,.int .i64 0] 233));rw[<-e0]
 have d0:nb<W0.heap.size:=by rw[e0];simp;omega
 have b0:W0.cell? ⟨nb,no,none⟩=some (.int .i64 nd.kind):=by rw[e0];exact a0 _
 have b1:W0.cell? ⟨nb,no+1,none⟩=some (.int .i64 nd.level):=by rw[e0];exact a1 _
 have b2:W0.cell? ⟨nb,no+2,none⟩=some (.int .i64 nd.a):=by rw[e0];exact a2 _
 have b3:W0.cell? ⟨nb,no+3,none⟩=some (.int .i64 nd.b):=by rw[e0];exact a3 _
 have b4:W0.cell? ⟨nb,no+4,none⟩=some (.int .i64 nd.c):=by rw[e0];exact a4 _
 have b5:W0.cell? ⟨nb,no+5,none⟩=some (.slice ao nd.list.length cap):=by rw[e0];exact a5 _
 have p0:=Zz e0;clear e0 a0 a1 a2 a3 a4 a5;obtain⟨S,hS⟩:=nmE (α:=World->Prop) (λw'=>w'.cell? ⟨nb,no,none⟩=some (.int .i64 nd.kind)/\w'.cell? ⟨nb,no+1,none⟩=some (.int .i64 nd.level)/\w'.cell? ⟨nb,no+2,none⟩=some (.int .i64 nd.a)/\w'.cell? ⟨nb,no+3,none⟩=some (.int .i64 nd.b)/\w'.cell? ⟨nb,no+4,none⟩=some (.int .i64 nd.c)/\w'.cell? ⟨nb,no+5,none⟩=some (.slice ao nd.list.length cap))
 have HS:Hid (∀w',S w'->w'.cell? ⟨nb,no,none⟩=some (.int .i64 nd.kind)/\w'.cell? ⟨nb,no+1,none⟩=some (.int .i64 nd.level)/\w'.cell? ⟨nb,no+2,none⟩=some (.int .i64 nd.a)/\w'.cell? ⟨nb,no+3,none⟩=some (.int .i64 nd.b)/\w'.cell? ⟨nb,no+4,none⟩=some (.int .i64 nd.c)/\w'.cell? ⟨nb,no+5,none⟩=some (.slice ao nd.list.length cap)):=λw' h=>by rw[hS]at h;exact h
 have q0:Hid (∀o,S (W0.drew.alloc o)):=λo=>by
  have d0:nb<W0.drew.heap.size:=d0;rw[hS];exact⟨(World.cell?_alloc_past _ _ _ d0).trans b0,(World.cell?_alloc_past _ _ _ d0).trans b1,(World.cell?_alloc_past _ _ _ d0).trans b2,(World.cell?_alloc_past _ _ _ d0).trans b3,(World.cell?_alloc_past _ _ _ d0).trans b4,(World.cell?_alloc_past _ _ _ d0).trans b5⟩
 refine zk8 (S:=S) 26 (by kernel_rfl) (by kernel_rfl) rfl (λc a d v w h=>by cases d<;>exact h) _ _ rfl rfl rfl rfl (by rw[hS];exact⟨b0,b1,b2,b3,b4,b5⟩) ?_;clear hS;simp only[List.take_succ_cons,List.take_zero];refine Xb (λL HL=>?_)
 repeat refine Xc rfl (kE (by intro w' hw;obtain⟨s0,s1,s2,s3,s4,s5⟩:=HS.out w' hw;go_simp<;>rfl) (by go_simp<;>rfl) ?_)
 refine HL.out _ ⟨.pointer (some ⟨W0.drew.heap.size,0,none⟩),W0.drew.alloc (.cells #[.int .i64 0,.int .i64 0,.int .i64 0,.int .i64 0,.int .i64 0,.int .i64 0,.int .i64 0,.int .i64 0,.int .i64 0,.int .i64 0,.int .i64 0,.int .i64 0,.int .i64 0,.int .i64 0,.int .i64 0,.int .i64 0,.int .i64 0,.int .i64 0,.int .i64 0,.int .i64 0,.int .i64 0,.int .i64 0] 233),W0.drew.alloc (.cells #[.int .i64 nd.kind,.int .i64 nd.level,.int .i64 nd.a,.int .i64 nd.b,.int .i64 nd.c,.int .i64 nd.list.length,.int .i64 0,.int .i64 0,.int .i64 0,.int .i64 0,.int .i64 0,.int .i64 0,.int .i64 0,.int .i64 0,.int .i64 0,.int .i64 0,.int .i64 0,.int .i64 0,.int .i64 0,.int .i64 0,.int .i64 0,.int .i64 0] 233),by kernel_rfl,q0.out _,zh5 _ _ 233 rfl _ _ _ rfl rfl Tryz.infoContent rfl (by kernel_rfl),q0.out _,?_⟩;clear HL;obtain⟨W1,l0⟩:=nmE (W0.drew.alloc (.cells #[.int .i64 nd.kind,.int .i64 nd.level,.int .i64 nd.a,.int .i64 nd.b,.int .i64 nd.c,.int .i64 nd.list.length,.int .i64 0,.int .i64 0,.int .i64 0,.int .i64 0,.int .i64 0,.int .i64 0,.int .i64 0,.int .i64 0,.int .i64 0,.int .i64 0,.int .i64 0,.int .i64 0,.int .i64 0,.int .i64 0,.int .i64 0,.int .i64 0] 233));rw[<-l0]
 have hC:W0.drew.heap.size=w.heap.size+1:=by rw[p0.out];simp
 rw[hC]
 have m0:W1.heap[w.heap.size+1]?=some (.cells (zwy nd).toArray 233 (0,0)):=by rw[l0,<-hC];exact heap_alloc_last _ _
 have f0:W1.heap[w.heap.size]?=some (.cells (List.replicate 22 (Value.int .i64 0)).toArray 233 (0,0)):=by
  rw[l0,Below.heap_alloc _ _ _ (by rw[hC];omega)];show W0.heap[w.heap.size]?=_;rw[p0.out];exact heap_alloc_last _ _
 have j0:Below w.heap.size w W1:=by
  rw[l0];refine Below.alloc ?_ (by rw[hC];omega) _;rw[p0.out];exact(bA).drew
 have k5:W1.cell? ⟨nb,no+5,none⟩=some (.slice ao nd.list.length cap):=(j0.cell (p:=⟨nb,no+5,none⟩) i0).trans H5.out;have n0:=Zz m0;have g0:=Zz f0;have k0:=Zz j0;clear l0 m0 f0 j0 hC b0 b1 b2 b3 b4 b5 HS q0 p0 d0
 go_wp2_with fail
 go_still_tail 6,(by kernel_rfl)
 refine wpList_copy_splice rfl (.tmp 31) (.tmp 35) 30 30 rfl 3 underlying30 Tryz.infoInt1 _ _ _ _ _ _ rfl rfl (w.heap.size+1) 6 (zwy nd) 233 n0.out (nd.list.map (Value.int .i64)) ?hn ?hpos ?hfit ?h1 (w.heap.size+1) W1 ?hb ?hBg ?_
 case hn=>simp only[List.length_map];show nd.list.length=min nd.list.length 16;omega
 case hpos=>
  intro hpos;refine⟨rfl,?_⟩;obtain⟨bb,off,A0,B0,o0⟩:=HX.out (by intro h0;rw[h0]at hpos;simp at hpos);refine⟨_,A0,λj u hj=>?_⟩;have hj':j<nd.list.length:=(by have:=(List.getElem?_eq_some_iff.1 hj).1;simpa using this)
  have h2:(⟨bb,off,none⟩:Addr).add j=⟨bb,off+j,none⟩:=by unfold Addr.add;split<;>simp_all
  rw[h2];have h3:W1.cell? ⟨bb,off+j,none⟩=some u:=by
   rw[k0.out.cell (p:=⟨bb,off+j,none⟩) B0,o0 j hj'];rw[List.getElem?_map,Qb hj']at hj;simp only[Option.map_some,Option.some.injEq]at hj;rw[<-hj,Qa,Qb hj'];rfl
  exact h3
 case hfit=>simp only[zwy,Ut,List.length_append,List.length_map,List.length_replicate,List.length_cons,List.length_nil];omega
 case h1=>intro u hu;obtain⟨y,_,rfl⟩:=List.mem_map.1 hu;rfl
 case hb=>exact(Below.refl _ _).drew
 case hBg=>omega
 intro w2 v0 r0
 have hg2':w2.heap[w.heap.size+1]?=some (.cells (Xx nd).toArray 233 (0,0)):=by rw[v0.out,zgz]
 have x0:w2.heap[w.heap.size]?=some (.cells (List.replicate 22 (Value.int .i64 0)).toArray 233 (0,0)):=(r0.block _ (by omega)).trans g0.out;have HG:=Zz hg2';have y0:=Zz x0;have C0:Hid (Below w.heap.size w w2):=k0.out.trans (r0.mono (by omega));have HI:Hid ((prog.info? 233).map (·.size)=some (Xx nd).toArray.size):=by
  show _=_;rw[Tryz.infoContent];simp only[List.size_toArray,zwx nd u0]
 clear v0 hg2' x0 r0 n0 g0 k0 HX H5 k5;generalize hcl:(Xx nd).toArray=cl at*
 have t0:Hid (cl.all (·.oneCell')=true):=by show _=_;rw[<-hcl];exact yy4 nd
 have D0:Hid ((List.replicate 22 (Value.int .i64 0)).toArray.size=cl.size):=by show _=_;rw[<-hcl];simp only[List.size_toArray,List.length_replicate,zwx nd u0]
 have E0:=Zz hcl;clear hcl
 go_wp2_with (first|(refine zs2 rfl _ 233 rfl _ rfl cl _ _ HG.out _ underlying233 rfl HI.out ?_)|(refine Vw rfl _ _ 233 rfl _ rfl _ cl rfl _ y0.out HI.out D0.out t0.out ?_))
 refine bodyPost_ret (v:=.agg cl) ?_ rfl ⟨by rw[E0.out],below_setRow C0.out (Nat.le_refl _) _⟩;exact zp3 (p:=2) (ty:=233) results137 _ _ ⟨w.heap.size,0,none⟩ _ rfl (run_loadVar_row _ _ _ _ cl _ _ (setRow_heap _ _ _ _ _ _ y0.out) underlying233 rfl HI.out)
open Go.Maps Go.WideMaps
def Tryz.laidOut:laidOutB Tryz.prog=true:=by kernel_rfl
def yq7:(233:TypeId)<prog.types.size:=of_decide_eq_true (by kernel_rfl)
def ywx:(match prog.underlying 233 with|some (.array _ _)|some (.struct _)=>true|_=>false)=true:=by rw[underlying233]
def zuw:Keyed prog 233:=Keyed.of_law (deep_law_laid Tryz.laidOut (m:=4) (by omega) yq7 (by kernel_rfl) ywx)
def zgy{α β:Type}{f:α->Option β}:∀(l:List α),(∀x∈l,∃y,f x=some y)->∃ys,l.mapM f=some ys
 |[],_=>⟨[],rfl⟩
 |x::l,h=>by
  obtain⟨y,hy⟩:=h x (by simp);obtain⟨ys,a0⟩:=zgy l (λz hz=>h z (by simp[hz]));exact⟨y::ys,by simp[List.mapM_cons,hy,a0]⟩
def map_ex{α:Type}{f:α->Option (List Lit)}{l:List α}(h:∃ys,l.mapM f=some ys):∃y,Option.map List.flatten (l.mapM f)=some y:=by
 obtain⟨ys,a0⟩:=h;exact⟨ys.flatten,by rw[a0];rfl⟩
def yy5{l:List Value}{i:Nat}(h:i<l.length):(l.drop i).take 1=[l[i]]:=by
 rw[List.drop_eq_getElem_cons h];rfl
def ziy(cs:List Value):Prop:=∀v∈cs,∃x:Int,v=.int .i64 x/\(Lit.int .i64 x).wf=true
def ym8(d:Nat){v:Value}(h:∃x:Int,v=.int .i64 x/\(Lit.int .i64 x).wf=true):∃y,prog.keyLits (d+1) 3 [v]=some y:=by
 obtain⟨x,rfl,hw⟩:=h;exact⟨[.int .i64 x],by simp[Program.keyLits,underlying3,hw]⟩
def yy6:prog.cellsOf 3=1:=by kernel_rfl
def yy7:prog.cellsOf 231=16:=by kernel_rfl
def zn7:prog.cellsOf 233=22:=by kernel_rfl
def keyArr(d:Nat){cs:List Value}(hl:cs.length=16)(h:ziy cs):∃y,prog.keyLits (d+2) 231 cs=some y:=by
 have hm:∃ys,(List.range 16).mapM (λi=>prog.keyLits (d+1) 3 ((cs.drop (i*prog.cellsOf 3)).take (prog.cellsOf 3)))=some ys:=by
  refine zgy _ (λi hi=>?_);rw[yy6,Nat.mul_one,yy5 (by simp at hi;omega)];exact ym8 d (h _ (List.getElem_mem _))
 obtain⟨ys,a0⟩:=hm;refine⟨ys.flatten,?_⟩;unfold Program.keyLits;simp only[underlying231,yy7,hl,if_true,a0,Option.map_some]
def yq8(d:Nat){cs:List Value}(hl:cs.length=22)(h:ziy cs):∃y,prog.keyLits (d+3) 233 cs=some y:=by
 unfold Program.keyLits;simp only[underlying233,zn7,hl];rw[if_pos ⟨trivial,by kernel_rfl⟩]
 have q:∀i,i<6->∃y,prog.keyLits (d+2) 3 (List.take (prog.cellsOf 3) (List.drop i cs))=some y:=λi hi=>by
  rw[yy6,yy5 (by omega)];exact ym8 (d+1) (h _ (List.getElem_mem _))
 have qa:∃y,prog.keyLits (d+2) 231 (List.take (prog.cellsOf 231) (List.drop 6 cs))=some y:=by
  rw[yy7];exact keyArr d (by simp;omega) (λv hv=>h v (List.mem_of_mem_drop (List.mem_of_mem_take hv)))
 refine map_ex (zgy _ (λf hf=>?_));simp only[List.mem_cons,List.not_mem_nil,or_false]at hf;rcases hf with rfl|rfl|rfl|rfl|rfl|rfl|rfl
 ·exact q 0 (by omega)
 ·exact q 1 (by omega)
 ·exact q 2 (by omega)
 ·exact q 3 (by omega)
 ·exact q 4 (by omega)
 ·exact q 5 (by omega)
 exact qa
def ym9:3<=prog.types.size+1:=of_decide_eq_true (by kernel_rfl)
def key_ex{cs:List Value}(hl:cs.length=22)(h:ziy cs):∃kl,keyOf prog 233 (.agg cs.toArray)=some kl:=by
 obtain⟨d,hd⟩:∃d,prog.types.size+1=d+3:=⟨prog.types.size+1 - 3,by have:=ym9;omega⟩;obtain⟨y,hy⟩:=yq8 d hl h
 have hf:(Value.agg cs.toArray).formed prog 233=true:=by simp[Value.formed,underlying233,zn7,hl]
 have hk:prog.keyType 233=true:=by kernel_rfl
 refine⟨.string (keyBytes y),?_⟩;unfold keyOf;rw[underlying233];simp only[hf,hk,Bool.and_self,if_true,Value.cells,hd,hy,Option.map_some]
namespace Fl
def fits(nd:Node):Prop:=inR nd.kind=true/\inR nd.level=true/\inR nd.a=true/\inR nd.b=true/\inR nd.c=true/\nd.list.length<=16/\nd.list.all inR=true
end Fl
def zr8{x:Int}(h:Fl.inR x=true):(Lit.int .i64 x).wf=true:=by
 simp only[Fl.inR,Bool.and_eq_true,decide_eq_true_eq]at h;exact WalkArith.wf_i64 (by omega)
def yww{nd:Fl.Node}(h:Fl.fits nd):ziy (Xx nd):=by
 obtain⟨h0,h1,h2,h3,h4,h5,h6⟩:=h;intro v hv;simp only[Xx,Ut,List.mem_append,List.mem_cons,List.mem_map,List.mem_replicate,List.not_mem_nil,or_false]at hv;rcases hv with(rfl|rfl|rfl|rfl|rfl|rfl)|⟨y,hy,rfl⟩|⟨_,rfl⟩
 ·exact⟨_,rfl,zr8 h0⟩
 ·exact⟨_,rfl,zr8 h1⟩
 ·exact⟨_,rfl,zr8 h2⟩
 ·exact⟨_,rfl,zr8 h3⟩
 ·exact⟨_,rfl,zr8 h4⟩
 ·exact⟨_,rfl,WalkArith.wf_i64 (by omega)⟩
 ·exact⟨_,rfl,zr8 (List.all_eq_true.1 h6 y hy)⟩
 exact⟨_,rfl,WalkArith.wf_i64 (by omega)⟩
def zuv(P:Program)(nd:Fl.Node):Lit:=(keyOf P 233 (.agg (Xx nd).toArray)).getD .nil
def zk6{nd:Fl.Node}(h:Fl.fits nd):keyOf prog 233 (.agg (Xx nd).toArray)=some (zuv prog nd):=by
 obtain⟨kl,hk⟩:=key_ex (zwx nd h.2.2.2.2.2.1) (yww h);unfold zuv;rw[hk];rfl
def yy8{x y:Fl.Node}(h:Xx x=Xx y):x=y:=by
 unfold Xx at h;have h1:=List.append_inj_left h rfl;have h2:=List.append_inj_right h rfl;obtain⟨xk,xl,xa,xb,xc,xs⟩:=x;obtain⟨yk,yl,ya,yb,yc,ys⟩:=y;simp only[Ut,List.cons.injEq,Value.int.injEq,true_and,and_true]at h1;obtain⟨rfl,rfl,rfl,rfl,rfl,hn⟩:=h1
 have hn':xs.length=ys.length:=by omega
 have h3:=List.append_inj_left h2 (by simpa using hn');have h4:xs=ys:=by
  simp only at h3;exact(List.map_inj_right (λa b a0=>by injection a0)).1 h3
 rw[h4]
def ymz{x y:Fl.Node}(hx:Fl.fits x)(hy:Fl.fits y)(h:zuv prog x=zuv prog y):x=y:=by
 have h1:=zk6 hx;rw[h]at h1;have:=zuw.inj h1 (zk6 hy);simp only[Value.agg.injEq]at this;exact yy8 (by have:=congrArg Array.toList this;simpa using this)
def zp0(w:World)(T B:Nat)(seen:List Fl.Node):Prop:=
 w.cell? ⟨T,0,none⟩=some (.map (some B))/\∃n D,n<=seen.length/\w.ownsMap (H:=Unit) prog 233 (plainElem prog 3) B n D/\∀nd,Fl.fits nd->(Maps.has D (zuv prog nd)=true ↔ nd∈seen)
def zp0.kept{w w':World}{T B:Nat}{seen:List Fl.Node}(h:zp0 w T B seen){row:Option Nat}(g:w.grownBy w' row)(hT:some T≠row)(hB:some B≠row):zp0 w' T B seen:=by
 obtain⟨h1,n,D,h2,h3,h4⟩:=h;exact⟨g.cell h1 hT,n,D,h2,h3.kept g hB,h4⟩
def zeroInt(w:World):(zeroValue 3).run prog w=.ok (.int .i64 0) w:=by kernel_rfl
def yi8(w:World):Calls prog 135 #[] w λe w'=>e=.returned (.pointer (some ⟨w.heap.size+1,0,none⟩))/\zp0 w' (w.heap.size+1) w.heap.size []/\Below w.heap.size w w'/\w'.heap.size=w.heap.size+2:=by
 have a0:= @run_makeMap prog
 go_enter func135,ntmps135
 go_wp2;go_ret;refine⟨rfl,⟨?_,0,.map [],Nat.le_refl _,(World.ownsMap_made w _ _ _).alloc _,λnd _=>?_⟩,?_,?_⟩
 ·simp
 ·simp[Maps.has]
 ·exact((bA).alloc (by simp) _)
 simp
def yi9{w:World}{T B:Nat}{seen:List Fl.Node}{nd:Fl.Node}(h:zp0 w T B seen)(hf:Fl.fits nd)(hn:seen.length<=1000000):
  Calls prog 136 #[.pointer (some ⟨T,0,none⟩),.agg (Xx nd).toArray] w λe w'=>∃(c:Int) (t:Bool),e=.returned (.tuple #[.int .i64 c,.bool (!t)])/\(t=true ↔ nd∈seen)/\zp0 w' T B (nd::seen)/\w.grownBy w' (some B):=by
 obtain⟨hT,n,D,C0,d0,hD⟩:=h;have i0:=zk6 hf;have HI:Hid ((prog.info? 233).map (·.size)=some (Xx nd).toArray.size):=by
  show _=_;rw[Tryz.infoContent];simp only[List.size_toArray,zwx nd hf.2.2.2.2.2.1]
 generalize hcl:(Xx nd).toArray=cl at*;have u0:T<w.heap.size:=Qe w _ hT;have v0:=d0.lt;have HK:Hid (keyOf prog 233 (.agg cl)=some (zuv prog nd)):=i0;have HO:Hid (w.ownsMap (H:=Unit) prog 233 (plainElem prog 3) B n D):=d0;have k0:Hid (∀nd,Fl.fits nd->(Maps.has D (zuv prog nd)=true ↔ nd∈seen)):=hD;have HT:Hid (w.cell? ⟨T,0,none⟩=some (.map (some B))):=hT;clear i0 d0 hD hcl hT
 go_enter func136,ntmps136
 go_wp2_with fail
 obtain⟨W0,l0⟩:=nmE (w.alloc (.cells cl 233));rw[<-l0]
 have g0:w.grownBy W0 none:=by rw[l0];exact World.grownBy_alloc _ _ _
 have o0:W0.cell? ⟨T,0,none⟩=some (.map (some B)):=g0.cell HT.out (by simp);have a0:W0.ownsMap (H:=Unit) prog 233 (plainElem prog 3) B n D:=HO.out.kept g0 (by simp)
 have HX:Hid (W0.heap[w.heap.size]?=some (.cells cl 233 (0,0))):=by show _=_;rw[l0];exact heap_alloc_last _ _
 have p0:Hid (W0.ownsMap (H:=Unit) prog 233 (plainElem prog 3) B n D):=a0;have f0:Hid (w.grownBy W0 none):=g0;obtain⟨v,ps,n0,hv⟩:=a0.drew.look_ok zuw underlying245 (zeroInt _) (zd:=.lit (.int .i64 0)) (zp:=[]) (plainElem_int underlying3 (by decide)) HK.out;obtain⟨c,rfl,hc,x0⟩:=plainElem_int_inv underlying3 hv;obtain⟨t,ht⟩:=nmE (Maps.has D (zuv prog nd));rw[<-ht]at n0;have q0:Hid ((Instr.lookup 245 (.map (some B)) (.agg cl) true).run prog W0.drew=.ok (.tuple #[.int .i64 c,.bool t]) W0.drew):=n0;have r0:Hid (t=Maps.has D (zuv prog nd)):=ht;clear l0 g0 a0 n0 hv hc x0 HO ht;refine wp_region_still_lit (by kernel_rfl) (by kernel_rfl) ?_
 iterate 4 still_step
 refine Vq rfl (.agg cl) (zu5 _ 233 rfl w.heap.size rfl cl _ _ HX.out _ underlying233 rfl HI.out) ?_;refine Vq rfl (.tuple #[.int .i64 c,.bool t]) (zz5 _ _ 245 rfl (.map (some B)) (.agg cl) _ rfl rfl q0.out) ?_
 repeat still_step
 refine wpStill_nil ?_;have m0:W0.drew.cell? ⟨T,0,none⟩=some (.map (some B)):=o0;have b0:Hid (w.grownBy W0.drew none):=⟨f0.out.os,f0.out.tape,f0.out.output,f0.out.size,f0.out.block⟩;have h0:Hid (W0.drew.ownsMap (H:=Unit) prog 233 (plainElem prog 3) B n D):=p0.out;have s0:Hid (W0.drew.heap[w.heap.size]?=some (.cells cl 233 (0,0))):=HX.out
 change Exit.then _ _ _ _ W0.drew
 generalize W0.drew=W1 at*;clear o0 f0 p0 HX q0
 cases t with
 |true=>
  have hmem:nd∈seen:=(k0.out nd hf).1 r0.out.symm;have j0:Hid (nd∈seen):=hmem;clear hmem;go_wp2
  go_ret2
  refine⟨c,true,rfl,⟨λ_=>j0.out,λ_=>rfl⟩,⟨m0,n,D,by simp;omega,h0.out,λnd' hf'=>?_⟩,⟨b0.out.os,b0.out.tape,b0.out.output,b0.out.size,λk hk _=>b0.out.block k hk (by simp)⟩⟩;rw[k0.out nd' hf',List.mem_cons];exact⟨λh=> .inr h,λh=>h.elim (λe=>by rw[e];exact j0.out) id⟩
 |false=>
  have hno:nd ∉ seen:=λh=>by have:=(k0.out nd hf).2 h;rw[<-r0.out]at this;cases this
  have y0:Hid (nd ∉ seen):=hno;have D0:=h0.out.size_le;clear hno
  go_wp2_with (at_len;refine wpList_len_own _ rfl _ 245 rfl 233 3 underlying245 _ B n D rfl h0.out ?_)
  refine wp_region_still_tail 6 (by kernel_rfl) (by kernel_rfl) ?_;simp only[List.take_succ_cons,List.take_zero,List.drop_succ_cons,List.drop_zero]
  iterate 4 still_step
  refine Vq rfl (.agg cl) (zu5 _ 233 rfl w.heap.size rfl cl _ _ s0.out _ underlying233 rfl HI.out) ?_
  still_step
  refine wpStill_nil ?_;have t0:Hid (W1.drew.ownsMap (H:=Unit) prog 233 (plainElem prog 3) B n D):=h0.out;refine wpList_mapUpdate_own W1.drew rfl _ _ _ 245 rfl 233 3 zuw underlying245 _ B n D rfl t0.out (by unfold maxLen;omega) _ _ _ rfl rfl HK.out _ [] (plainElem_int underlying3 (WalkArith.wf_i64 (by omega))) ?_;intro w2 c0 e0;have z0:Hid (zp0 w2 T B (nd::seen)):=by
   refine⟨?_,n+1,_,by simp;omega,c0,λnd' hf'=>?_⟩
   ·have hTB:T≠B:=by
     intro e;obtain⟨es,clock,hb,_⟩:=h0.out;subst e;simp[World.cell?,hb]at m0
    exact e0.cell m0 (by simpa using hTB)
   by_cases he:nd'=nd
   ·subst he
    rw[Maps.has_put_same h0.out.isMap (zuw.key HK.out)];simp
   rw[Maps.has_put_other (λh=>he (ymz hf' hf h)),k0.out nd' hf',List.mem_cons];exact⟨λh=> .inr h,λh=>h.elim (λe=>absurd e he) id⟩
  have A0:Hid (w.grownBy w2 (some B)):=⟨e0.os.trans b0.out.os,e0.tape.trans b0.out.tape,e0.output.trans b0.out.output,Nat.le_trans b0.out.size e0.size,λk hk B0=>(e0.block k (Nat.lt_of_lt_of_le hk b0.out.size) B0).trans (b0.out.block k hk (by simp))⟩;clear c0 e0 t0 m0 s0;go_wp2
  go_ret2
  exact⟨_,false,rfl,⟨λh=>(by cases h),λh=>absurd h y0.out⟩,z0.out,A0.out⟩
end Go.Proofs.YtaaejabalinojaaGreatDoor
namespace Go.Proofs.YtaaejabalinojaaGreatDoor
open Go.RowKit Go.Proofs.Tryz
namespace Fl
def dupAt(ns:List Node)(k:Nat):Bool:=(List.range k).any (λi=>eqNode (nth ns i) (nth ns k))
def firstDup(ns:List Node):Int:=match (List.range ns.length).find? (dupAt ns) with|some k=>(k:Int)|none=> -1
def dupAt_iff(ns:List Node)(k:Nat)(hk:k<ns.length):dupAt ns k=true ↔ nth ns k∈ns.take k:=by
 unfold dupAt;rw[List.any_eq_true]
 constructor
 ·rintro⟨i,hi,he⟩
  simp only[List.mem_range]at hi;rw[<-(eqNode_iff _ _).1 he]
  have:nth ns i=(ns.take k)[i]'(by simp;omega):=by simp[nth,Qa,Qb (show i<ns.length by omega)]
  rw[this];exact List.getElem_mem _
 intro h;obtain⟨i,hi,he⟩:=List.getElem_of_mem h
 have a0:i<k:=by simp at hi;omega
 refine⟨i,by simpa using a0,(eqNode_iff _ _).2 ?_⟩;rw[<-he];simp[nth,Qa,Qb (show i<ns.length by omega)]
end Fl
def Yv.node{B:Nat}{w:World}{b off n cap:Nat}{ns:List Fl.Node}(h:Yv B w (.slice (some ⟨b,off,none⟩) n cap) ns){i:Nat}(hi:i<ns.length)(hB:B<=w.heap.size):∃lv,zz2 w b (off+i*6) (Fl.nth ns i) lv:=by
 obtain⟨_,lv,h0,h1,h2,h3,h4,h5,h6⟩:=h.at hi;exact⟨lv,h1,h2,h3,h4,h5,h6,h0.mono hB⟩
structure SameRel(ns:List Fl.Node)(w wr:World)(j:Nat)(seen:List Fl.Node):Prop where
 hj:j<=ns.length
 hlen:seen.length=j
 hmem:∀x,x∈seen ↔ x∈ns.take j
 hno:∀t,t<j->Fl.dupAt ns t=false
 hs:zp0 wr (w.heap.size+1) w.heap.size seen
 hb:Below w.heap.size w wr
 hz:w.heap.size+2<=wr.heap.size
def zc6(ns:List Fl.Node)(nv:Value)(w:World)(hn:Yv w.heap.size w nv ns)(hf:∀i,i<ns.length->Fl.fits (Fl.nth ns i))(hlen:ns.length<=1000):
  Calls prog 110 #[nv] w λe w'=>e=.returned (.int .i64 (Fl.firstDup ns))/\Below w.heap.size w w':=by
 obtain⟨na,nc,rfl,_,hm,_⟩:=id hn;have HN:=Zz hn;clear hn hm
 go_enter func110,ntmps110
 go_wp2_with (go_at_call 135;refine(yi8 _).mono ?_;rintro e w1 ⟨rfl,e0,f0,r0⟩)
 have n0:=Zz e0;have o0:=Zz f0;clear e0 f0
 go_wp2_with fail
 go_loopw [10] (λi wr=>∃(j:Nat) (seen:List Fl.Node),i=.int .i64 j/\SameRel ns w wr j seen) (λi _=>ns.length - (intOf i).toNat)
 case atStart=>exact⟨0,[],rfl,⟨by omega,rfl,by simp,λt ht=>by omega,n0.out,o0.out,by omega⟩⟩
 case round=>
  obtain⟨j,seen,rfl,hr⟩:=hrel;have hj:=hr.hj;have HR:=Zz hr;clear hr
  by_cases a0:j<ns.length
  ·obtain⟨b,off,rfl⟩:∃b off,na=some ⟨b,off,none⟩:=by
    obtain⟨ao',cap',hv',_,_,hx'⟩:=HN.out;obtain⟨b,off,ha,_⟩:=hx' (by intro h;rw[h]at a0;simp at a0);simp only[Value.slice.injEq]at hv';exact⟨b,off,hv'.1.trans ha⟩
   obtain⟨lv,g0⟩:=(HN.out.below HR.out.hb).node a0 HR.out.hb.size;have h0:=hf j a0;have HC:Hid (Calls prog 137 #[.pointer (some ⟨b,off+j*6,none⟩)] wr λe w'=>e=.returned (.agg (Xx (Fl.nth ns j)).toArray)/\Below wr.heap.size wr w'):=zc5 g0 h0.2.2.2.2.2.1;have s0:(j:Int)<(ns.length:Int):=(by omega);clear g0
   go_wp2_with (go_at_call 137;refine(HC.out).mono ?_;rintro e w2 ⟨rfl,b0⟩)
   have i0:zp0 w2 (w.heap.size+1) w.heap.size seen:=HR.out.hs.kept (row:=none) ⟨b0.os,b0.tape,b0.output,b0.size,λk hk _=>b0.block k hk⟩ (by simp) (by simp);have j0:Hid (Below w.heap.size w w2):=HR.out.hb.trans (b0.mono HR.out.hb.size);have k0:w.heap.size+2<=w2.heap.size:=Nat.le_trans HR.out.hz b0.size;clear b0 HC;refine(yi9 i0 h0 (by have:=HR.out.hlen;omega)).mono ?_;rintro e w3 ⟨c,t,rfl,ht,l0,c0⟩;have m0:Hid (Below w.heap.size w w3):=j0.out.trans ⟨c0.os,c0.tape,c0.output,c0.size,λk hk=>c0.block k (by have:=j0.out.size;omega) (by simp;omega)⟩;have p0:w.heap.size+2<=w3.heap.size:=Nat.le_trans k0 c0.size;have q0:=Zz l0;have HT:=Zz ht;clear i0 l0 c0 ht k0
   cases t with
   |true=>
    have d0:Fl.dupAt ns j=true:=(Fl.dupAt_iff ns j a0).2 ((HR.out.hmem _).1 (HT.out.1 rfl));have HF:Hid (Fl.firstDup ns=(j:Int)):=by
     show Fl.firstDup ns=(j:Int);unfold Fl.firstDup;rw[Fl.find_first _ _ j HR.out.hno a0 d0]
    clear d0;go_wp2;go_ret;exact⟨Uj HF.out.symm,m0.out⟩
   |false=>
    have HD:Hid (Fl.dupAt ns j=false):=by
     show Fl.dupAt ns j=false;rw[Bool.eq_false_iff];intro h
     have:=HT.out.2 ((HR.out.hmem _).2 ((Fl.dupAt_iff ns j a0).1 h));cases this
    go_wp2
    go_roundw
    case rel=>
     refine⟨j+1,Fl.nth ns j::seen,by go_num,⟨by omega,by simp[HR.out.hlen],λx=>?_,λt ht=>?_,q0.out,m0.out,p0⟩⟩
     ·rw[Fl.take_snocN ns j a0,List.mem_cons,List.mem_append,List.mem_singleton,HR.out.hmem x];exact or_comm
     by_cases h:t<j
     ·exact HR.out.hno t h
     have:t=j:=by omega
     subst this;exact HD.out
    case measure=>simp[intOf];omega
  have HF:Hid (Fl.firstDup ns= -1):=by
   show Fl.firstDup ns= -1;unfold Fl.firstDup;rw[Fl.find_none _ _ (λk hk=>HR.out.hno k (by omega))]
  go_wp2;go_ret;exact⟨Uj HF.out.symm,HR.out.hb⟩
end Go.Proofs.YtaaejabalinojaaGreatDoor
