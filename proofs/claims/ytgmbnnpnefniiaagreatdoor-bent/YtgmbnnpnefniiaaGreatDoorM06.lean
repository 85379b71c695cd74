import Derived.Test.YtgmbnnpnefniiaaGreatDoorM05
import Derived.Laws.CopyOwn
import Derived.DeepKeys4
import Derived.Deep.DeepCutAuto
set_option linter.all false
set_option maxRecDepth 100000
set_option maxHeartbeats 40000000
namespace Go.Proofs.YtgmbnnpnefniiaaGreatDoor
open Go.RowKit Go.Proofs.Tryz List World Region Value Act Fl
variable{w w' W w1 w0 W1 W2 V:World}{b B i j k cap nb T Xb Fb Pb Lb base n:Nat}{e c u:Int}{a:Act}{o:Oper}{v v0 v1 v2 v3 v4 v5 lv wv wv' lvn aB cS bv vv:Value}{p:aY}{cs:List Value}{x y:Fl.ar}{xs lvs lvs':Vs}{acc ac:List Fl.ar}{P:Program}{ops:Array Oper}{Q:Exit->Act->World->Prop}{S:Nat->Prop}{vs ns:Is}
def Ua(r:Fl.ar×Int×Int)(w:World)(e:Ending)(w':World):Prop:=
 D w w'/\∃nv,e=.returned (.tuple #[nv,I r.2.1,I r.2.2])/\(∃nd ao n cap,nv=Vt nd (A ao n cap))/\(0<=r.2.1->∃lv,nv=Vt r.1 lv/\Zw w'.heap.size w' lv r.1.ae/\∀b,lv.ownBlock=some b->w.heap.size<=b)
def zx5{nv:Value}{b:Int}{r:Fl.ar×Int×Int}{e:Ending}(hr:r=(fE,-1,b))(he:e=.returned (.tuple #[nv,I (-1),I b]))(hv:∃nd ao n cap,nv=Vt nd (A ao n cap))(hb:D w w'):Ua r w e w':=by
 subst hr;exact⟨hb,nv,he,hv,λh=>absurd (show (0:Int)<= -1 from h) (by decide)⟩
def one_end(s:ByteArray)(k:Nat)(w:World)(hs:s.size<=4611686018427387904):
  E 37 #[.string s,I s.size,I k] w λe w'=>Ua (fE,-1,(s.size:Int)) w e w':=by
 have b1:((s.size:Int)==(s.size:Int))=true:=by simp
 go_enter func37,ntmps37
 go_wp2;exact bodyPost_ret (v:=.tuple #[.agg #[I 0,I 0,I 0,I 0,I 0,K],I (-1),I s.size]) (by simp[results,results37,go_sem]) rfl (zx5 rfl rfl ⟨⟨_,_,_,_,_,[]⟩,_,_,_,rfl⟩ ((bA).alloc (by simp) _))
def yxy(s:ByteArray)(q:Int)(w:World)(hs:s.size<=4611686018427387904)(h0:0<=q)(hq:q<=s.size)(v n b:Int)(h:num s.toList q.toNat=(v,n,b)):
  E 35 #[.string s,I q] w (Rq (.tuple #[I v,I n,I b]) w):=by
 obtain⟨m,rfl⟩:=Int.eq_ofNat_of_zero_le h0;exact num_l s m w hs (by omega) v n b (by simpa using h)
def ywy(s:ByteArray)(q m:Int)(w:World)(hs:s.size<=4611686018427387904)(h0:0<=q)(hq:q<=s.size)(a0:0<=m)(hm:m<=1000)(l:Is)(n b:Int)(h:bW s.toList q.toNat m.toNat=(l,n,b)):
  E 36 #[.string s,I q,I m] w λe w'=>∃v,e=.returned (.tuple #[v,I n,I b])/\w'.ownsRow w.heap.size 3 1 v l.length (l.map (int .i64))/\D w w':=by
 obtain⟨q,rfl⟩:=Int.eq_ofNat_of_zero_le h0;obtain⟨m,rfl⟩:=Int.eq_ofNat_of_zero_le a0;have:=yiw s q m w hs (by omega) (by omega);rw[show bW s.toList q m=(l,n,b) from by simpa using h]at this;exact this
def yc1(s:ByteArray)(p k:Nat)(w:World)(hs:s.size<=4611686018427387904)(hp:p<s.size)
  (H:Y (∀w,E 48 #[I s[p].toNat] w (Rq (I (-2)) w))):
  E 37 #[.string s,I p,I k] w λe w'=>Ua (fE,-1,(p:Int)) w e w':=by
 have b1:((p:Int)==(s.size:Int))=false:=beq_eq_false_iff_ne.2 (by omega);have hc:=s[p].toNat_lt
 go_enter func37,ntmps37
 go_wp2_with (go_at_call 48;refine(H _).mono ?_;rintro e w' ⟨rfl,rfl⟩)
 exact bodyPost_ret (v:=.tuple #[.agg #[I s[p].toNat,I 0,I 0,I 0,I 0,K],I (-1),I p]) (by simp[results,results37,go_sem]) rfl (zx5 rfl rfl ⟨⟨_,_,_,_,_,[]⟩,_,_,_,rfl⟩ ((bA).alloc (by simp) _))
def one_lev(s:ByteArray)(p k:Nat)(Wj v n b:Int)(w:World)(hs:s.size<=4611686018427387904)(hp:p<s.size)(hF:Wj≠ -2)(hn:n<0)
  (H:Y (∀w,E 48 #[I s[p].toNat] w (Rq (I Wj) w)))
  (H1:Y (∀w,E 35 #[.string s,I ((p:Int)+1)] w (Rq (.tuple #[I v,I n,I b]) w))):
  E 37 #[.string s,I p,I k] w λe w'=>Ua (fE,-1,b) w e w':=by
 have b1:=beq_eq_false_iff_ne.2 (by omega);have b2:=beq_eq_false_iff_ne.2 hF;have hc:=s[p].toNat_lt;clear hF
 go_enter func37,ntmps37
 go_wp2_with (first|(go_at_call 48;refine(H _).mono ?_;rintro e w' ⟨rfl,rfl⟩)|(go_at_call 35;refine(H1 _).mono ?_;rintro e w' ⟨rfl,rfl⟩))
 exact bodyPost_ret (v:=.tuple #[.agg #[I s[p].toNat,I 0,I 0,I 0,I 0,K],I (-1),I b]) (by simp[results,results37,go_sem]) rfl (zx5 rfl rfl ⟨⟨_,_,_,_,_,[]⟩,_,_,_,rfl⟩ ((bA).alloc (by simp) _))
def ypx(s:ByteArray)(p k:Nat)(v n b v2 n2 b2 r:Int)(w:World)(hs:s.size<=4611686018427387904)(hp:p<s.size)(hn:¬n<0)(a0:(n2<0/\r=b2)\/(¬n2<0/\16<v2/\r=n))
  (H:Y (∀w,E 48 #[I s[p].toNat] w (Rq (I (-1)) w)))
  (H1:Y (∀w,E 35 #[.string s,I ((p:Int)+1)] w (Rq (.tuple #[I v,I n,I b]) w)))
  (H2:Y (∀w,E 35 #[.string s,I n] w (Rq (.tuple #[I v2,I n2,I b2]) w))):
  E 37 #[.string s,I p,I k] w λe w'=>Ua (fE,-1,r) w e w':=by
 have b1:((p:Int)==(s.size:Int))=false:=beq_eq_false_iff_ne.2 (by omega);have hc:=s[p].toNat_lt;rcases a0 with⟨a0,rfl⟩|⟨a0,b0,rfl⟩
 ·go_enter func37,ntmps37
  go_wp2_with (go_at_call 48;refine(H _).mono ?_;rintro e w' ⟨rfl,rfl⟩)
  refine(H1 _).mono ?_;rintro e w' ⟨rfl,rfl⟩
  go_wp2_with fail
  refine(H2 _).mono ?_;rintro e w' ⟨rfl,rfl⟩;go_wp2;exact bodyPost_ret (v:=.tuple #[.agg #[I s[p].toNat,I v,I 0,I 0,I 0,K],I (-1),I r]) (by simp[results,results37,go_sem]) rfl (zx5 rfl rfl ⟨⟨_,_,_,_,_,[]⟩,_,_,_,rfl⟩ ((bA).alloc (by simp) _))
 go_enter func37,ntmps37
 go_wp2_with (go_at_call 48;refine(H _).mono ?_;rintro e w' ⟨rfl,rfl⟩)
 refine(H1 _).mono ?_;rintro e w' ⟨rfl,rfl⟩
 go_wp2_with fail
 refine(H2 _).mono ?_;rintro e w' ⟨rfl,rfl⟩;go_wp2;exact bodyPost_ret (v:=.tuple #[.agg #[I s[p].toNat,I v,I 0,I 0,I 0,K],I (-1),I r]) (by simp[results,results37,go_sem]) rfl (zx5 rfl rfl ⟨⟨_,_,_,_,_,[]⟩,_,_,_,rfl⟩ ((bA).alloc (by simp) _))
def Uv{a:Addr}{o:Value}(h:W.cell? a=some o):(W.setCell a v).cell? a=some v:=cell?_setCell_same' W a v (by simp[h])
def Jr(h:i≠j):(W.setCell (O B j) v).cell? (O B i)=W.cell? (O B i):=by
 apply Qg;intro hh;apply h;injection hh with _ h2;exact h2.symm
def zu7(v0 v1 v2 v3 v4 v5:Value){o0 o1 o2 o3 o4 o5:Value}(h0:w1.cell? (O B 0)=some o0)(h1:w1.cell? (O B 1)=some o1)(h2:w1.cell? (O B 2)=some o2)(h3:w1.cell? (O B 3)=some o3)(h4:w1.cell? (O B 4)=some o4)(h5:w1.cell? (O B 5)=some o5):
  (w1.setCell (O B 0) v0).cell? (O B 0)=some v0/\((w1.setCell (O B 0) v0).setCell (O B 1) v1).cell? (O B 1)=some v1/\(((w1.setCell (O B 0) v0).setCell (O B 1) v1).setCell (O B 2) v2).cell? (O B 2)=some v2/\((((w1.setCell (O B 0) v0).setCell (O B 1) v1).setCell (O B 2) v2).setCell (O B 3) v3).cell? (O B 3)=some v3/\(((((w1.setCell (O B 0) v0).setCell (O B 1) v1).setCell (O B 2) v2).setCell (O B 3) v3).setCell (O B 4) v4).cell? (O B 4)=some v4/\((((((w1.setCell (O B 0) v0).setCell (O B 1) v1).setCell (O B 2) v2).setCell (O B 3) v3).setCell (O B 4) v4).setCell (O B 5) v5).cell? (O B 5)=some v5:=by
 refine⟨Uv h0,Uv (o:=o1) ?_,Uv (o:=o2) ?_,Uv (o:=o3) ?_,Uv (o:=o4) ?_,Uv (o:=o5) ?_⟩<;>repeat (rw[Jr (by decide)])
 all_goals assumption
def zv3(h:Below B w w1):
  Below B w ((((((w1.setCell (O B 0) v0).setCell (O B 1) v1).setCell (O B 2) v2).setCell (O B 3) v3).setCell (O B 4) v4).setCell (O B 5) v5):=
 (((((h.setCell lE _).setCell lE _).setCell lE _).setCell lE _).setCell lE _).setCell lE _
def yc2(s:ByteArray)(p k:Nat)(v n b v2 n2 b2 n3 b3:Int)(w:World)(hs:s.size<=4611686018427387904)(hp:p<s.size)(hn:¬n<0)(d0:¬n2<0)(e0:¬16<v2)(f0:n3<0)
  (H:Y (∀w,E 48 #[I s[p].toNat] w (Rq (I (-1)) w)))
  (H1:Y (∀w,E 35 #[.string s,I ((p:Int)+1)] w (Rq (.tuple #[I v,I n,I b]) w)))
  (H2:Y (∀w,E 35 #[.string s,I n] w (Rq (.tuple #[I v2,I n2,I b2]) w)))
  (H3:Y (∀w,E 36 #[.string s,I n2,I v2] w λe w'=>∃lv,e=.returned (.tuple #[lv,I n3,I b3])/\D w w')):
  E 37 #[.string s,I p,I k] w λe w'=>Ua (fE,-1,b3) w e w':=by
 have b1:((p:Int)==(s.size:Int))=false:=beq_eq_false_iff_ne.2 (by omega);have hc:s[p].toNat<256:=s[p].toNat_lt
 go_enter func37,ntmps37
 go_wp2_with (go_at_call 48;refine(H _).mono ?_;rintro e w' ⟨rfl,rfl⟩)
 refine(H1 _).mono ?_;rintro e w' ⟨rfl,rfl⟩
 go_wp2_with fail
 refine(H2 _).mono ?_;rintro e w' ⟨rfl,rfl⟩
 go_wp2_with fail
 refine(H3 _).mono ?_;rintro e w1 ⟨lv,rfl,b0⟩;obtain⟨a0,c0⟩:=zj1 b0;simp only[size_alloc]at a0 c0
 have hz:w.heap.size+1<w1.heap.size:=by have:=b0.size;simp at this;omega
 obtain⟨q0,q1,q2,q3,q4,q5⟩:=zu7 (w1:=w1) (B:=w.heap.size) (o0:=I 0) (o1:=I 0) (o2:=I 0) (o3:=I 0) (o4:=I 0) (o5:=K) (I s[p].toNat) (I v) (I 0) (I 0) (I 0) K (by rw[a0 _ _ (by omega)];simp) (by rw[a0 _ _ (by omega)];simp) (by rw[a0 _ _ (by omega)];simp) (by rw[a0 _ _ (by omega)];simp) (by rw[a0 _ _ (by omega)];simp) (by rw[a0 _ _ (by omega)];simp);go_wp2;exact bodyPost_ret (v:=.tuple #[.agg #[I s[p].toNat,I v,I 0,I 0,I 0,K],I (-1),I b3]) (by simp[results,results37,go_sem,q0,q1,q2,q3,q4,q5]) rfl (zx5 rfl rfl ⟨⟨_,_,_,_,_,[]⟩,_,_,_,rfl⟩ (zv3 (((bA).alloc (by simp) _).trans (b0.mono (by simp;omega)))))
def zn0(r:Fl.ar×Int×Int)(b:Nat)(w:World)(e:Ending)(w':World):Prop:=
 Mv w w' b/\(r.2.1<0->e=.panicked (Za 8 r.2.2))/\(¬r.2.1<0->∃lv,e=.returned (Vt r.1 lv)/\Zw w'.heap.size w' lv r.1.ae/\(∀bb,lv.ownBlock=some bb->w.heap.size<=bb)/\w'.cell? (O b 1)=some (I r.2.1))
def Uu{r:Fl.ar×Int×Int}{pl:Int}(hr:r=(fE,-1,pl))(m:Mv w w' b):zn0 r b w (.panicked (Za 8 pl)) w':=by
 subst hr;exact⟨m,λ_=>rfl,λh=>absurd (show (-1:Int)<0 by decide) h⟩
def zl6{r:Fl.ar×Int×Int}{nd:Fl.ar}{q:Nat}(hr:r=(nd,(q:Int),0))(m:Mv w w1 b)(hb:b<w.heap.size)(hB:w.heap.size=B)(c:w1.cell? (O b 1)=some (I (q:Int)))
  (hl:Zw w1.heap.size w1 lv nd.ae) (b0:∀bb,lv.ownBlock=some bb->B<bb):
  zn0 r b w (.returned (Vt nd lv)) ((((((w1.setCell (O B 0) v0).setCell (O B 1) v1).setCell (O B 2) v2).setCell (O B 3) v3).setCell (O B 4) v4).setCell (O B 5) v5):=by
 subst hr hB
 have a0:nd.ae≠[]->lv.ownBlock≠some w.heap.size:=λ_ h=>by have:=b0 _ h;omega
 have hs:∀{W:World} {i:Nat} {u:Value},M W b 1 (I (q:Int))->M (W.setCell (O w.heap.size i) u) b 1 (I (q:Int)):=λ{W i u} h=>(Yb W w.heap.size i u).cell h (by simp;omega);refine⟨(((((m.eI hb lE _ _).eI hb lE _ _).eI hb lE _ _).eI hb lE _ _).eI hb lE _ _).eI hb lE _ _,λh=>by simp only at h;omega,λ_=>⟨lv,rfl,?_,λbb h=>by have:=b0 bb h;omega,hs (hs (hs (hs (hs (hs c)))))⟩⟩;exact Xf (Xf (Xf (Xf (Xf (Xf hl a0) a0) a0) a0) a0) a0
def zf7{p:Nat}{nd:Fl.ar}(h:(prem nd).any (λx=>decide ((k:Int)<=x))=true):bt p k nd e=(fE,-1,(p:Int)):=by unfold bt;rw[G h]
def zjx{p:Nat}{nd:Fl.ar}(h:(prem nd).any (λx=>decide ((k:Int)<=x))=false):bt p k nd e=(nd,e,0):=by unfold bt;rw[U (by rw[h];decide)]
def yh1{ao:Option Addr}{s:L}{p:Nat}(h:Dr w b ao cap s p)(hr:Xp w b 2)(k:Nat)(hk:k<=200):
  E 105 #[F b,I k] w λe w'=>zn0 (one s p k) b w e w':=by
 have hlb:=h.lt;have hp:=h.hp;have hs:=h.hs
 have E1:∀o,(w.alloc o).cell? (O b 1)=some (I p):=λo=>by rw[cell?_alloc_past _ _ _ hlb];exact h.c1
 have HD:=Z h;have HR:=Z hr
 go_enter func105,ntmps105
 go_wp2_with fail
 obtain⟨W0,C0⟩:=J (w.alloc (.cells #[I 0,I 0,I 0,I 0,I 0,K] 73));rw[<-C0]
 have l1:Mv w W0 b:=by rw[C0];exact(Mv.refl w b).alloc hlb _
 have F1:W0.cell? (O b 1)=some (I p):=by rw[C0];exact E1 _
 have m1:=Z l1;have X0:=Z (HD.move l1 F1 hp)
 have G1:Y (Nd W0 w.heap.size 0 0 0 0 0 K):=by rw[C0];exact Nd.new _ _ _ _ _ _ _ _
 have H1:W0.heap.size=w.heap.size+1:=by rw[C0];simp
 have I1:=Z H1
 by_cases x0:p<s.length
 ·refine(zd9 X0 x0).mono ?_
  rintro e w1 ⟨rfl,y0,J1⟩;obtain⟨x,hx⟩:=J ((s.getD p 0).toNat);rw[<-hx];have K1:x<256:=(by rw[hx];exact(s.getD p 0).toNat_lt);have HX:=Z hx;have n1:=Z (m1.trans y0);have A2:w.heap.size+1<=w1.heap.size:=(by have:=y0.g.size;have:=I1.out;omega);have L1:=Z (G1.grown y0.g (by simp;omega));have J0:Y (Dr w1 b ao cap s (p+1)):=X0.move y0 J1 (by omega);clear hx y0 J1 F1
  by_cases z0:x<8
  ·have i2:decide ((x:Int)<8)=true:=decide_eq_true (by omega)
   have o1:decide (x<8)=true:=decide_eq_true z0
   go_wp2_with fail
   obtain⟨W1,D0⟩:=J (w1.alloc (.cells #[I x,I 0,I 0,I 0,I 0,K] 73));rw[<-D0];obtain⟨N,hN⟩:=J (w1.heap.size);have p1:Nd W1 N x 0 0 0 0 K:=(by rw[D0,hN];exact Nd.new _ _ _ _ _ _ _ _);have j2:w.heap.size<N:=(by omega);have M1:Y (Nd W1 w.heap.size 0 0 0 0 0 K):=(by rw[D0];exact L1.grown (grownBy_alloc _ _ none) (by simp));rw[<-hN];have N1:Y (Mv w W1 b):=(by rw[D0];exact n1.alloc hlb _);have r1:Y (Dr W1 b ao cap s (p+1)):=(by rw[D0];exact J0.move ((Mv.refl w1 b).alloc J0.lt _) (by rw[cell?_alloc_past _ _ _ J0.lt];exact J0.c1) (by omega));have O1:=Z p1;have n0:=p1.c0;clear D0 hN p1 J0;refine(zx3 _ _ _).mono ?_;rintro e w' ⟨rfl,rfl⟩
   go_wp2_with fail
   go_quiet (fail)
   go_wp2_with fail
   obtain⟨W2,E0⟩:=J (w'.drewN nq);rw[<-E0];have s1:Y (Mv w W2 b):=(by rw[E0];exact N1.drewN _);have P1:Y (Dr W2 b ao cap s (p+1)):=(by rw[E0];exact r1.move ((Mv.refl w' b).drewN _) r1.c1 (by omega));have Q1:Y (Nd W2 N x 0 0 0 0 K):=(by rw[E0];exact O1.drewN _);have R1:Y (Nd W2 w.heap.size 0 0 0 0 0 K):=(by rw[E0];exact M1.drewN _);clear n0 E0 N1 r1 O1 M1 L1 n1 G1 m1 X0 I1;refine(zsx P1).mono ?_;rintro e w2 ⟨K0,f0,aS⟩
   by_cases hv:(num s (p+1)).2.1<0
   ·obtain rfl:=f0 hv
    exact⟨rfl,Uu (yy6 x0 HX z0 hv) (s1.trans K0)⟩
   obtain⟨rfl,Y0⟩:=aS hv;obtain⟨v,q,g0,B2,t1,k2⟩:=zty s (p+1) (by omega) hv;rw[g0]at Y0⊢;simp only at Y0⊢;have l0:=Z g0;have L0:Y (Mv w w2 b):=s1.trans K0;have p0:b≠N:=(by omega);have Z0:=Q1.grown K0.g (by simpa using λh=>p0 h.symm);have a1:Y (Nd w2 w.heap.size 0 0 0 0 0 K):=R1.grown K0.g (by simp;omega);have k1:=Z0.c1;have kf:=Z0.f;have M0:=Z Z0;have b1:=Z Y0;clear hv f0 aS g0 Y0 Z0 K0
   go_wp2_with fail
   obtain⟨W3,N0⟩:=J (w2.setCell (O N 1) (I (v:Int)));rw[<-N0];have g3:w2.grownBy W3 (some N):=(by rw[N0];exact Yb _ _ _ _);have A0:Y (Mv w W3 b):=(by rw[N0];exact L0.eI hlb (by omega) _ _);have F0:Y (Nd W3 N x v 0 0 0 K):=(by rw[N0];exact M0.nO _);have O0:Y (Nd W3 w.heap.size 0 0 0 0 0 K):=a1.grown g3 (by simp;omega);have S1:Y (W3.cell? (O b 1)=some (I (q:Int))):=g3.cell b1 (by simpa using p0);have l2:=F0.lt;clear N0 g3 L0 M0 a1 b1 k1 kf P1 Q1 R1 s1;have r0:=(HR.move A0 (by omega)) x z0;refine(ynw b (2+x*4) N (Vf x) W3 (ypy x) (A0.lt hlb) r0.1).mono ?_;rintro e w3 ⟨rfl,u1⟩;have HL:Y (zz3 s q (Vf x) w w3 b N W3.heap.size x v 0 q []):=by
    have g4:W3.grownBy w3 none:=(by rw[u1];exact⟨rfl,rfl,rfl,by simp,λk hk _=>Below.heap_alloc _ _ _ hk⟩);refine⟨⟨by omega,t1,rfl,rfl⟩,A0.dY g4 hlb (λk e=>by cases e),g4.cell S1 (by simp),F0.grown g4 (by simp),O0.grown g4 (by simp),?_,?_,?_,j2,l2⟩
    all_goals (rw[u1];simp)
   obtain⟨PB,T1⟩:=J (W3.heap.size);rw[<-T1]at HL⊢;have m2:=ypy x;obtain⟨f,hf⟩:=J (Vf x);rw[<-hf]at HL m2⊢;have HF:=Z hf;clear T1 u1 A0 F0 O0 S1 r0 hf
   go_wp2_with fail
   go_loopw [36] (λi wr=>∃(j q':Nat) (xs:Is),i=I j/\zz3 s q f w wr b N PB x v j q' xs) (λi _=>f - (intOf i).toNat)
   case atStart=>exact⟨0,q,[],rfl,HL⟩
   case round=>
    clear HL;obtain⟨j,q',xs,rfl,hl⟩:=hrel;have HL:=Z hl;have C2:=hl.hn.1;clear hl;have f1:Y (Dr wr b ao cap s q'):=HD.move HL.hm HL.hc HL.hn.2.1
    by_cases P0:j<f
    ·have s0:x≠7:=λh=>by have:=HF.out;rw[h]at this;have h0:Vf 7=0:=rfl;omega
     have D2:=HL.ptr (show j<3 by omega)
     by_cases hv:(num s q').2.1<0
     ·go_wp2_with (go_at_call 104;refine(zsx f1).mono ?_;rintro e w4 ⟨i0,f0,_⟩;obtain rfl:=f0 hv)
      refine⟨rfl,Uu ?_ (HL.hm.trans i0)⟩;rw[zbv x0 HX z0 s0 l0.out,<-HF.out];have:=HL.hn.dP P0 (v:=(num s q').1) (m:=(num s q').2.1) (b:=(num s q').2.2) rfl hv;rw[this];rfl
     obtain⟨y,m,g0,_,_,_⟩:=zty s q' HL.hn.2.1 hv;have v1:=Z g0;have n2:Y (E 104 #[F b,I 0,I 2147483647] wr λe w'=>zv2 ((y:Int),(m:Int),0) b wr e w'):=(by rw[<-g0];exact zsx f1);clear hv g0
     go_wp2_with (go_at_call 104;refine(n2.out).mono ?_;rintro e w4 ⟨i0,_,aS⟩;obtain⟨rfl,G0⟩:=aS (by simp only;omega);have kj:=i0.g.cell (HL.cell (show j<3 by omega)) (by simpa using λh=>p0 h.symm);have kf:∀o,w4.frozen? (O N o)=false:=(HL.nd.grown i0.g (by simpa using λh=>p0 h.symm)).f)
     go_roundw
     case rel=>exact⟨j+1,m,xs++[(y:Int)],by go_num,HL.next hlb P0 (by omega) v1 i0 G0⟩
     case measure=>simp[intOf];omega
    have hjf':j=f:=(by omega);have t0:bW s q f=(xs,(q':Int),0):=by
     have:=HL.hn.2.2.2;rw[this,hjf',Nat.sub_self];rfl
    have U1:=Z t0;have r0:=(HR.move HL.hm (by omega)) x z0;have g1:=r0.2.1;clear t0 hjf'
    by_cases s0:x=7
    ·have b7:(x==7)=true:=beq_iff_eq.2 s0
     rw[b7]at g1;have x1:=Z s0;have h3:=r0.2.2;have i1:=Z h3;have V1:f=0:=(by have:=HF.out;rw[s0]at this;exact this);have o2:q'=q/\xs=[]:=by
      have h1:=U1.out;rw[V1]at h1;have h2:bW s q 0=([],(q:Int),0):=rfl;rw[h2]at h1;simp only[Prod.mk.injEq]at h1;exact⟨by omega,h1.1.symm⟩
     obtain⟨rfl,rfl⟩:=o2;have X1:Y (E 104 #[F b,I 0,I 16] wr λe w'=>zv2 (dH s q' 0 16) b wr e w'):=zt5 f1 0 16 (by omega) (by omega);have Q0:Y (Nd wr N x v 0 0 0 K):=HL.nd;clear r0 h3 s0 V1
     go_wp2_with fail
     refine(X1.out).mono ?_;rintro e w4 ⟨i0,f0,aS⟩
     by_cases R0:(dH s q' 0 16).2.1<0
     ·obtain rfl:=f0 R0
      exact⟨rfl,Uu (yw9 x0 (by rw[<-HX.out,x1.out]) l0 R0 t1) (HL.hm.trans i0)⟩
     obtain⟨rfl,G0⟩:=aS R0;obtain⟨m,q2,hnb,Y1,E2,S0,_,p2⟩:=zov s q' 0 16 t1 R0;rw[hnb]at G0⊢;simp only at G0⊢;have v1:=Z Y1;have L0:Y (Mv w w4 b):=HL.hm.trans i0;have b1:Y (Dr w4 b ao cap s q2):=f1.move i0 G0 S0;have M0:Y (Nd w4 N x v 0 0 0 K):=Q0.grown i0.g (by simpa using λh=>p0 h.symm);have a1:Y (Nd w4 w.heap.size 0 0 0 0 0 K):=HL.rs.grown i0.g (by simp;omega);have hm16':m<=16:=(by omega);have y1:Y (w4.cell? (O b (2+x*4+3))=some (.func (.func (byF x)) #[] #[])):=(i0.o _ (by omega)).trans i1.out;clear f0 aS R0 hnb Y1 G0 i0 g1 i1 Q0 X1
     go_wp2_with fail
     refine(zl2 b1 m (by omega)).mono ?_;rintro e w5 ⟨H0,f0,aS⟩;have a0:=yh0 (k:=k) x0 (by rw[<-HX.out,x1.out]) l0 v1 hm16'
     by_cases T0:(bW s q2 m).2.1<0
     ·obtain rfl:=f0 T0
      rw[G T0]at a0;exact⟨rfl,Uu a0 (L0.trans H0)⟩
     obtain⟨lv,rfl,j0,j1⟩:=aS T0;rw[U T0]at a0;have z1:=ey s q2 m S0;obtain⟨ls,q3,Z1⟩:∃(ls:Is) (q3:Nat),bW s q2 m=(ls,(q3:Int),(bW s q2 m).2.2):=⟨(bW s q2 m).1,(bW s q2 m).2.1.toNat,by rw[Int.toNat_of_nonneg (by omega)]⟩;rw[Z1]at a0 j0 j1;simp only at a0 j0 j1;obtain⟨lao,lcap,rfl⟩:=Yh j0;have k0:Y (one s p k=bt p k ⟨x,v,0,0,0,ls⟩ (q3:Int)):=(by show _=_;rw[a0,x1.out];rfl);have r2:=M0.lt
     have u0:∀bb,(A lao ls.length lcap).ownBlock=some bb->N<bb:=λbb h=>by have:=(j0.lt bb h).1;omega
     have m0:=M0.grown H0.g (by simpa using λh=>p0 h.symm);have k5:=m0.c5;have kf:=m0.f;have F0:=Z m0;have O0:Y (Nd w5 w.heap.size 0 0 0 0 0 K):=a1.grown H0.g (by simp;omega);have HM5':Y (Mv w w5 b):=L0.trans H0;have a2:Y (Zw w5.heap.size w5 (A lao ls.length lcap) ls):=Zw.dp j0;have HD5':Y (w5.cell? (O b 1)=some (I (q3:Int))):=j1;have U0:Y (w5.cell? (O b (2+x*4+3))=some (.func (.func (byF x)) #[] #[])):=(H0.o _ (by omega)).trans y1.out;have b2:=Z u0;clear a0 z1 Z1 j0 j1 m0 H0 f0 aS T0 u0
     go_wp2_with fail
     obtain⟨W6,I0⟩:=J (w5.setCell (O N 5) (A lao ls.length lcap));rw[<-I0];have g6:w5.grownBy W6 (some N):=(by rw[I0];exact Yb _ _ _ _);have A1:Y (Mv w W6 b):=(by rw[I0];exact HM5'.eI hlb (by omega) _ _);have B1:Y (Nd W6 N x v 0 0 0 (A lao ls.length lcap)):=(by rw[I0];exact F0.mJ _);have c2:Y (Nd W6 w.heap.size 0 0 0 0 0 K):=O0.grown g6 (by simp;omega);have f2:Y (W6.cell? (O b 1)=some (I (q3:Int))):=g6.cell HD5' (by simpa using p0);have C1:Y (Zw W6.heap.size W6 (A lao ls.length lcap) ls):=(by rw[I0];exact Xf a2 (λ_ h=>by have h9:N<N:=b2 N h;omega));have V0:Y (W6.cell? (O b (2+x*4+3))=some (.func (.func (byF x)) #[] #[])):=g6.cell U0 (by simpa using p0);clear I0 g6 k5 kf HM5' F0 O0 HD5' a2 U0;refine(zr8 b (2+x*4) (byF x) k (F N) (prem ⟨x,v,0,0,0,ls⟩) W6 V0 (zow x _ _) (zf6 (B1.gq C1))).mono ?_;rintro e w7 ⟨rfl,o0⟩;have g2:Y (Mv w w7 b):=A1.fy o0 hlb;have s2:Y (w7.cell? (O b 1)=some (I (q3:Int))):=cT o0 (A1.lt hlb) f2.out;have g7:W6.grownBy w7 none:=⟨o0.os,o0.tape,o0.output,o0.size,λk hk _=>o0.block k hk⟩;have t2:Y (Zw w7.heap.size w7 (A lao ls.length lcap) ls):=Jx C1 o0;have u2:=B1.grown g7 (by simp);have v2:=c2.grown g7 (by simp);obtain⟨e0,e1,e2,e3,e4,e5,_⟩:=u2;obtain⟨d0,d1,d2,d3,d4,d5,df⟩:=v2;obtain⟨q0,q1,q2',q3',q4,q5⟩:=zu7 (w1:=w7) (B:=w.heap.size) (I x) (I v) (I 0) (I 0) (I 0) (A lao ls.length lcap) d0 d1 d2 d3 d4 d5;clear o0 g7 A1 B1 c2 f2 C1 V0
     by_cases b0:(prem ⟨x,v,0,0,0,ls⟩).any (λy=>decide ((k:Int)<=y))=true
     ·rw[b0]
      have B0:Y (one s p k=(fE,-1,(p:Int))):=k0.trans (zf7 b0)
      go_wp2_with fail
      refine(Vp _ _ _).mono ?_;rintro e w6 ⟨rfl,D1⟩;exact⟨rfl,Uu B0 (g2.fy D1 hlb)⟩
     have hany':(prem ⟨x,v,0,0,0,ls⟩).any (λy=>decide ((k:Int)<=y))=false:=(by simpa using b0);rw[hany'];have B0:Y (one s p k=(⟨x,v,0,0,0,ls⟩,(q3:Int),0)):=k0.trans (zjx hany')
     go_wp2_with fail
     refine(zx3 _ _ _).mono ?_;rintro e w6 ⟨rfl,rfl⟩;go_wp2;exact bodyPost_ret (v:=.agg #[I x,I v,I 0,I 0,I 0,A lao ls.length lcap]) (by simp[results,results105,go_sem,q0,q1,q2',q3',q4,q5]) rfl (zl6 B0 g2 hlb rfl s2 t2 (λbb h=>by have:=b2 bb h;omega))
    have b7:(x==7)=false:=beq_eq_false_iff_ne.2 s0;rw[b7]at g1;have h3:=r0.2.2;have i1:=Z h3
    go_wp2_with fail
    have HI:Y (Zw wr.heap.size wr K ([]:Is)):=Zw.nil _ _;refine(zr8 b (2+x*4) (byF x) k (F N) (prem ⟨x,v,xs.getD 0 0,xs.getD 1 0,xs.getD 2 0,[]⟩) wr i1 (zow x _ _) (zf6 (HL.nd.gq HI))).mono ?_;rintro e w5 ⟨rfl,v0⟩;have A0:Y (Mv w w5 b):=HL.hm.fy v0 hlb;have k0:Y (one s p k=bt p k ⟨x,v,xs.getD 0 0,xs.getD 1 0,xs.getD 2 0,[]⟩ (q':Int)):=by
     show _=_;rw[zbv x0 HX z0 s0 l0.out,<-HF.out,U1.out,U (by simp only;omega)]
    have x2:Y (w5.cell? (O b 1)=some (I (q':Int))):=cT v0 (HL.hm.lt hlb) HL.hc;have g5:wr.grownBy w5 none:=⟨v0.os,v0.tape,v0.output,v0.size,λk hk _=>v0.block k hk⟩;have y2:=HL.nd.grown g5 (by simp);have z2:=HL.rs.grown g5 (by simp);obtain⟨e0,e1,e2,e3,e4,e5,_⟩:=y2;obtain⟨d0,d1,d2,d3,d4,d5,df⟩:=z2;obtain⟨q0,q1,q2,q3,q4,q5⟩:=zu7 (w1:=w5) (B:=w.heap.size) (I x) (I v) (I (xs.getD 0 0)) (I (xs.getD 1 0)) (I (xs.getD 2 0)) K d0 d1 d2 d3 d4 d5
    by_cases b0:(prem ⟨x,v,xs.getD 0 0,xs.getD 1 0,xs.getD 2 0,[]⟩).any (λy=>decide ((k:Int)<=y))=true
    ·rw[b0]
     have B0:Y (one s p k=(fE,-1,(p:Int))):=k0.trans (zf7 b0)
     go_wp2_with fail
     refine(Vp _ _ _).mono ?_;rintro e w6 ⟨rfl,D1⟩;exact⟨rfl,Uu B0 (A0.fy D1 hlb)⟩
    have hany':(prem ⟨x,v,xs.getD 0 0,xs.getD 1 0,xs.getD 2 0,[]⟩).any (λy=>decide ((k:Int)<=y))=false:=(by simpa using b0);rw[hany'];have B0:Y (one s p k=(⟨x,v,xs.getD 0 0,xs.getD 1 0,xs.getD 2 0,[]⟩,(q':Int),0)):=k0.trans (zjx hany')
    go_wp2_with fail
    refine(zx3 _ _ _).mono ?_;rintro e w6 ⟨rfl,rfl⟩;generalize xs.getD 0 0=xa at*;generalize xs.getD 1 0=xb at*;generalize xs.getD 2 0=xc at*;go_wp2;exact bodyPost_ret (v:=.agg #[I x,I v,I xa,I xb,I xc,K]) (by simp[results,results105,go_sem,q0,q1,q2,q3,q4,q5]) rfl (zl6 B0 A0 hlb rfl x2 (Zw.nil _ _) (λbb h=>by simp[ownBlock]at h))
  have i2:decide ((x:Int)<8)=false:=decide_eq_false (by omega);have o1:decide (x<8)=false:=decide_eq_false z0
  go_wp2_with fail
  refine(Vp _ _ _).mono ?_;rintro e w' ⟨rfl,hb⟩;refine⟨rfl,Uu ?_ ((n1.alloc hlb _).fy hb hlb)⟩;unfold one;rw[U (by omega)];simp only[<-HX.out];rw[G (by unfold aP;repeat' split<;>omega)]
 refine(ziz X0 x0).mono ?_;rintro e w1 ⟨rfl,y0⟩;refine⟨rfl,Uu ?_ (m1.trans y0)⟩
 have:p=s.length:=by omega
 unfold one;rw[G this,this]
def Um(nd:Fl.ar):List Value:=[.int .i64 nd.kind,.int .i64 nd.ak,.int .i64 nd.a,.int .i64 nd.b,.int .i64 nd.c,.int .i64 nd.ae.length]
def zvv(nd:Fl.ar):List Value:=Um nd++replicate 16 (int .i64 0)
def Xz(nd:Fl.ar):List Value:=Um nd++(nd.ae.map (int .i64)++replicate (16 - nd.ae.length) (int .i64 0))
def zu0(nd:Fl.ar)(h:nd.ae.length<=16):(Xz nd).length=22:=by simp[Xz,Um];omega
def ywx(nd:Fl.ar):(Xz nd).toArray.all (·.oneCell')=true:=by
 rw[all_toArray,all_eq_true];intro x hx;simp only[Xz,Um,mem_append,mem_cons,mem_map,mem_replicate,not_mem_nil,or_false]at hx;rcases hx with(rfl|rfl|rfl|rfl|rfl|rfl)|⟨y,_,rfl⟩|⟨_,rfl⟩<;>rfl
def zc1(nd:Fl.ar):splice (zvv nd) 6 (nd.ae.map (int .i64))=Xz nd:=by
 unfold splice zvv Xz;have h6:(Um nd).length=6:=rfl;rw[take_left' h6,drop_append,drop_of_length_le (by rw[h6];simp),nil_append,drop_replicate,h6];simp
def Tryz.infoInt1:(Tryz.prog.info? 3).map (·.size)=some 1:=by kernel_rfl
def Tryz.infoContent:(Tryz.prog.info? 230).map (·.size)=some 22:=by kernel_rfl
def zm0{no:Nat}{nd:Fl.ar}(h:Ug w nb no nd lv)(u0:nd.ae.length<=16):
  Calls prog 124 #[.pointer (some ⟨nb,no,none⟩)] w λe w'=>e=.returned (.agg (Xz nd).toArray)/\Below w.heap.size w w':=by
 obtain⟨ao,cap,rfl,z0,hm,hx⟩:=id h.hl;have HX:=Z hx;clear hx;unfold maxLen at hm;have i0:=Qe w _ h.c0;have H5:=Z h.c5
 have a0:∀o,(w.alloc o).cell? ⟨nb,no,none⟩=some (.int .i64 nd.kind):=λo=>by rw[cell?_alloc_past _ _ _ i0];exact h.c0
 have a1:∀o,(w.alloc o).cell? ⟨nb,no+1,none⟩=some (.int .i64 nd.ak):=λo=>by rw[cell?_alloc_past _ _ _ i0];exact h.c1
 have a2:∀o,(w.alloc o).cell? ⟨nb,no+2,none⟩=some (.int .i64 nd.a):=λo=>by rw[cell?_alloc_past _ _ _ i0];exact h.c2
 have a3:∀o,(w.alloc o).cell? ⟨nb,no+3,none⟩=some (.int .i64 nd.b):=λo=>by rw[cell?_alloc_past _ _ _ i0];exact h.c3
 have a4:∀o,(w.alloc o).cell? ⟨nb,no+4,none⟩=some (.int .i64 nd.c):=λo=>by rw[cell?_alloc_past _ _ _ i0];exact h.c4
 have a5:∀o,(w.alloc o).cell? ⟨nb,no+5,none⟩=some (.slice ao nd.ae.length cap):=λo=>by rw[cell?_alloc_past _ _ _ i0];exact h.c5
 clear h
 go_enter func124,ntmps124
 go_wp2_with fail
 obtain⟨W0,e0⟩:=J (w.alloc (.cells #[.int .i64 0,.int .i64 0,.int .i64 0,.int .i64 0,.int .i64 0,.int .i64 0,.int .i64 0,.int .i64 0,.int .i64 0,.int .i64 0,.int .i64 0,.int .i64 0,.int .i64 0,.int .i64 0,.int .i64 0,.int .i64 0,.int .i64 0,.int .i64 0,.int .i64 0,.int .i64 0,.int .i64 0,.int .i64 0] 230));rw[<-e0]
 have d0:nb<W0.heap.size:=by rw[e0];simp;omega
 have b0:W0.cell? ⟨nb,no,none⟩=some (.int .i64 nd.kind):=by rw[e0];exact a0 _
 have b1:W0.cell? ⟨nb,no+1,none⟩=some (.int .i64 nd.ak):=by rw[e0];exact a1 _
 have b2:W0.cell? ⟨nb,no+2,none⟩=some (.int .i64 nd.a):=by rw[e0];exact a2 _
 have b3:W0.cell? ⟨nb,no+3,none⟩=some (.int .i64 nd.b):=by rw[e0];exact a3 _
 have b4:W0.cell? ⟨nb,no+4,none⟩=some (.int .i64 nd.c):=by rw[e0];exact a4 _
 have b5:W0.cell? ⟨nb,no+5,none⟩=some (.slice ao nd.ae.length cap):=by rw[e0];exact a5 _
 have p0:=Z e0;clear e0 a0 a1 a2 a3 a4 a5;obtain⟨S,hS⟩:=J (α:=World->Prop) (λw'=>w'.cell? ⟨nb,no,none⟩=some (.int .i64 nd.kind)/\w'.cell? ⟨nb,no+1,none⟩=some (.int .i64 nd.ak)/\w'.cell? ⟨nb,no+2,none⟩=some (.int .i64 nd.a)/\w'.cell? ⟨nb,no+3,none⟩=some (.int .i64 nd.b)/\w'.cell? ⟨nb,no+4,none⟩=some (.int .i64 nd.c)/\w'.cell? ⟨nb,no+5,none⟩=some (.slice ao nd.ae.length cap))
 have HS:Y (∀w',S w'->w'.cell? ⟨nb,no,none⟩=some (.int .i64 nd.kind)/\w'.cell? ⟨nb,no+1,none⟩=some (.int .i64 nd.ak)/\w'.cell? ⟨nb,no+2,none⟩=some (.int .i64 nd.a)/\w'.cell? ⟨nb,no+3,none⟩=some (.int .i64 nd.b)/\w'.cell? ⟨nb,no+4,none⟩=some (.int .i64 nd.c)/\w'.cell? ⟨nb,no+5,none⟩=some (.slice ao nd.ae.length cap)):=λw' h=>by rw[hS]at h;exact h
 have q0:Y (∀o,S (W0.drew.alloc o)):=λo=>by
  have d0:=d0;rw[hS];exact⟨(cell?_alloc_past _ _ _ d0).trans b0,(cell?_alloc_past _ _ _ d0).trans b1,(cell?_alloc_past _ _ _ d0).trans b2,(cell?_alloc_past _ _ _ d0).trans b3,(cell?_alloc_past _ _ _ d0).trans b4,(cell?_alloc_past _ _ _ d0).trans b5⟩
 refine zg8 (S:=S) 26 (by kernel_rfl) (by kernel_rfl) rfl (λc a d v w h=>by cases d<;>exact h) _ _ rfl rfl rfl rfl (by rw[hS];exact⟨b0,b1,b2,b3,b4,b5⟩) ?_;clear hS;simp only[take_succ_cons,take_zero];refine Jt (λWz HL=>?_)
 repeat refine Ju rfl (kE (by intro w' hw;obtain⟨s0,s1,s2,s3,s4,s5⟩:=HS w' hw;go_simp<;>rfl) (by go_simp<;>rfl) ?_)
 refine HL _ ⟨.pointer (some ⟨W0.drew.heap.size,0,none⟩),W0.drew.alloc (.cells #[.int .i64 0,.int .i64 0,.int .i64 0,.int .i64 0,.int .i64 0,.int .i64 0,.int .i64 0,.int .i64 0,.int .i64 0,.int .i64 0,.int .i64 0,.int .i64 0,.int .i64 0,.int .i64 0,.int .i64 0,.int .i64 0,.int .i64 0,.int .i64 0,.int .i64 0,.int .i64 0,.int .i64 0,.int .i64 0] 230),W0.drew.alloc (.cells #[.int .i64 nd.kind,.int .i64 nd.ak,.int .i64 nd.a,.int .i64 nd.b,.int .i64 nd.c,.int .i64 nd.ae.length,.int .i64 0,.int .i64 0,.int .i64 0,.int .i64 0,.int .i64 0,.int .i64 0,.int .i64 0,.int .i64 0,.int .i64 0,.int .i64 0,.int .i64 0,.int .i64 0,.int .i64 0,.int .i64 0,.int .i64 0,.int .i64 0] 230),by kernel_rfl,q0 _,zd8 _ _ 230 rfl _ _ _ rfl rfl Tryz.infoContent rfl (by kernel_rfl),q0 _,?_⟩;clear HL;obtain⟨W1,l0⟩:=J (W0.drew.alloc (.cells #[.int .i64 nd.kind,.int .i64 nd.ak,.int .i64 nd.a,.int .i64 nd.b,.int .i64 nd.c,.int .i64 nd.ae.length,.int .i64 0,.int .i64 0,.int .i64 0,.int .i64 0,.int .i64 0,.int .i64 0,.int .i64 0,.int .i64 0,.int .i64 0,.int .i64 0,.int .i64 0,.int .i64 0,.int .i64 0,.int .i64 0,.int .i64 0,.int .i64 0] 230));rw[<-l0]
 have hC:W0.drew.heap.size=w.heap.size+1:=by rw[p0.out];simp
 rw[hC]
 have m0:W1.heap[w.heap.size+1]?=some (.cells (zvv nd).toArray 230 (0,0)):=by rw[l0,<-hC];exact heap_alloc_last _ _
 have f0:W1.heap[w.heap.size]?=some (.cells (replicate 22 (int .i64 0)).toArray 230 (0,0)):=by
  rw[l0,Below.heap_alloc _ _ _ (by rw[hC];omega)];show W0.heap[w.heap.size]?=_;rw[p0.out];exact heap_alloc_last _ _
 have j0:Below w.heap.size w W1:=by
  rw[l0];refine Below.alloc ?_ (by rw[hC];omega) _;rw[p0.out];exact(bA).drew
 have k5:=(j0.cell (p:=⟨nb,no+5,none⟩) i0).trans H5.out;have n0:=Z m0;have g0:=Z f0;have k0:=Z j0;clear l0 m0 f0 j0 hC b0 b1 b2 b3 b4 b5 HS q0 p0 d0
 go_wp2_with fail
 go_still_tail 6,(by kernel_rfl)
 refine wpList_copy_splice rfl (.tmp 31) (.tmp 35) 27 27 rfl 3 underlying27 Tryz.infoInt1 _ _ _ _ _ _ rfl rfl (w.heap.size+1) 6 (zvv nd) 230 n0 (nd.ae.map (int .i64)) ?hn ?hpos ?hfit ?h1 (w.heap.size+1) W1 ?hb ?hBg ?_
 case hn=>simp only[length_map];show nd.ae.length=min nd.ae.length 16;omega
 case hpos=>
  intro hpos;refine⟨rfl,?_⟩;obtain⟨bb,off,A0,B0,o0⟩:=HX (by intro h0;rw[h0]at hpos;simp at hpos);refine⟨_,A0,λj u hj=>?_⟩;have hj':j<nd.ae.length:=(by have:=(List.getElem?_eq_some_iff.1 hj).1;simpa using this)
  have h2:(⟨bb,off,none⟩:Addr).add j=⟨bb,off+j,none⟩:=by unfold Addr.add;split<;>simp_all
  rw[h2];have h3:W1.cell? ⟨bb,off+j,none⟩=some u:=by
   rw[k0.cell B0,o0 j hj'];rw[getElem?_map,Qb hj']at hj;simp only[Option.map_some,Option.some.injEq]at hj;rw[<-hj,Qa,Qb hj'];rfl
  exact h3
 case hfit=>simp only[zvv,Um,length_append,length_map,length_replicate,length_cons,length_nil];omega
 case h1=>intro u hu;obtain⟨y,_,rfl⟩:=mem_map.1 hu;rfl
 case hb=>exact(Below.refl _ _).drew
 case hBg=>omega
 intro w2 v0 r0
 have hg2':w2.heap[w.heap.size+1]?=some (.cells (Xz nd).toArray 230 (0,0)):=by rw[v0.out,zc1]
 have x0:=(r0.block _ (by omega)).trans g0.out;have HG:=Z hg2';have y0:=Z x0;have C0:=Z (k0.trans (r0.mono (by omega)));have HI:Y ((prog.info? 230).map (·.size)=some (Xz nd).toArray.size):=by
  show _=_;rw[Tryz.infoContent];simp only[size_toArray,zu0 nd u0]
 clear v0 hg2' x0 r0 n0 g0 k0 HX H5 k5;generalize hcl:(Xz nd).toArray=cl at*
 have t0:Y (cl.all (·.oneCell')=true):=by show _=_;rw[<-hcl];exact ywx nd
 have D0:Y ((replicate 22 (int .i64 0)).toArray.size=cl.size):=by show _=_;rw[<-hcl];simp only[size_toArray,length_replicate,zu0 nd u0]
 have E0:=Z hcl;clear hcl
 go_wp2_with (first|(refine zq4 rfl _ 230 rfl _ rfl cl _ _ HG _ underlying230 rfl HI ?_)|(refine zw8 rfl _ _ 230 rfl _ rfl _ cl rfl _ y0 HI D0 t0 ?_))
 refine bodyPost_ret ?_ rfl ⟨by rw[E0.out],below_setRow C0 (Nat.le_refl _) _⟩;exact znv results124 _ _ ⟨w.heap.size,0,none⟩ _ rfl (run_loadVar_row _ _ _ _ cl _ _ (setRow_heap _ _ _ _ _ _ y0) underlying230 rfl HI)
section
open Go.Maps Go.WideMaps
def Tryz.laidOut:laidOutB Tryz.prog=true:=by kernel_rfl
def ym2:(230:TypeId)<prog.types.size:=of_decide_eq_true (by kernel_rfl)
def yr5:(match prog.underlying 230 with|some (.array _ _)|some (.struct _)=>true|_=>false)=true:=by rw[underlying230]
def zsw:Keyed prog 230:=Keyed.of_law (deep_law_laid Tryz.laidOut (m:=4) (by omega) ym2 (by kernel_rfl) yr5)
def zc2{α β:Type}{f:α->Option β}:∀(l:List α),(∀x∈l,∃y,f x=some y)->∃ys,l.mapM f=some ys
 |[],_=>⟨[],rfl⟩
 |x::l,h=>by
  obtain⟨y,hy⟩:=h x (by simp);obtain⟨ys,a0⟩:=zc2 l (λz hz=>h z (by simp[hz]));exact⟨y::ys,by simp[mapM_cons,hy,a0]⟩
def map_ex{α:Type}{f:α->Option (List Lit)}{l:List α}(h:∃ys,l.mapM f=some ys):∃y,Option.map flatten (l.mapM f)=some y:=by
 obtain⟨ys,a0⟩:=h;exact⟨ys.flatten,by rw[a0];rfl⟩
def yww{l:List Value}(h:i<l.length):(l.drop i).take 1=[l[i]]:=by
 rw[drop_eq_getElem_cons h];rfl
def zf8(cs:List Value):Prop:=∀v∈cs,∃x:Int,v=.int .i64 x/\(Lit.int .i64 x).wf=true
def yh2(d:Nat)(h:∃x:Int,v=.int .i64 x/\(Lit.int .i64 x).wf=true):∃y,prog.keyLits (d+1) 3 [v]=some y:=by
 obtain⟨x,rfl,hw⟩:=h;exact⟨[.int .i64 x],by simp[Program.keyLits,underlying3,hw]⟩
def ywv:prog.cellsOf 3=1:=by kernel_rfl
def yv0:prog.cellsOf 228=16:=by kernel_rfl
def zl7:prog.cellsOf 230=22:=by kernel_rfl
def keyArr(d:Nat)(hl:cs.length=16)(h:zf8 cs):∃y,prog.keyLits (d+2) 228 cs=some y:=by
 have hm:∃ys,(range 16).mapM (λi=>prog.keyLits (d+1) 3 ((cs.drop (i*prog.cellsOf 3)).take (prog.cellsOf 3)))=some ys:=by
  refine zc2 _ (λi hi=>?_);rw[ywv,Nat.mul_one,yww (by simp at hi;omega)];exact yh2 d (h _ (getElem_mem _))
 obtain⟨ys,a0⟩:=hm;refine⟨ys.flatten,?_⟩;unfold Program.keyLits;simp only[underlying228,yv0,hl,if_true,a0,Option.map_some]
def ym3(d:Nat)(hl:cs.length=22)(h:zf8 cs):∃y,prog.keyLits (d+3) 230 cs=some y:=by
 unfold Program.keyLits;simp only[underlying230,zl7,hl];rw[if_pos ⟨trivial,by kernel_rfl⟩]
 have q:∀i,i<6->∃y,prog.keyLits (d+2) 3 (take (prog.cellsOf 3) (drop i cs))=some y:=λi hi=>by
  rw[ywv,yww (by omega)];exact yh2 (d+1) (h _ (getElem_mem _))
 have qa:∃y,prog.keyLits (d+2) 228 (take (prog.cellsOf 228) (drop 6 cs))=some y:=by
  rw[yv0];exact keyArr d (by simp;omega) (λv hv=>h v (mem_of_mem_drop (mem_of_mem_take hv)))
 refine map_ex (zc2 _ (λf hf=>?_));simp only[mem_cons,not_mem_nil,or_false]at hf;rcases hf with rfl|rfl|rfl|rfl|rfl|rfl|rfl
 ·exact q 0 (by omega)
 ·exact q 1 (by omega)
 ·exact q 2 (by omega)
 ·exact q 3 (by omega)
 ·exact q 4 (by omega)
 ·exact q 5 (by omega)
 exact qa
def yh3:3<=prog.types.size+1:=of_decide_eq_true (by kernel_rfl)
def key_ex(hl:cs.length=22)(h:zf8 cs):∃kl,keyOf prog 230 (.agg cs.toArray)=some kl:=by
 obtain⟨d,hd⟩:∃d,prog.types.size+1=d+3:=⟨prog.types.size+1 - 3,by have:=yh3;omega⟩;obtain⟨y,hy⟩:=ym3 d hl h
 have hf:(agg cs.toArray).formed prog 230=true:=by simp[formed,underlying230,zl7,hl]
 have hk:prog.keyType 230=true:=by kernel_rfl
 refine⟨.string (keyBytes y),?_⟩;unfold keyOf;rw[underlying230];simp only[hf,hk,Bool.and_self,if_true,cells,hd,hy,Option.map_some]
namespace Fl
def fits(nd:ar):Prop:=cf nd.kind=true/\cf nd.ak=true/\cf nd.a=true/\cf nd.b=true/\cf nd.c=true/\nd.ae.length<=16/\nd.ae.all cf=true
end Fl
def zp8{x:Int}(h:Fl.cf x=true):(Lit.int .i64 x).wf=true:=by
 simp only[Fl.cf,Bool.and_eq_true,decide_eq_true_eq]at h;exact WalkArith.wf_i64 (by omega)
def yr6{nd:Fl.ar}(h:Fl.fits nd):zf8 (Xz nd):=by
 obtain⟨h0,h1,h2,h3,h4,h5,h6⟩:=h;intro v hv;simp only[Xz,Um,mem_append,mem_cons,mem_map,mem_replicate,not_mem_nil,or_false]at hv;rcases hv with(rfl|rfl|rfl|rfl|rfl|rfl)|⟨y,hy,rfl⟩|⟨_,rfl⟩
 ·exact⟨_,rfl,zp8 h0⟩
 ·exact⟨_,rfl,zp8 h1⟩
 ·exact⟨_,rfl,zp8 h2⟩
 ·exact⟨_,rfl,zp8 h3⟩
 ·exact⟨_,rfl,zp8 h4⟩
 ·exact⟨_,rfl,WalkArith.wf_i64 (by omega)⟩
 ·exact⟨_,rfl,zp8 (all_eq_true.1 h6 y hy)⟩
 exact⟨_,rfl,WalkArith.wf_i64 (by omega)⟩
def zq6(P:Program)(nd:Fl.ar):Lit:=(keyOf P 230 (.agg (Xz nd).toArray)).getD .nil
def zh2{nd:Fl.ar}(h:Fl.fits nd):keyOf prog 230 (.agg (Xz nd).toArray)=some (zq6 prog nd):=by
 obtain⟨kl,hk⟩:=key_ex (zu0 nd h.2.2.2.2.2.1) (yr6 h);unfold zq6;rw[hk];rfl
def yv1(h:Xz x=Xz y):x=y:=by
 unfold Xz at h;have h1:=append_inj_left h rfl;have h2:=append_inj_right h rfl;obtain⟨xk,xl,xa,xb,xc,xs⟩:=x;obtain⟨yk,yl,ya,yb,yc,ys⟩:=y;simp only[Um,List.cons.injEq,int.injEq,true_and,and_true]at h1;obtain⟨rfl,rfl,rfl,rfl,rfl,hn⟩:=h1
 have hn':xs.length=ys.length:=by omega
 have h3:=append_inj_left h2 (by simpa using hn');have h4:xs=ys:=by
  simp only at h3;exact(List.map_inj_right (λa b a0=>by injection a0)).1 h3
 rw[h4]
def yh4(hx:Fl.fits x)(hy:Fl.fits y)(h:zq6 prog x=zq6 prog y):x=y:=by
 have h1:=zh2 hx;rw[h]at h1;have:=zsw.inj h1 (zh2 hy);simp only[agg.injEq]at this;exact yv1 (by have:=congrArg Array.toList this;simpa using this)
def zn1(w:World)(T B:Nat)(db:List Fl.ar):Prop:=
 w.cell? ⟨T,0,none⟩=some (.map (some B))/\∃n Qy,n<=db.length/\w.ownsMap (H:=Unit) prog 230 (plainElem prog 3) B n Qy/\∀nd,Fl.fits nd->(Maps.has Qy (zq6 prog nd)=true ↔ nd∈db)
def zn1.kept{w w':World}{T B:Nat}{db:List Fl.ar}(h:zn1 w T B db){row:Option Nat}(g:w.grownBy w' row)(hT:some T≠row)(hB:some B≠row):zn1 w' T B db:=by
 obtain⟨h1,n,Qy,h2,h3,h4⟩:=h;exact⟨g.cell h1 hT,n,Qy,h2,h3.kept g hB,h4⟩
def zeroInt(w:World):(zeroValue 3).run prog w=.ok (.int .i64 0) w:=by kernel_rfl
def yv2(w:World):Calls prog 120 #[] w λe w'=>e=.returned (.pointer (some ⟨w.heap.size+1,0,none⟩))/\zn1 w' (w.heap.size+1) w.heap.size []/\Below w.heap.size w w'/\w'.heap.size=w.heap.size+2:=by
 have a0:= @run_makeMap prog
 go_enter func120,ntmps120
 go_wp2;go_ret;refine⟨rfl,⟨?_,0,.map [],Nat.le_refl _,(ownsMap_made w _ _ _).alloc _,λnd _=>?_⟩,?_,?_⟩
 ·simp
 ·simp[Maps.has]
 ·exact((bA).alloc (by simp) _)
 simp
def yv3{db:List Fl.ar}{nd:Fl.ar}(h:zn1 w T B db)(hf:Fl.fits nd)(hn:db.length<=1000000):
  Calls prog 123 #[.pointer (some ⟨T,0,none⟩),.agg (Xz nd).toArray] w λe w'=>∃(c:Int) (t:Bool),e=.returned (.tuple #[.int .i64 c,.bool (!t)])/\(t=true ↔ nd∈db)/\zn1 w' T B (nd::db)/\w.grownBy w' (some B):=by
 obtain⟨hT,n,Qy,C0,d0,hD⟩:=h;have i0:=zh2 hf;have HI:Y ((prog.info? 230).map (·.size)=some (Xz nd).toArray.size):=by
  show _=_;rw[Tryz.infoContent];simp only[size_toArray,zu0 nd hf.2.2.2.2.2.1]
 generalize hcl:(Xz nd).toArray=cl at*;have u0:T<w.heap.size:=Qe w _ hT;have v0:=d0.lt;have HK:Y (keyOf prog 230 (.agg cl)=some (zq6 prog nd)):=i0;have HO:Y (w.ownsMap (H:=Unit) prog 230 (plainElem prog 3) B n Qy):=d0;have k0:Y (∀nd,Fl.fits nd->(Maps.has Qy (zq6 prog nd)=true ↔ nd∈db)):=hD;have HT:Y (w.cell? ⟨T,0,none⟩=some (.map (some B))):=hT;clear i0 d0 hD hcl hT
 go_enter func123,ntmps123
 go_wp2_with fail
 obtain⟨W0,l0⟩:=J (w.alloc (.cells cl 230));rw[<-l0]
 have g0:w.grownBy W0 none:=by rw[l0];exact grownBy_alloc _ _ _
 have o0:W0.cell? ⟨T,0,none⟩=some (.map (some B)):=g0.cell HT (by simp);have a0:W0.ownsMap (H:=Unit) prog 230 (plainElem prog 3) B n Qy:=HO.kept g0 (by simp)
 have HX:Y (W0.heap[w.heap.size]?=some (.cells cl 230 (0,0))):=by show _=_;rw[l0];exact heap_alloc_last _ _
 have p0:Y (W0.ownsMap (H:=Unit) prog 230 (plainElem prog 3) B n Qy):=a0;have f0:Y (w.grownBy W0 none):=g0;obtain⟨v,ps,n0,hv⟩:=a0.drew.look_ok zsw underlying265 (zeroInt _) (zd:=.lit (.int .i64 0)) (zp:=[]) (plainElem_int underlying3 (by decide)) HK.out;obtain⟨c,rfl,hc,x0⟩:=plainElem_int_inv underlying3 hv;obtain⟨t,ht⟩:=J (Maps.has Qy (zq6 prog nd));rw[<-ht]at n0;have q0:Y ((Instr.lookup 265 (.map (some B)) (.agg cl) true).run prog W0.drew=.ok (.tuple #[.int .i64 c,.bool t]) W0.drew):=n0;have r0:Y (t=Maps.has Qy (zq6 prog nd)):=ht;clear l0 g0 a0 n0 hv hc x0 HO ht;refine wp_region_still_lit (by kernel_rfl) (by kernel_rfl) ?_
 iterate 4 still_step
 refine Vr rfl (.agg cl) (zs2 _ 230 rfl w.heap.size rfl cl _ _ HX _ underlying230 rfl HI) ?_;refine Vr rfl (.tuple #[.int .i64 c,.bool t]) (zzw _ _ 265 rfl (.map (some B)) (.agg cl) _ rfl rfl q0) ?_
 repeat still_step
 refine wpStill_nil ?_;have m0:W0.drew.cell? ⟨T,0,none⟩=some (.map (some B)):=o0;have b0:Y (w.grownBy W0.drew none):=⟨f0.os,f0.tape,f0.out.output,f0.size,f0.block⟩;have h0:Y (W0.drew.ownsMap (H:=Unit) prog 230 (plainElem prog 3) B n Qy):=p0.out;have s0:Y (W0.drew.heap[w.heap.size]?=some (.cells cl 230 (0,0))):=HX.out
 change Exit.then _ _ _ _ W0.drew
 generalize W0.drew=W1 at*;clear o0 f0 p0 HX q0
 cases t with
 |true=>
  have fg:nd∈db:=(k0 nd hf).1 r0.symm;have j0:Y (nd∈db):=fg;clear fg;go_wp2
  go_ret2
  refine⟨c,true,rfl,⟨λ_=>j0.out,λ_=>rfl⟩,⟨m0,n,Qy,by simp;omega,h0,λnd' hf'=>?_⟩,⟨b0.os,b0.tape,b0.out.output,b0.size,λk hk _=>b0.block k hk (by simp)⟩⟩;rw[k0 nd' hf',mem_cons];exact⟨λh=> .inr h,λh=>h.elim (λe=>by rw[e];exact j0) id⟩
 |false=>
  have dt:nd ∉ db:=λh=>by have:=(k0 nd hf).2 h;rw[<-r0.out]at this;cases this
  have y0:Y (nd ∉ db):=dt;have D0:=h0.size_le;clear dt
  go_wp2_with (at_len;refine wpList_len_own _ rfl _ 265 rfl 230 3 underlying265 _ B n Qy rfl h0 ?_)
  refine wp_region_still_tail 6 (by kernel_rfl) (by kernel_rfl) ?_;simp only[take_succ_cons,take_zero,drop_succ_cons,drop_zero]
  iterate 4 still_step
  refine Vr rfl (.agg cl) (zs2 _ 230 rfl w.heap.size rfl cl _ _ s0 _ underlying230 rfl HI) ?_
  still_step
  refine wpStill_nil ?_;have t0:Y (W1.drew.ownsMap (H:=Unit) prog 230 (plainElem prog 3) B n Qy):=h0.out;refine wpList_mapUpdate_own W1.drew rfl _ _ _ 265 rfl 230 3 zsw underlying265 _ B n Qy rfl t0 (by unfold maxLen;omega) _ _ _ rfl rfl HK _ [] (plainElem_int underlying3 (WalkArith.wf_i64 (by omega))) ?_;intro w2 c0 e0;have z0:Y (zn1 w2 T B (nd::db)):=by
   refine⟨?_,n+1,_,by simp;omega,c0,λnd' hf'=>?_⟩
   ·have kO:T≠B:=by
     intro e;obtain⟨es,clock,hb,_⟩:=h0.out;subst e;simp[cell?,hb]at m0
    exact e0.cell m0 (by simpa using kO)
   by_cases he:nd'=nd
   ·subst he
    rw[Maps.has_put_same h0.isMap (zsw.key HK)];simp
   rw[Maps.has_put_other (λh=>he (yh4 hf' hf h)),k0 nd' hf',mem_cons];exact⟨λh=> .inr h,λh=>h.elim (λe=>absurd e he) id⟩
  have A0:Y (w.grownBy w2 (some B)):=⟨e0.os.trans b0.os,e0.tape.trans b0.tape,e0.output.trans b0.out.output,Nat.le_trans b0.size e0.size,λk hk B0=>(e0.block k (Nat.lt_of_lt_of_le hk b0.size) B0).trans (b0.block k hk (by simp))⟩;clear c0 e0 t0 m0 s0;go_wp2
  go_ret2
  exact⟨_,false,rfl,⟨λh=>(by cases h),λh=>absurd h y0.out⟩,z0.out,A0.out⟩
def zq7(w:World)(T B:Nat)(ws:List Fl.ar):Prop:=
 w.cell? ⟨T,0,none⟩=some (.map (some B))/\∃n Qy,n<=ws.length/\w.ownsMap (H:=Unit) prog 230 (plainElem prog 3) B n Qy/\Maps.size Qy=ws.length/\(∀nd,Fl.fits nd->(Maps.has Qy (zq6 prog nd)=true ↔ nd∈ws))/\∀(i:Nat) (hi:i<ws.length),Fl.fits ws[i]/\∀z,Qy.atKey (zq6 prog ws[i]) z=.lit (.int .i64 (i:Int))
def zq7.kept{w w':World}{T B:Nat}{ws:List Fl.ar}(h:zq7 w T B ws){row:Option Nat}(g:w.grownBy w' row)(hT:some T≠row)(hB:some B≠row):zq7 w' T B ws:=by
 obtain⟨h1,n,Qy,h2,h3,h4⟩:=h;exact⟨g.cell h1 hT,n,Qy,h2,h3.kept g hB,h4⟩
end
def Tryz.infoNodeW:(Tryz.prog.info? 73).map (λi=>(i.zero,i.size,i.bytes))=some (some (.agg #[.int .i64 0,.int .i64 0,.int .i64 0,.int .i64 0,.int .i64 0,.slice none 0 0]),6,64):=by kernel_rfl
def Xk(w:World)(b:Nat):Prop:=∃cs,w.heap[b]?=some (.cells cs 3 (0,0))
def Xk.of(h:Xk w b)(e:w'.heap[b]?=w.heap[b]?):Xk w' b:=by
 obtain⟨cs,h1⟩:=h;exact⟨cs,e.trans h1⟩
def Xk.lt(h:Xk w b):b<w.heap.size:=by
 obtain⟨cs,h1⟩:=h;rcases Nat.lt_or_ge b w.heap.size with h|h
 ·exact h
 rw[Array.getElem?_eq_none h]at h1;cases h1
structure zz4(w0 w:World)(Xb T B Fb:Nat)(wv:Value)(acc:List Fl.ar)(lvs:List Value):Prop where
 x0:w0.heap.size<=B/\B<T/\T<Xb
 hz:Xb<w.heap.size
 c0:w.cell? ⟨Xb,0,none⟩=some (.pointer (some ⟨Fb,0,none⟩))
 c1:w.cell? ⟨Xb,1,none⟩=some wv
 c2:w.cell? ⟨Xb,2,none⟩=some (.pointer (some ⟨T,0,none⟩))
 fz:∀j,w.frozen? ⟨Xb,j,none⟩=false
 se:zq7 w T B acc
 hl:lvs.length=acc.length
 ow:w.ownsRow (Xb+1) 73 6 wv acc.length (flat acc lvs)
 li:∀p,p∈Yu acc lvs->Vw w p.1 p.2 (.slice none 0 0) wv/\(p.2≠[]->∀b,p.1.ownBlock=some b->Xb<b/\Xk w b)
 be:Below w0.heap.size w0 w
structure WrPre(w0 w:World)(Xb T B Fb:Nat)(wv:Value)(acc:List Fl.ar)(lvs:List Value):Prop where
 x0:w0.heap.size<=B/\B<T/\T<Xb
 hz:Xb<w.heap.size
 c0:w.cell? ⟨Xb,0,none⟩=some (.pointer (some ⟨Fb,0,none⟩))
 c1:w.cell? ⟨Xb,1,none⟩=some wv
 c2:w.cell? ⟨Xb,2,none⟩=some (.pointer (some ⟨T,0,none⟩))
 fz:∀j,w.frozen? ⟨Xb,j,none⟩=false
 hl:lvs.length=acc.length
 ow:w.ownsRow (Xb+1) 73 6 wv acc.length (flat acc lvs)
 li:∀p,p∈Yu acc lvs->Vw w p.1 p.2 (.slice none 0 0) wv/\(p.2≠[]->∀b,p.1.ownBlock=some b->Xb<b/\Xk w b)
 be:Below w0.heap.size w0 w
structure Yg(w w':World)(Xb B:Nat)(wv wv':Value):Prop where
 os:w'.os=w.os
 tp:w'.tape=w.tape
 ou:w'.output=w.output
 sz:w.heap.size<=w'.heap.size
 bl:∀c,c<w.heap.size->c≠Xb->c≠B->some c≠wv.ownBlock->w'.heap[c]?=w.heap[c]?
 ow:wv'.ownBlock=wv.ownBlock\/∃g,wv'.ownBlock=some g/\w.heap.size<=g
def Yg.aD(h:Below w.heap.size w w'):Yg w w' Xb B wv wv:=⟨h.os,h.tape,h.output,h.size,λc hc _ _ _=>h.block c hc,.inl rfl⟩
def Yg.trans{w w' w'':World}{Xb B:Nat}{wv wv' wv'':Value}(h:Yg w w' Xb B wv wv')(h':Yg w' w'' Xb B wv' wv''):Yg w w'' Xb B wv wv'':=by
 refine⟨h'.os.trans h.os,h'.tp.trans h.tp,h'.ou.trans h.ou,Nat.le_trans h.sz h'.sz,λc h1 h2 h3 h4=>?_,?_⟩
 ·refine(h'.bl c (Nat.lt_of_lt_of_le h1 h.sz) h2 h3 (λhh=>?_)).trans (h.bl c h1 h2 h3 h4)
  rcases h.ow with e|⟨g,e,hg⟩
  ·exact h4 (hh.trans e)
  rw[e]at hh;injection hh with hh;omega
 rcases h'.ow with e|⟨g,e,hg⟩
 ·rw[e];exact h.ow
 exact .inr ⟨g,e,Nat.le_trans h.sz hg⟩
def zz4.below{w0 w w':World}{Xb T B Fb:Nat}{wv:Value}{acc:List Fl.ar}{lvs:List Value}(h:zz4 w0 w Xb T B Fb wv acc lvs)(hb:Below w.heap.size w w'):zz4 w0 w' Xb T B Fb wv acc lvs:=by
 have og:w.grownBy w' none:=⟨hb.os,hb.tape,hb.output,hb.size,λk hk _=>hb.block k hk⟩;have hx:=h.hz;exact⟨h.x0,Nat.lt_of_lt_of_le hx hb.size,(hb.cell hx).trans h.c0,(hb.cell hx).trans h.c1,(hb.cell hx).trans h.c2,λj=>(hb.frozen hx).trans (h.fz j),h.se.kept og (by simp) (by simp),h.hl,zx4 h.ow hb,λp hp=>⟨(h.li p hp).1.below hb,λhn b hbb=>⟨((h.li p hp).2 hn b hbb).1,((h.li p hp).2 hn b hbb).2.of (hb.block b ((h.li p hp).2 hn b hbb).2.lt)⟩⟩,h.be.trans (hb.mono h.be.size)⟩
def zq7.oZ{ws:List Fl.ar}(h:zq7 w T B ws)(hi:i<ws.length)(hj:j<ws.length)(he:ws[j]=ws[i]):j=i:=by
 obtain⟨-,n,Qy,-,-,-,-,h4⟩:=h;have h5:=(h4 i hi).2 (.lit (.int .i64 0));have h6:=(h4 j hj).2 (.lit (.int .i64 0));rw[he,h5]at h6;injection h6 with h6;injection h6 with _ h6;omega
def zh3{row:Option Nat}{xs:Is}(h:Zw w.heap.size w lv xs)(hg:w.grownBy w' row)(a0:xs≠[]->∀b,lv.ownBlock=some b->some b≠row):Zw w'.heap.size w' lv xs:=by
 obtain⟨ao,cap,rfl,h1,h2,h3⟩:=h;refine⟨ao,cap,rfl,h1,h2,λhn=>?_⟩;obtain⟨b,off,rfl,hb,hc⟩:=h3 hn;refine⟨b,off,rfl,Qj hb hg.size,λi hi=>?_⟩;exact(cQ (hg.block b hb (a0 hn b rfl)) (hc i hi))
def zz4.pre(h:zz4 w0 w Xb T B Fb wv acc lvs)(hg:w.grownBy w' (some B)):WrPre w0 w' Xb T B Fb wv acc lvs:=by
 obtain⟨x1,x2,x3⟩:=h.x0
 have a0:some Xb≠some B:=by simp;omega
 have b0:wv.ownBlock≠some B:=λhh=>by have:=(h.ow.lt B hh).1;omega
 refine⟨h.x0,Qj h.hz hg.size,hg.cell h.c0 a0,hg.cell h.c1 a0,hg.cell h.c2 a0,λj=>(Qd (hg.block Xb h.hz a0)).trans (h.fz j),h.hl,h.ow.kept hg (.inr b0),λp hp=>?_,h.be.grown hg (Nat.le_trans x1 (by have:=h.hz;omega)) (λk hk=>by injection hk with hk;omega)⟩;obtain⟨hk,hx⟩:=h.li p hp;exact⟨⟨zh3 hk.1 hg (λhn b hb=>by have:=(hx hn b hb).1;simp;omega),hk.2⟩,λhn b hb=>⟨(hx hn b hb).1,(hx hn b hb).2.of (hg.block b (hx hn b hb).2.lt (by have:=(hx hn b hb).1;simp;omega))⟩⟩
def zz4.db(h:zz4 w0 w Xb T B Fb wv acc lvs)(hg:w.grownBy w' (some B))(hs:zq7 w' T B acc):zz4 w0 w' Xb T B Fb wv acc lvs:=
 ⟨(h.pre hg).x0,(h.pre hg).hz,(h.pre hg).c0,(h.pre hg).c1,(h.pre hg).c2,(h.pre hg).fz,hs,(h.pre hg).hl,(h.pre hg).ow,(h.pre hg).li,(h.pre hg).be⟩
def WrPre.push{nd:Fl.ar}(h:WrPre w0 w Xb T B Fb wv acc lvs)(hs:zq7 w T B (acc++[nd]))(hb:D w W1)(hi:Zw w.heap.size w lvn nd.ae)(hf:nd.ae≠[]->∀b,lvn.ownBlock=some b->Xb<b/\some b≠wv.ownBlock/\Xk w b)
  (ho:W2.ownsRow (Xb+1) 73 6 wv' (acc.length+1) (flat acc lvs++Zc nd lvn)) (hg:W1.grownBy W2 wv.ownBlock) (hw:wv'.ownBlock=wv.ownBlock\/wv'.ownBlock=some W1.heap.size):
  zz4 w0 (W2.setCell (O Xb 1) wv') Xb T B Fb wv' (acc++[nd]) (lvs++[lvn]):=by
 obtain⟨x1,x2,x3⟩:=h.x0;have hz:=h.hz;have cD:=hb.size;have d0:=hg.size
 have b0:∀c,wv.ownBlock=some c->Xb<c/\c<w.heap.size:=λc hc=>by have:=h.ow.lt c hc;omega
 have ne:∀c,c<=Xb->some c≠wv.ownBlock:=λc hc hh=>by have:=b0 c hh.symm;omega
 have c0:=hg.cell (cT hb hz h.c0) (ne Xb lE);have c1:=hg.cell (cT hb hz h.c1) (ne Xb lE);have c2:=hg.cell (cT hb hz h.c2) (ne Xb lE);have og:w.grownBy W1 none:=⟨hb.os,hb.tape,hb.output,hb.size,λk hk _=>hb.block k hk⟩;have gs:W2.grownBy (W2.setCell (O Xb 1) wv') (some Xb):=⟨rfl,rfl,rfl,by rw[Zy];exact Nat.le_refl _,λk hk hn=>Zx _ _ _ _ _ (λe=>hn (by rw[e]))⟩;have se:=((hs.kept og (by simp) (by simp)).kept hg (ne T (by omega)) (ne B (by omega))).kept gs (by simp;omega) (by simp;omega);have hk:∀p,p∈Yu (acc++[nd]) (lvs++[lvn])->Vw W2 p.1 p.2 K wv'/\(p.2≠[]->∀b,p.1.ownBlock=some b->Xb<b/\Xk W2 b):=by
  intro p hp;rw[Jw _ _ _ _ h.hl,mem_append,mem_singleton]at hp;rcases hp with hp|hp
  ·obtain⟨k1,k2⟩:=h.li p hp
   exact⟨(k1.below hb).second hg hw,λhn b a0=>⟨(k2 hn b a0).1,(k2 hn b a0).2.of ((hg.block b (Qj (k2 hn b a0).2.lt cD) (by rw[<-a0];exact(k1.2 hn).2)).trans (hb.block b (k2 hn b a0).2.lt))⟩⟩
  subst hp;refine⟨Vw.second ⟨Jx hi hb,λhn=>?_⟩ hg hw,λhn b a0=>⟨(hf hn b a0).1,(hf hn b a0).2.2.of ((hg.block b (Qj (hf hn b a0).2.2.lt cD) (hf hn b a0).2.1).trans (hb.block b (hf hn b a0).2.2.lt))⟩⟩;obtain⟨ao,cap,e,-,-,h3⟩:=hi;obtain⟨b,off,e2,-,-⟩:=h3 hn;have h5:lvn.ownBlock=some b:=(by rw[e,e2];rfl);refine⟨by rw[h5];simp[ownBlock],by rw[h5];exact(hf hn b h5).2.1⟩
 refine⟨h.x0,by rw[Zy];omega,(Qg _ _ _ _ (by intro hh;injection hh with _ h5;omega)).trans c0,cell?_setCell_same' _ _ _ (by rw[c1];rfl),(Qg _ _ _ _ (by intro hh;injection hh with _ h5;omega)).trans c2,λj=>by rw[frozen?_setCell];exact(Qd (hg.block Xb (by omega) (ne Xb lE))).trans ((hb.frozen hz).trans (h.fz j)),se,by simp[h.hl],?_,λp hp=>⟨(hk p hp).1.set (λhx hh=>by have:=((hk p hp).2 hx Xb hh).1;omega),λhn b a0=>⟨((hk p hp).2 hn b a0).1,((hk p hp).2 hn b a0).2.of (Zx _ _ _ _ _ (by have:=((hk p hp).2 hn b a0).1;omega))⟩⟩,?_⟩
 ·rw[zwv _ _ _ _ h.hl,length_append,length_singleton];exact ownsRow_setCell_below ho (by simp) wv'
 exact((h.be.trans (hb.mono (by omega))).grown hg (by omega) (λk hk=>by have:=b0 k hk;omega)).setCell (by show w0.heap.size<=Xb;omega) _
def Ut(X:Value×Is->Prop)(w:World)(acc:List Fl.ar)(lvs:Vs)(acc':List Fl.ar)(lvs':Vs):Prop:=∀p,p∈Yu acc' lvs'->p∈Yu acc lvs\/X p\/p.2=[]\/∀b,p.1.ownBlock=some b->w.heap.size<=b
def Ut.refl(X:Value×Is->Prop)(w:World)(acc:List Fl.ar)(lvs:Vs):Ut X w acc lvs acc lvs:=λ_ h=> .inl h
def Ut.trans{acc' acc'':List Fl.ar}{lvs'':Vs}(h:Ut (λ_=>False) w acc lvs acc' lvs')(hw:w.heap.size<=w'.heap.size)(h':Ut (λ_=>False) w' acc' lvs' acc'' lvs''):Ut (λ_=>False) w acc lvs acc'' lvs'':=λp hp=>by
 rcases h' p hp with h1|h1|h1|h1
 ·exact h p h1
 ·exact h1.elim
 ·exact .inr (.inr (.inl h1))
 exact .inr (.inr (.inr λb hb=>Nat.le_trans hw (h1 b hb)))
def ndV(nd:Fl.ar)(lv:Value):Value:=.agg #[I nd.kind,I nd.ak,I nd.a,I nd.b,I nd.c,lv]
section
variable{nd:Fl.ar}
end
def Xm(P:Program)(ops:Array Oper)(S:World->Prop)(Q:Exit->Act->World->Prop)(Qu:Act->World->Prop):List (Nat×Oper)->Act->World->Prop
 |[],a,w=>S w/\Qu a w
 |(0,o)::l,a,w=>∃v,YieldsIf P ops S o v a/\Xm P ops S Q Qu l (a.put o.dst v) w
 |(_+1,o)::l,a,w=>wpList P ops (Exit.then (λa1 w1=>S w1/\Xm P ops S Q Qu l a1 w1) Q) [o] a w
def zt6(ops:Array Oper):List Nat->List (Nat×Nat)->Bool
 |_,[]=>true
 |pre,(0,i)::l=>free .any ops (Zo ops.size pre) i && ((ready .any ops (Zo ops.size pre)).contains i && zt6 ops (pre++[i]) l)
 |pre,(_+1,i)::l=>decide (ready .any ops (Zo ops.size pre)=[i]) && zt6 ops (pre++[i]) l
section
variable{S:World->Prop}{Qu:Act->World->Prop}
def Xs{l:List (Nat×Oper)}(hg:o.guard=none)
  (h:∀Wx:Act->Prop,(∀a',Xm P ops S Q Qu l a' w->Wx a')->∃v,(∀w,S w->(execOp a.eval o).run P w=.ok (.value v) w)/\Wx (a.put o.dst v)):Xm P ops S Q Qu ((0,o)::l) a w:=by
 obtain⟨v,h1,h2⟩:=h (λa'=>Xm P ops S Q Qu l a' w) (λ_ h=>h);exact⟨v,.inl ⟨by simp[wanted,hg],h1⟩,h2⟩
def zu8{l:List (Nat×Oper)}(h:wpList P ops (Exit.then (λa1 w1=>S w1/\Xm P ops S Q Qu l a1 w1) Q) [o] a w):Xm P ops S Q Qu ((1,o)::l) a w:=h
def Jq(h:S w/\Qu a w):Xm P ops S Q Qu [] a w:=h
def zr9(f:Nat)(hs:noSelect ops=true)(hQ:∀c a d v w,Q (.panic c) (put a d v) w->Q (.panic c) a w):
  ∀(st:List (Nat×Nat)) (so:List (Nat×Oper)) (pre:List Nat) (a:Act) (w:World),S w->st.map (λp=>(p.1,ops[p.2]?))=so.map (λp=>(p.1,some p.2))->zt6 ops pre st=true->
  (∀a w,Qu a w->S w->Jm P ops Q S [] f (Zo ops.size (pre++st.map (·.2))) a w)->
  Xm P ops S Q Qu so a w->Jm P ops Q S [] (f+st.length) (Zo ops.size pre) a w
 |[],so,pre,a,w,hS,a0,hB,hE,h=>by
  have:so=[]:=by cases so with|nil=>rfl|cons o so=>simp at a0
  subst this;have:=hE a w h.2 h.1;simpa using this
 |(0,i)::st,so,pre,a,w,hS,a0,hB,hE,h=>by
  cases so with
  |nil=>simp at a0
  |cons p so=>
   obtain⟨c,o⟩:=p;simp only[map_cons,List.cons.injEq,Prod.mk.injEq]at a0;obtain⟨⟨rfl,ho⟩,a0⟩:=a0;simp only[zt6,Qk]at hB;obtain⟨v,h1,h2⟩:=h;have ih:=zr9 f hs hQ st so (pre++[i]) (a.put o.dst v) w hS a0 hB.2.2 (λa w hE' hS'=>by have:=hE a w hE' hS';simpa using this) h2;rw[Yq]at ih;have:=zr5 ho (noSelect_spec hs) (λc a w h=>hQ c a _ _ w h) (by simp) (f+st.length) _ a w (free_spec ho hB.1) (by simpa using hB.2.1) h1 hS ih;simpa [Nat.add_assoc] using this
 |(k+1,i)::st,so,pre,a,w,hS,a0,hB,hE,h=>by
  cases so with
  |nil=>simp at a0
  |cons p so=>
   obtain⟨c,o⟩:=p;simp only[map_cons,List.cons.injEq,Prod.mk.injEq]at a0;obtain⟨⟨rfl,ho⟩,a0⟩:=a0;simp only[zt6,Qk,Qn]at hB;rw[length_cons,<-Nat.add_assoc];refine⟨λh0=>(by rw[hB.1]at h0;cases h0),λx hx=>?_⟩;rw[hB.1]at hx;simp only[mem_singleton]at hx;subst hx;refine wpOp_mono (λa1 w1 hk=>⟨λ_=>hk.1,?_⟩) (Uc ho h);have ih:=zr9 f hs hQ st so (pre++[x]) a1 w1 hk.1 a0 hB.2 (λa w hE' hS'=>by have:=hE a w hE' hS';simpa using this) hk.2
   rwa [Yq]at ih
end
section
variable{S:World->Prop}{Qu:Act->World->Prop}
def ypw{l:List (Nat×Oper)}{b:Bool}(hg:o.guard=some (j,b))(hy:yielded ops a.tmps j=some b)
  (h:∀Wx:Act->Prop,(∀a',Xm P ops S Q Qu l a' w->Wx a')->∃v,(∀w,S w->(execOp a.eval o).run P w=.ok (.value v) w)/\Wx (a.put o.dst v)):Xm P ops S Q Qu ((0,o)::l) a w:=by
 obtain⟨v,h1,h2⟩:=h (λa'=>Xm P ops S Q Qu l a' w) (λ_ h=>h);exact⟨v,.inl ⟨by simp[wanted,hg,hy],h1⟩,h2⟩
def za0{l:List (Nat×Oper)}{b c:Bool}(hg:o.guard=some (j,b))(hy:yielded ops a.tmps j=some c)(a0:(some c==some b)=false)
  (h:Xm P ops S Q Qu l (a.put o.dst undef) w):Xm P ops S Q Qu ((0,o)::l) a w:=⟨undef,.inr ⟨by simpa [wanted,hg,hy] using a0,rfl⟩,h⟩
def ym4{l:List (Nat×Oper)}{dst:Option Tmp}{op:Op}{ty:TypeId}{pos:String}{after:Array Edge}{guard:Option (Nat×Bool)}
  (hw:wanted {dst:=dst,op:=op,type:=ty,pos:=pos,after:=after,guard:=guard} (yielded ops a.tmps)=true) (h:wpList P ops (Exit.then (λa1 w1=>S w1/\Xm P ops S Q Qu l a1 w1) Q) [{dst:=dst,op:=op,type:=ty,pos:=pos,after:=after,guard:=none}] a w):
  Xm P ops S Q Qu ((1,{dst:=dst,op:=op,type:=ty,pos:=pos,after:=after,guard:=guard})::l) a w:=Uk hw h
def yv4{l:List (Nat×Oper)}{b c:Bool}(hg:o.guard=some (j,b))(hy:yielded ops a.tmps j=some c)(a0:(some c==some b)=false)(hS:S w)
  (h:Xm P ops S Q Qu l (a.put o.dst undef) w):Xm P ops S Q Qu ((1,o)::l) a w:=wpList_skip (by simpa [wanted,hg,hy] using a0) ⟨hS,h⟩
def zp9(P:Program)(ops:Array Oper)(S:World->Prop)(Q:Exit->Act->World->Prop)(so3:List (Nat×Oper))(ox oy:Oper)(a:Act)(w:World):Prop:=
 wpList P ops (Exit.then (λa1 w1=>S w1/\wpList P ops (Exit.then (λa2 w2=>S w2/\Xm P ops S Q (λa3 w3=>Q .normal a3 w3) so3 a2 w2) Q) [oy] a1 w1) Q) [ox] a w
def yy7{id:Nat}{l:List Oper}(S:World->Prop)(st:List (Nat×Nat))(i j:Nat)(st3 Wq:List (Nat×Nat))(hm:P.follows .mixedOrders=true)
  (hB:(noSelect l.toArray && (zt6 l.toArray [] st && (decide (ready .any l.toArray (Zo l.toArray.size (st.map (·.2)))=[i,j]) && (decide (ready .any l.toArray (Zo l.toArray.size (st.map (·.2)++[i]))=[j]) && (decide (ready .any l.toArray (Zo l.toArray.size (st.map (·.2)++[j]))=[i]) && (zt6 l.toArray (st.map (·.2)++[i]++[j]) st3 && (zt6 l.toArray (st.map (·.2)++[j]++[i]) st3 && (decide (ready .any l.toArray (Zo l.toArray.size (st.map (·.2)++[i]++[j]++st3.map (·.2)))=[]) && (decide (ready .any l.toArray (Zo l.toArray.size (st.map (·.2)++[j]++[i]++st3.map (·.2)))=[]) && Wq.all (λp=>decide (((l.toArray[p.1]?).bind λx=>x.dst)=some p.2)))))))))))=true)
  (aL:l.length=st3.length+2+st.length) (so so3:List (Nat×Oper)) (oi oj:Oper) (c0:st.map (λp=>(p.1,l.toArray[p.2]?))=so.map (λp=>(p.1,some p.2))) (a0:st3.map (λp=>(p.1,l.toArray[p.2]?))=so3.map (λp=>(p.1,some p.2))) (hi:l.toArray[i]?=some oi) (hj:l.toArray[j]?=some oj)
  (hQ:∀c a d v w,Q (.panic c) (put a d v) w->Q (.panic c) a w) (hS:S w.drew)
  (h:∀ops:Array Oper,(∀p∈Wq,((ops[p.1]?).bind λx=>x.dst)=some p.2)->Xm P ops S Q (λa' w'=>zp9 P ops S Q so3 oi oj a' w'/\zp9 P ops S Q so3 oj oi a' w') so a w.drew):(Code.region id l.toArray true).wp P Q a w:=by
 simp only[Qk,Qn,all_eq_true]at hB;obtain⟨hs,hh,r0,ri,rj,t1,t2,e1,e2,hG⟩:=hB;have key:=zr9 (P:=P) (Q:=Q) (S:=S) (ops:=l.toArray) (st3.length+2) hs hQ st so [] a w.drew hS c0 hh ?_ (h l.toArray hG)
 ·refine wp_region_any hm (zw4 (S:=S) (late:=[]) _ _ _ _ ?_)
  have e:l.toArray.size=st3.length+2+st.length:=(by simp[aL]);rw[<-e]at key;simpa [Zo] using key
 intro a' w' hE hS'
 have step:∀(x y:Nat) (ox oy:Oper),l.toArray[x]?=some ox->l.toArray[y]?=some oy->ready .any l.toArray (Zo l.toArray.size (st.map (·.2)++[x]))=[y]->zt6 l.toArray (st.map (·.2)++[x]++[y]) st3=true->ready .any l.toArray (Zo l.toArray.size (st.map (·.2)++[x]++[y]++st3.map (·.2)))=[]->
   zp9 P l.toArray S Q so3 ox oy a' w'->wpOp P l.toArray Q x (λa1 w1=>(x ∉ ([]:List Nat)->S w1)/\Jm P l.toArray Q S [] (st3.length+1) ((Zo l.toArray.size ([]++st.map (·.2))).setIfInBounds x true) a1 w1) a' w':=by
  intro x y ox oy hx hy h1 h2 h3 hw;refine wpOp_mono (λa1 w1 hk=>⟨λ_=>hk.1,?_⟩) (Uc hx hw);have e1:(Zo l.toArray.size ([]++st.map (·.2))).setIfInBounds x true=Zo l.toArray.size (st.map (·.2)++[x]):=(by rw[Yq];rfl);rw[e1];refine⟨λh0=>(by rw[h1]at h0;cases h0),λz hz=>?_⟩;rw[h1]at hz;simp only[mem_singleton]at hz;subst hz;refine wpOp_mono (λa2 w2 b0=>⟨λ_=>b0.1,?_⟩) (Uc hy hk.2);have e2:(Zo l.toArray.size (st.map (·.2)++[x])).setIfInBounds z true=Zo l.toArray.size (st.map (·.2)++[x]++[z]):=(Yq _ _ _).symm;rw[e2];have:=zr9 (P:=P) (Q:=Q) (S:=S) (ops:=l.toArray) (Qu:=λa3 w3=>Q .normal a3 w3) 0 hs hQ st3 so3 (st.map (·.2)++[x]++[z]) a2 w2 b0.1 a0 h2 (λa3 w3 hE3 _=>⟨h3,hE3⟩) b0.2;simpa using this
 refine⟨λh0=>?_,λz hz=>?_⟩
 ·simp only[nil_append]at h0;rw[r0]at h0;cases h0
 simp only[nil_append]at hz;rw[r0]at hz;simp only[mem_cons,not_mem_nil,or_false]at hz;rcases hz with rfl|rfl
 ·exact step _ j oi oj hi hj ri t1 e1 hE.1
 exact step _ i oj oi hj hi rj t2 e2 hE.2
end
section
variable{S:World->Prop}
end
section
end
def zz4.lp(h:zz4 w0 w Xb T B Fb wv acc lvs)(hx:Xb<nb){cs:Array Value}{fr:Nat×Nat}(hn:w.heap[nb]?=some (.cells cs 73 fr))(ho:some nb≠wv.ownBlock)(j:Nat)(v:Value):zz4 w0 (w.setCell (O nb j) v) Xb T B Fb wv acc lvs:=by
 obtain⟨x1,x2,x3⟩:=h.x0;have gs:w.grownBy (w.setCell (O nb j) v) (some nb):=⟨rfl,rfl,rfl,by rw[Zy];exact Nat.le_refl _,λk hk hn=>Zx _ _ _ _ _ (λe=>hn (by rw[e]))⟩
 have b0:∀c,c<=Xb->some c≠some nb:=λc hc=>by simp;omega
 have d0:∀p,p∈Yu acc lvs->p.2≠[]->∀b,p.1.ownBlock=some b->b≠nb:=λp hp a0 b hb e=>by
  obtain⟨cs',h5⟩:=((h.li p hp).2 a0 b hb).2;rw[e,hn]at h5;injection h5 with h5;injection h5 with _ h6;exact absurd h6 (by decide)
 refine⟨h.x0,by rw[Zy];exact h.hz,gs.cell h.c0 (b0 Xb lE),gs.cell h.c1 (b0 Xb lE),gs.cell h.c2 (b0 Xb lE),λi=>by rw[frozen?_setCell];exact h.fz i,h.se.kept gs (b0 T (by omega)) (b0 B (by omega)),h.hl,h.ow.kept gs (.inr (λhh=>ho hh.symm)),λp hp=>⟨(h.li p hp).1.set (λa0 hh=>d0 p hp a0 nb hh rfl),λa0 b hb=>⟨((h.li p hp).2 a0 b hb).1,((h.li p hp).2 a0 b hb).2.of (Zx _ _ _ _ _ (d0 p hp a0 b hb))⟩⟩,h.be.setCell (by show w0.heap.size<=nb;omega) _⟩
def Yg.set(h:Yg w w' Xb B wv wv')(hn:w.heap.size<=nb)(j:Nat)(v:Value):Yg w (w'.setCell (O nb j) v) Xb B wv wv':=
 ⟨h.os,h.tp,h.ou,by rw[Zy];exact h.sz,λc h1 h2 h3 h4=>(Zx _ _ _ _ _ (by omega)).trans (h.bl c h1 h2 h3 h4),h.ow⟩
section
end
def Tryz.infoIntW:(Tryz.prog.info? 3).map (λi=>(i.zero,i.size,i.bytes))=some (some (I 0),1,8):=by kernel_rfl
namespace Fl
def iU(W:List ar->aa->Int×List ar)(s:aa):∀(l:List aa) (ws:List ar),dS W ws (l++[s])=((dS W ws l).1++[(W (dS W ws l).2 s).1],(W (dS W ws l).2 s).2)
 |[],_=>rfl
 |a::l,ws=>by simp only[cons_append,dS,iU W s l]
def jq(W:List ar->aa->Int×List ar):∀(l:List aa) (ws:List ar),(dS W ws l).1.length=l.length
 |[],_=>rfl
 |a::l,ws=>by simp only[dS,length_cons,jq W l]
end Fl
def yv5(h:w.ownsRow base 3 1 lv ns.length (ns.map (int .i64))):Zw w.heap.size w lv ns:=by
 rcases id h.2 with⟨rfl,h0⟩|⟨g,cap,cur,rfl,hb,hg,b0,c0,d0,ht⟩
 ·exact⟨none,0,by rw[h0],by omega,by rw[h0];simp[maxLen],λa0=>absurd (Qi h0) a0⟩
 refine⟨_,cap,rfl,by omega,by omega,λ_=>⟨g,0,rfl,(h.lt g rfl).2,λi hi=>?_⟩⟩;have h4:=h.cells rfl i (I (ns.getD i 0)) (by rw[getElem?_map,Qa,Qb hi];rfl)
 have h5:((O g 0):Addr).add i=(O g i):=by unfold Addr.add;split<;>simp_all
 rw[h5]at h4;rw[Nat.zero_add];exact h4
def Jg(h:w.ownsRow base 3 1 lv ns.length (ns.map (int .i64))):∀b,lv.ownBlock=some b->base<=b/\Xk w b:=λb hb=>by
 refine⟨(h.lt b hb).1,?_⟩;rcases id h.2 with⟨rfl,h0⟩|⟨g,cap,cur,rfl,a0,hg,-⟩
 ·cases hb
 injection hb with hb;subst hb;exact⟨cur,hg⟩
def yv6{e:TypeId}(h:w.ownsRow base e k v n xs)(hv:∀g,v.ownBlock=some g->w'.heap[g]?=w.heap[g]?):w'.ownsRow base e k v n xs:=by
 refine⟨h.1,?_⟩;rcases h.2 with⟨rfl,h0⟩|⟨g,cap,cur,rfl,hb,hg,hr⟩
 ·exact .inl ⟨rfl,h0⟩
 exact .inr ⟨g,cap,cur,rfl,hb,by rw[hv g rfl];exact hg,hr⟩
def zv4(h:w.ownsRow base 73 6 v n xs):∀b,v.ownBlock=some b->¬Xk w b:=λb hb hl=>by
 rcases id h.2 with⟨rfl,h0⟩|⟨g,cap,cur,rfl,a0,hg,-⟩
 ·cases hb
 injection hb with hb;subst hb;obtain⟨cs,h5⟩:=hl;rw[hg]at h5;injection h5 with h5;injection h5 with _ h6;exact absurd h6 (by decide)
def zzv{cs:Array Value}{t:TypeId}{fr:Nat×Nat}(h:w.heap[nb]?=some (.cells cs t fr))(j:Nat)(v:Value):(w.setCell (O nb j) v).heap[nb]?=some (.cells (cs.setIfInBounds j v) t fr):=by
 have hl:nb<w.heap.size:=by
  rcases Nat.lt_or_ge nb w.heap.size with h'|h'
  ·exact h'
  rw[Array.getElem?_eq_none h']at h;cases h
 have h2:w.heap[nb]=.cells cs t fr:=by rw[Array.getElem?_eq_getElem hl]at h;injection h
 have a0:nb<(w.setCell (O nb j) v).heap.size:=by rw[Zy];exact hl
 rw[Array.getElem?_eq_getElem a0];simp only[setCell];rw[Array.getElem_modify];simp[h2]
def zz4.aU(h:zz4 w0 w Xb T B Fb wv acc lvs){row:Option Nat}(hg:w.grownBy w' row)(hr:∀c,row=some c->Xb<c/\wv.ownBlock≠some c/\∀p,p∈Yu acc lvs->p.2≠[]->p.1.ownBlock≠some c):zz4 w0 w' Xb T B Fb wv acc lvs:=by
 obtain⟨x1,x2,x3⟩:=h.x0
 have ne:∀c,c<=Xb->some c≠row:=λc hc hh=>by have:=(hr c hh.symm).1;omega
 have a0:wv.ownBlock=none\/wv.ownBlock≠row:=by
  cases hw:wv.ownBlock with
  |none=>exact .inl rfl
  |some g=>exact .inr (λhh=>(hr g hh.symm).2.1 hw)
 refine⟨h.x0,Qj h.hz hg.size,hg.cell h.c0 (ne Xb lE),hg.cell h.c1 (ne Xb lE),hg.cell h.c2 (ne Xb lE),λj=>(Qd (hg.block Xb h.hz (ne Xb lE))).trans (h.fz j),h.se.kept hg (ne T (by omega)) (ne B (by omega)),h.hl,h.ow.kept hg a0,λp hp=>?_,h.be.grown hg (by have:=h.hz;omega) (λk hk=>by have:=(hr k hk).1;omega)⟩;obtain⟨k1,k2⟩:=h.li p hp;have hn:p.2≠[]->∀b,p.1.ownBlock=some b->some b≠row:=λh1 b hb hh=>(hr b hh.symm).2.2 p hp h1 hb;exact⟨⟨zh3 k1.1 hg hn,k1.2⟩,λh1 b hb=>⟨(k2 h1 b hb).1,(k2 h1 b hb).2.of (hg.block b (k2 h1 b hb).2.lt (hn h1 b hb))⟩⟩
def Yg.grown{w'':World}(h:Yg w w' Xb B wv wv'){row:Option Nat}(hg:w'.grownBy w'' row)(hr:∀c,row=some c->w.heap.size<=c):Yg w w'' Xb B wv wv':=
 ⟨hg.os.trans h.os,hg.tape.trans h.tp,hg.output.trans h.ou,Nat.le_trans h.sz hg.size,λc h1 h2 h3 h4=>(hg.block c (Qj h1 h.sz) (λhh=>by have:=hr c hh.symm;omega)).trans (h.bl c h1 h2 h3 h4),h.ow⟩
structure BlkAt(w0 w wr:World)(Xb T B Fb nb:Nat)(wv wv':Value)(u:Nat)(acc:List Fl.ar)(lvs:Vs)(ns:Is)(ac:List Fl.ar)(lvs':Vs)(lv:Value):Prop where
 wi:zz4 w0 wr Xb T B Fb wv' ac lvs'
 st:Yg w wr Xb B wv wv'
 ne:some nb≠wv'.ownBlock
 lo:Ut (λ_=>False) w acc lvs ac lvs'
 ll:∀p,p∈Yu ac lvs'->p.2≠[]->∀b,p.1.ownBlock=some b->lv.ownBlock≠some b
 ow:wr.ownsRow (nb+1) 3 1 lv ns.length (ns.map (int .i64))
 nd:wr.heap[nb]?=some (.cells #[I 7,I u,I 0,I 0,I 0,lv] 73 (0,0))
def BlkAt.next{wr W3:World}{wv1:Value}{u:Nat}{ac1:List Fl.ar}{lvs1:Vs}{v':Value}{m:Int}(h:BlkAt w0 w wr Xb T B Fb nb wv wv' u acc lvs ns ac lvs' lv)(f0:w.heap.size<=nb)(hX:Xb<nb)(hB:nb≠B)
  (h1:zz4 w0 W1 Xb T B Fb wv1 ac1 lvs1) (hs:Yg wr W1 Xb B wv' wv1) (hl:Ut (λ_=>False) wr ac lvs' ac1 lvs1) (hb:D W1 W2) (ho:W3.ownsRow (nb+1) 3 1 v' (ns.length+1) (ns.map (int .i64)++[I m])) (hg:W2.grownBy W3 lv.ownBlock) (hw:v'.ownBlock=lv.ownBlock\/v'.ownBlock=some W2.heap.size):
  BlkAt w0 w (W3.setCell (O nb 5) v') Xb T B Fb nb wv wv1 u acc lvs (ns++[m]) ac1 lvs1 v':=by
 have k0:=h.wi.x0;have g0:nb<wr.heap.size:=by
  rcases Nat.lt_or_ge nb wr.heap.size with h'|h'
  ·exact h'
  have h5:=h.nd;rw[Array.getElem?_eq_none h']at h5;cases h5
 have cD:=hs.sz;have l0:=hb.size;have m0:=hg.size
 have a0:∀g,lv.ownBlock=some g->nb<g/\g<wr.heap.size:=λg hh=>by have:=h.ow.lt g hh;omega
 have b0:some nb≠wv1.ownBlock:=λhh=>by
  rcases hs.ow with e|⟨g,e,h0⟩
  ·exact h.ne (hh.trans e)
  rw[e]at hh;injection hh with hh;omega
 have ll1:∀p,p∈Yu ac1 lvs1->p.2≠[]->∀b,p.1.ownBlock=some b->lv.ownBlock≠some b:=λp hp hn b c0 hh=>by
  rcases hl p hp with h5|h5|h5|h5
  ·exact h.ll p h5 hn b c0 hh
  ·exact h5
  ·exact hn h5
  have:=h5 b c0;have:=a0 b hh;omega
 have i0:=h1.below hb
 have d0:∀c,lv.ownBlock=some c->wv1.ownBlock≠some c:=λc hc hh=>by
  rcases hs.ow with e|⟨g,e,h0⟩
  ·exact zv4 h.wi.ow c (e.symm.trans hh) (Jg h.ow c hc).2
  rw[e]at hh;injection hh with hh;have:=a0 c hc;omega
 have j0:=i0.aU hg (λc hc=>⟨by have:=a0 c hc;omega,d0 c hc,λp hp hn hh=>ll1 p hp hn c hh hc⟩);have e0:W3.heap[nb]?=some (.cells #[I 7,I u,I 0,I 0,I 0,lv] 73 (0,0)):=by
  refine(hg.block nb (by omega) (λhh=>by have:=a0 nb hh.symm;omega)).trans ((hb.block nb (by omega)).trans ((hs.bl nb g0 (by omega) hB h.ne).trans h.nd))
 have cZ:=(((h.st.trans hs).trans (Yg.aD hb)).grown hg (λc hc=>by have:=a0 c hc;omega));refine⟨j0.lp hX e0 b0 5 v',cZ.set f0 5 v',b0,h.lo.trans h.st.sz hl,λp hp hn b c0 hh=>?_,?_,?_⟩
 ·rcases hw with e|e
  ·exact ll1 p hp hn b c0 (e.symm.trans hh)
  rw[e]at hh;injection hh with hh;have:=((h1.li p hp).2 hn b c0).2.lt;omega
 ·have h5:(W3.setCell (O nb 5) v').ownsRow (nb+1) 3 1 v' (ns.length+1) (ns.map (int .i64)++[I m]):=ownsRow_setCell_below ho (by simp) v'
  rw[length_append,map_append];exact h5
 exact zzv e0 5 v'
section
end
structure zwz(w0 w V:World)(Xb T B Fb nb:Nat)(wv wv':Value)(acc:List Fl.ar)(lvs:Vs)(ac:List Fl.ar)(lvs':Vs)(k u a b c:Int):Prop where
 wi:zz4 w0 V Xb T B Fb wv' ac lvs'
 st:Yg w V Xb B wv wv'
 ne:some nb≠wv'.ownBlock
 lo:Ut (λ_=>False) w acc lvs ac lvs'
 nd:V.heap[nb]?=some (.cells #[I k,I u,I a,I b,I c,K] 73 (0,0))
def zwz.lt{k a b:Int}(h:zwz w0 w V Xb T B Fb nb wv wv' acc lvs ac lvs' k u a b c):nb<V.heap.size:=by
 rcases Nat.lt_or_ge nb V.heap.size with h'|h'
 ·exact h'
 have h5:=h.nd;rw[Array.getElem?_eq_none h']at h5;cases h5
def zwz.cell{w0 w V:World}{Xb T B Fb nb:Nat}{wv wv':Value}{acc ac:List Fl.ar}{lvs lvs':Vs}{k u a b c:Int}(h:zwz w0 w V Xb T B Fb nb wv wv' acc lvs ac lvs' k u a b c)(j:Nat)(v:Value)(hj:(#[int .i64 k,I u,I a,I b,I c,K]:Array Value)[j]?=some v):V.cell? (O nb j)=some v:=by
 simp only[cell?,h.nd];exact hj
def zwz.free{k a b:Int}(h:zwz w0 w V Xb T B Fb nb wv wv' acc lvs ac lvs' k u a b c)(j:Nat):V.frozen? (O nb j)=false:=by simp[frozen?,h.nd]
def zwz.below{w0 w V V':World}{Xb T B Fb nb:Nat}{wv wv':Value}{acc ac:List Fl.ar}{lvs lvs':Vs}{k u a b c:Int}(h:zwz w0 w V Xb T B Fb nb wv wv' acc lvs ac lvs' k u a b c)(hb:D V V'):zwz w0 w V' Xb T B Fb nb wv wv' acc lvs ac lvs' k u a b c:=
 ⟨h.wi.below hb,h.st.trans (Yg.aD hb),h.ne,h.lo,(hb.block nb h.lt).trans h.nd⟩
def zwz.call{V':World}{wv2:Value}{ac2:List Fl.ar}{lvs2:Vs}{k a b:Int}(h:zwz w0 w V Xb T B Fb nb wv wv' acc lvs ac lvs' k u a b c)(hX:Xb<nb)(hB:nb≠B)(h1:zz4 w0 V' Xb T B Fb wv2 ac2 lvs2)(hs:Yg V V' Xb B wv' wv2)(hl:Ut (λ_=>False) V ac lvs' ac2 lvs2):zwz w0 w V' Xb T B Fb nb wv wv2 acc lvs ac2 lvs2 k u a b c:=by
 refine⟨h1,h.st.trans hs,λhh=>?_,h.lo.trans h.st.sz hl,(hs.bl nb h.lt (by omega) hB h.ne).trans h.nd⟩;rcases hs.ow with e|⟨g,e,a0⟩
 ·exact h.ne (hh.trans e)
 rw[e]at hh;injection hh with hh;have:=h.lt;omega
def zwz.set{w0 w V:World}{Xb T B Fb nb:Nat}{wv wv':Value}{acc ac:List Fl.ar}{lvs lvs':Vs}{k u a b c:Int}(h:zwz w0 w V Xb T B Fb nb wv wv' acc lvs ac lvs' k u a b c)(hX:Xb<nb)(hw:w.heap.size<=nb)(j:Nat)(v a' b' c':Int)(he:(#[int .i64 k,I u,I a,I b,I c,K]:Array Value).setIfInBounds j (I v)=#[I k,I u,I a',I b',I c',K]):zwz w0 w (V.setCell (O nb j) (I v)) Xb T B Fb nb wv wv' acc lvs ac lvs' k u a' b' c':=by
 refine⟨h.wi.lp hX h.nd h.ne j _,h.st.set hw j _,h.ne,h.lo,?_⟩;have h5:=zzv h.nd j (I v);rw[he]at h5;exact h5
section
end
namespace Fl
end Fl
section
end
namespace Fl
def eU(ns:List ar)(k:Nat):Bool:=(range k).any (λi=>bS (nth ns i) (nth ns k))
def bI(ns:List ar):Int:=match (range ns.length).find? (eU ns) with|some k=>(k:Int)|none=> -1
def gQ(ns:List ar)(k:Nat)(hk:k<ns.length):eU ns k=true ↔ nth ns k∈ns.take k:=by
 unfold eU;rw[any_eq_true]
 constructor
 ·rintro⟨i,hi,he⟩
  simp only[mem_range]at hi;rw[<-(dG _ _).1 he]
  have:nth ns i=(ns.take k)[i]'(by simp;omega):=by simp[nth,Qa,Qb (show i<ns.length by omega)]
  rw[this];exact getElem_mem _
 intro h;obtain⟨i,hi,he⟩:=getElem_of_mem h
 have a0:i<k:=by simp at hi;omega
 refine⟨i,by simpa using a0,(dG _ _).2 ?_⟩;rw[<-he];simp[nth,Qa,Qb (show i<ns.length by omega)]
end Fl
def Zl.node{off:Nat}{ns:List Fl.ar}(h:Zl B w (Sq b off n cap) ns)(hi:i<ns.length)(hB:B<=w.heap.size):∃lv,Ug w b (off+i*6) (Fl.nth ns i) lv:=by
 obtain⟨_,lv,h0,h1,h2,h3,h4,h5,h6⟩:=h.at hi;exact⟨lv,h1,h2,h3,h4,h5,h6,h0.mono hB⟩
structure SameRel(ns:List Fl.ar)(w wr:World)(j:Nat)(db:List Fl.ar):Prop where
 hj:j<=ns.length
 aL:db.length=j
 fg:∀x,x∈db ↔ x∈ns.take j
 dt:∀t,t<j->Fl.eU ns t=false
 hs:zn1 wr (w.heap.size+1) w.heap.size db
 hb:D w wr
 hz:w.heap.size+2<=wr.heap.size
def yy8(ns:List Fl.ar)(nv:Value)(w:World)(hn:Zl w.heap.size w nv ns)(hf:∀i,i<ns.length->Fl.fits (Fl.nth ns i))(aL:ns.length<=1000):
  E 142 #[nv] w (Rw (I (Fl.bI ns)) w):=by
 obtain⟨na,nc,rfl,_,hm,_⟩:=id hn;have HN:=Z hn;clear hn hm
 go_enter func142,ntmps142
 go_wp2_with (go_at_call 120;refine(yv2 _).mono ?_;rintro e w1 ⟨rfl,e0,f0,r0⟩)
 have n0:=Z e0;have o0:=Z f0;clear e0 f0
 go_wp2_with fail
 go_loopw [10] (λi wr=>∃(j:Nat) (db:List Fl.ar),i=I j/\SameRel ns w wr j db) (λi _=>ns.length - (intOf i).toNat)
 case atStart=>exact⟨0,[],rfl,⟨by omega,rfl,by simp,λt ht=>by omega,n0,o0,by omega⟩⟩
 case round=>
  obtain⟨j,db,rfl,hr⟩:=hrel;have hj:=hr.hj;have HR:=Z hr;clear hr
  by_cases a0:j<ns.length
  ·obtain⟨b,off,rfl⟩:∃b off,na=some (O b off):=by
    obtain⟨ao',cap',hv',_,_,hx'⟩:=HN.out;obtain⟨b,off,ha,_⟩:=hx' (by intro h;rw[h]at a0;simp at a0);simp only[slice.injEq]at hv';exact⟨b,off,hv'.1.trans ha⟩
   obtain⟨lv,g0⟩:=(HN.below HR.hb).node a0 HR.hb.size;have h0:=hf j a0;have HC:=Z (zm0 g0 h0.2.2.2.2.2.1);have s0:(j:Int)<(ns.length:Int):=(by omega);clear g0
   go_wp2_with (go_at_call 124;refine(HC.out).mono ?_;rintro e w2 ⟨rfl,b0⟩)
   have i0:=HR.hs.kept (row:=none) ⟨b0.os,b0.tape,b0.output,b0.size,λk hk _=>b0.block k hk⟩ (by simp) (by simp);have j0:=Z (HR.hb.trans (b0.mono HR.hb.size));have k0:=Nat.le_trans HR.hz b0.size;clear b0 HC;refine(yv3 i0 h0 (by have:=HR.aL;omega)).mono ?_;rintro e w3 ⟨c,t,rfl,ht,l0,c0⟩;have m0:=Z (j0.trans ⟨c0.os,c0.tape,c0.output,c0.size,λk hk=>c0.block k (by have:=j0.size;omega) (by simp;omega)⟩);have p0:=Nat.le_trans k0 c0.size;have q0:=Z l0;have HT:=Z ht;clear i0 l0 c0 ht k0
   cases t with
   |true=>
    have d0:=(Fl.gQ ns j a0).2 ((HR.fg _).1 (HT.1 rfl));have HF:Y (Fl.bI ns=(j:Int)):=by
     show Fl.bI ns=(j:Int);unfold Fl.bI;rw[cI _ _ j HR.dt a0 d0]
    clear d0;go_wp2;go_ret;exact⟨Vm HF.symm,m0⟩
   |false=>
    have HD:Y (Fl.eU ns j=false):=by
     show Fl.eU ns j=false;rw[Bool.eq_false_iff];intro h
     have:=HT.2 ((HR.fg _).2 ((Fl.gQ ns j a0).1 h));cases this
    go_wp2
    go_roundw
    case rel=>
     refine⟨j+1,Fl.nth ns j::db,by go_num,⟨by omega,by simp[HR.aL],λx=>?_,λt ht=>?_,q0,m0,p0⟩⟩
     ·rw[fp ns j a0,mem_cons,mem_append,mem_singleton,HR.fg x];exact or_comm
     by_cases h:t<j
     ·exact HR.dt t h
     have:t=j:=by omega
     subst this;exact HD
    case measure=>simp[intOf];omega
  have HF:Y (Fl.bI ns= -1):=by
   show Fl.bI ns= -1;unfold Fl.bI;rw[dh _ _ (λk hk=>HR.dt k (by omega))]
  go_wp2;go_ret;exact⟨Vm HF.symm,HR.hb⟩
end Go.Proofs.YtgmbnnpnefniiaaGreatDoor
