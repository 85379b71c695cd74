import Derived.Test.YtgmbnnpnefniiaaGreatDoorM11
import Derived.LaidEql
import Derived.RowKitTokens
set_option linter.all false
set_option maxRecDepth 100000
set_option maxHeartbeats 40000000
namespace Go.Proofs.YtgmbnnpnefniiaaGreatDoor
open Go.Proofs.Tryz List World Value Fl
variable{base b i P0 cap B k:Nat}{w w' wr w0 w1 w2:World}{s:L}{lv u v v1:Value}{ao:Option Addr}{o1 o2 o3 o4:Obj}{a:Addr}
section
open Go.RowKit
def Vv.mono{base':Nat}(h:Vv base w w')(hb:base<=base'):Vv base' w w':=⟨h.size,λk hk a0=>h.block k (by omega) a0⟩
def zaw(r:(Is×List ar)×Bool×Int)(b:Nat)(w:World)(e:Ending)(w':World):Prop:=
 w.grownBy w' (some b)/\(r.2.1=false->e=.panicked (Za 8 r.2.2))/\(r.2.1=true->∃lv nv,e=.returned (.agg #[lv,nv])/\∀w'',Vv w.heap.size w' w''->Zw w''.heap.size w'' lv r.1.1/\Zl w''.heap.size w'' nv r.1.2)
def Vi{r:(Is×List ar)×Bool×Int}{pl:Int}(hr:r=(([],[]),false,pl))(m:w.grownBy w' (some b)):zaw r b w (.panicked (Za 8 pl)) w':=by
 subst hr;exact⟨m,λ_=>rfl,λh=>by cases h⟩
def zjv(h:∀t,t<i->bN s t=true)(hi:i<3)(hb:bN s i=false):Fl.decode s=(([],[]),false,(i:Int)):=by
 have he:dy s=i:=by
  unfold dy
  have:i=0\/i=1\/i=2:=by omega
  rcases this with rfl|rfl|rfl
  ·rw[G hb]
  ·rw[U (by rw[h 0 (by omega)];decide),G hb]
  rw[U (by rw[h 0 (by omega)];decide),U (by rw[h 1 (by omega)];decide),G hb]
 unfold Fl.decode;rw[he,G hi]
def ylz(h:¬i<s.length):bN s i=false:=by unfold bN;rw[decide_eq_false h];rfl
def yly(h:i<s.length):bN s i=((s.getD i 0).toNat==(([70,80,49]:L).getD i 0).toNat):=by
 unfold bN;rw[decide_eq_true h,Bool.true_and,Bool.eq_iff_iff,beq_iff_eq,beq_iff_eq];exact⟨λh=>by rw[h],λh=>UInt8.toNat_inj.1 h⟩
structure PB(w wr:World)(b P0:Nat)(lv:Value):Prop where
 c0:wr.cell? (O P0 0)=some lv
 c1:wr.cell? (O P0 1)=some K
 d0:wr.cell? (O w.heap.size 0)=some K
 d1:wr.cell? (O w.heap.size 1)=some K
 f0:∀j,wr.frozen? (O w.heap.size j)=false
 f1:∀j,wr.frozen? (O P0 j)=false
 fb:∀j,wr.frozen? (O b j)=false
 m:Mv w wr b
 jY:wr.cell? (O b 34)=some K
 hR:w.heap.size<P0
 hP:P0<wr.heap.size
 hb:b<w.heap.size
def PB.move(h:PB w wr b P0 lv)(m:Mv wr w' b):PB w w' b P0 lv:=by
 have hR:=h.hR;have hb:=h.hb;have hP:=h.hP
 have n1:some P0≠some b:=by simp;omega
 have n2:some w.heap.size≠some b:=by simp;omega
 have fz:∀(N j:Nat),N<wr.heap.size->some N≠some b->w'.frozen? (O N j)=wr.frozen? (O N j):=λN j hN a0=>Qd (m.g.block N hN a0);exact⟨m.g.cell h.c0 n1,m.g.cell h.c1 n1,m.g.cell h.d0 n2,m.g.cell h.d1 n2,λj=>(fz _ j (by omega) n2).trans (h.f0 j),λj=>(fz _ j hP n1).trans (h.f1 j),λj=>(m.f j).trans (h.fb j),h.m.trans m,(m.o 34 (by decide)).trans h.jY,hR,Qj hP m.g.size,hb⟩
def PB.nK(h:PB w wr b P0 lv)(u:Value):PB w (wr.setCell (O P0 0) u) b P0 u:=by
 have hR:=h.hR;have hb:=h.hb;have g:=Yb wr P0 0 u
 have n1:some w.heap.size≠some P0:=by simp;omega
 have n2:some b≠some P0:=by simp;omega
 exact⟨Ub h.c0,(Yl (by decide)).trans h.c1,g.cell h.d0 n1,g.cell h.d1 n1,λj=>(frozen?_setCell _ _ _ _).trans (h.f0 j),λj=>(frozen?_setCell _ _ _ _).trans (h.f1 j),λj=>(frozen?_setCell _ _ _ _).trans (h.fb j),h.m.eI hb (by omega) _ _,g.cell h.jY n2,hR,by simpa [setCell] using h.hP,hb⟩
def PB.pl{Jb q0:Nat}{ls:Is}(h:PB w wr b P0 lv)(hq:q0<=s.length)(a1:wr.cell? (O b 1)=some (I (q0:Int)))(hi:Zw wr.heap.size wr lv ls)(a0:∀bb,lv.ownBlock=some bb->P0+1<=bb):
  PL s Jb q0 w b P0 lv ls wr 0 q0 K K [] [] []:=by
 refine⟨by omega,hq,rfl,rfl,rfl,rfl,λi hi=>by simp at hi,⟨ownsRow_nil _ _ _ _,ownsRow_nil _ _ _ _,λp hp=>?_⟩,h.c0,h.c1,h.d0,h.d1,h.f0,h.f1,h.fb,h.m.fr,a1,h.jY,h.hR,h.hP,h.hb⟩;simp only[Yu,mem_singleton]at hp;subst hp;refine⟨⟨hi,λhx=>?_⟩,λ_ bb hb=>a0 bb hb⟩;obtain⟨bb,hb,_⟩:=zv0 hi hx;rw[hb];exact⟨by simp[ownBlock],by simp[ownBlock]⟩
def Dr.lS{p q:Nat}(h:Dr w b ao cap s p)(m:Fr w w' b)(c:w'.cell? (O b 1)=some (I q))(hq:q<=s.length):Dr w' b ao cap s q:=by
 refine⟨(m.o 0 (by decide) (by decide)).trans h.c0,c,(m.f 1).trans h.f1,λb0=>?_,hq,h.hs⟩;obtain⟨bb,bo,ha,a0,hc⟩:=h.hb b0;exact⟨bb,bo,ha,a0,λi hi=>m.g.cell (hc i hi) (by simpa using a0)⟩
def Xp.lS(h:Xp w b 2)(m:Fr w w' b):Xp w' b 2:=λk hk=>by
 obtain⟨h1,h2,h3⟩:=h k hk;exact⟨(m.o _ (by omega) (by omega)).trans h1,(m.o _ (by omega) (by omega)).trans h2,(m.o _ (by omega) (by omega)).trans h3⟩
def ylx(h:Dr w b ao cap s 0)(hr:Xp w b 2)(V1:w.cell? (O b 34)=some K)(X1:∀j,w.frozen? (O b j)=false):
  E 74 #[F b] w λe w'=>zaw (Fl.decode s) b w e w':=by
 obtain⟨i0,F2,D1,G2,H2⟩:=info_parts Tryz.infoInt;obtain⟨i1,Y1,Z1,a2,b2⟩:=info_parts Tryz.infoNode;have hlb:=h.lt;have hs:=h.hs;have HD:=Z h;have HR:=Z hr;have I2:=Z V1;have J2:=Z X1;clear h hr V1 X1
 go_enter func74,ntmps74
 go_wp2_with fail
 obtain⟨W0,F0⟩:=J (w.alloc (.cells #[K,K] 30));rw[<-F0]
 have I0:Y (Mv w W0 b):=by rw[F0];exact(Mv.refl w b).alloc hlb _
 have d2:Y (W0.cell? (O b 1)=some (I 0)):=by show _=_;rw[F0,cell?_alloc_past _ _ _ hlb];exact HD.c1
 have f2:Y (W0.cell? (O w.heap.size 0)=some K/\W0.cell? (O w.heap.size 1)=some K/\∀j,W0.frozen? (O w.heap.size j)=false):=by rw[F0];exact⟨by simp,by simp,λj=>by simp⟩
 have D1:W0.heap.size=w.heap.size+1:=by rw[F0];simp
 clear F0
 go_loopw [7] (λi wr=>∃j:Nat,j<=3/\i=I j/\(∀t,t<j->bN s t=true)/\Mv W0 wr b/\wr.cell? (O b 1)=some (I (j:Int))/\j<=s.length) (λi _=>3 - (intOf i).toNat)
 case atStart=>exact⟨0,by omega,rfl,λt ht=>by omega,Mv.refl _ _,d2,by omega⟩
 case round=>
  obtain⟨i,K2,rfl,g2,hm,J0,K0⟩:=hrel;have C0:=Z g2;have HM:=Z hm;have E1:=Z J0;have G0:Y (Dr wr b ao cap s i):=HD.move (I0.trans hm) J0 K0;have F1:Y (Dr wr.drew b ao cap s i):=G0.move ((Mv.refl wr b).drew) J0 K0;clear g2 hm
  by_cases hi:i<3
  ·by_cases t0:i<s.length
   ·obtain⟨c,hc⟩:=J ((s.getD i 0).toNat)
    have HN:Y (E 102 #[F b] wr.drew λe w'=>e=.returned (.int .u8 c)/\Mv wr.drew w' b/\w'.cell? (O b 1)=some (I ((i+1:Nat):Int))):=(by rw[hc];exact zd9 F1 t0);have h2:Y (bN s i=(c==(([70,80,49]:L).getD i 0).toNat)):=(by show _=_;rw[yly t0,hc]);clear hc;have h3:i=0\/i=1\/i=2:=(by omega);clear J0
    have L2:Y (bN s i=true->∀t,t<i+1->bN s t=true):=λh t ht=>by
     by_cases h':t<i
     ·exact C0 t h'
     obtain rfl:t=i:=by omega
     exact h
    have bq:∀h,((c:Int)==(((⟨#[70,80,49]⟩:ByteArray)[i]'h).toNat:Int))=bN s i:=λh=>by
     rw[h2.out,Bool.eq_iff_iff,beq_iff_eq,beq_iff_eq];rcases h3 with rfl|rfl|rfl<;>exact Int.ofNat_inj
    clear h2
    cases hv:bN s i with
    |true=>
     have HG:=Z (L2 hv);simp only[hv]at bq;clear hv;rcases h3 with rfl|rfl|rfl
     all_goals
      have c1:=E1.out;simp at c1
      go_wp2_with fail
      refine zvz [0,1,3,4,6] [2,5,7] (by kernel_rfl) (by kernel_rfl) rfl [_,_,_,_,_] [_,_,_] rfl rfl (λc a d v w h=>by cases d<;>exact h) ?_;refine Jt (λWz HL=>?_)
      repeat refine Ju rfl (kE (by intro w' _;go_simp<;>rfl) (by go_simp<;>rfl) ?_)
      refine HL _ ?_;clear HL
      go_wp2_with (first|(go_at_call 102;refine(HN.out).mono ?_;rintro e w1 ⟨rfl,o0,D0⟩)|(go_at_call 101;refine(zx3 _ _ _).mono ?_;rintro e w2 ⟨rfl,rfl⟩))
      all_goals
       try go_wp2
       go_roundw
       case rel=>exact⟨_,by omega,by go_num,HG,(HM.drew).trans o0,D0,by omega⟩
       case measure=>simp[intOf]
    |false=>
     have HB:Y (Fl.decode s=(([],[]),false,(i:Int))):=zjv C0 hi hv;simp only[hv]at bq;clear hv;rcases h3 with rfl|rfl|rfl
     all_goals
      have c1:=E1.out;simp at c1
      go_wp2_with fail
      refine zvz [0,1,3,4,6] [2,5,7] (by kernel_rfl) (by kernel_rfl) rfl [_,_,_,_,_] [_,_,_] rfl rfl (λc a d v w h=>by cases d<;>exact h) ?_;refine Jt (λWz HL=>?_)
      repeat refine Ju rfl (kE (by intro w' _;go_simp<;>rfl) (by go_simp<;>rfl) ?_)
      refine HL _ ?_;clear HL
      go_wp2_with (first|(go_at_call 102;refine(HN.out).mono ?_;rintro e w1 ⟨rfl,o0,D0⟩)|(go_at_call 101;refine(Vp _ _ _).mono ?_;rintro e w2 ⟨rfl,M2⟩;exact⟨rfl,Vi HB (((I0.trans HM).drew.trans o0).fy M2 hlb).g⟩))
   have HB:Y (Fl.decode s=(([],[]),false,(i:Int))):=zjv C0 hi (ylz t0);have L0:i=s.length:=(by omega);have HE:Y (E 102 #[F b] wr.drew λe w'=>e=.panicked (Za 8 (i:Int))/\Mv wr.drew w' b):=by
    have:=ziz F1 t0;rw[<-L0]at this;exact this
   clear L0;have V2:(i:Int)<3:=(by omega)
   go_wp2_with fail
   refine zvz [0,1,3,4,6] [2,5,7] (by kernel_rfl) (by kernel_rfl) rfl [_,_,_,_,_] [_,_,_] rfl rfl (λc a d v w h=>by cases d<;>exact h) ?_;refine Jt (λWz HL=>?_)
   repeat refine Ju rfl (kE (by intro w' _;go_simp<;>rfl) (by go_simp<;>rfl) ?_)
   refine HL _ ?_;clear HL
   go_wp2_with (go_at_call 102;refine(HE.out).mono ?_;rintro e w1 ⟨rfl,o0⟩;exact⟨rfl,Vi HB ((I0.trans HM).drew.trans o0).g⟩)
  have hi3':i=3:=(by omega);subst hi3';have M0:Y (dy s=3):=by
   show dy s=3;unfold dy;rw[U (by rw[C0 0 (by omega)];decide),U (by rw[C0 1 (by omega)];decide),U (by rw[C0 2 (by omega)];decide)]
  clear J0 F1 hi K2
  go_wp2_with fail
  obtain⟨WP,A0⟩:=J (wr.alloc (.cells #[K,K] 30));rw[<-A0];obtain⟨P0,H0⟩:=J (wr.heap.size);rw[<-H0];have G1:Y (PB w WP b P0 K):=by
   have l1:Mv w wr b:=I0.trans HM.out;have X2:=HM.g.size;have n2:some w.heap.size≠some b:=(by simp;omega);obtain⟨r0,r1,r2⟩:=f2.out;have e0:wr.cell? (O w.heap.size 0)=some K:=HM.g.cell r0 n2;have e1:wr.cell? (O w.heap.size 1)=some K:=HM.g.cell r1 n2;have e2:∀j,wr.frozen? (O w.heap.size j)=false:=λj=>(Qd (w:=W0) (a:=(O w.heap.size j)) (HM.g.block w.heap.size (by omega) n2)).trans (r2 j);have g:wr.grownBy WP none:=(by rw[A0];exact grownBy_alloc _ _ _);have fz:∀(N j:Nat),N<wr.heap.size->WP.frozen? (O N j)=wr.frozen? (O N j):=λN j hN=>Qd (w:=wr) (a:=(O N j)) (g.block N hN (by simp));refine⟨by rw[A0,H0];simp,by rw[A0,H0];simp,g.cell e0 (by simp),g.cell e1 (by simp),λj=>(fz _ j (by omega)).trans (e2 j),λj=>by rw[A0,H0];simp,λj=>(fz b j (l1.lt hlb)).trans ((l1.f j).trans (J2 j)),l1.dY g hlb (λk e=>by cases e),g.cell ((l1.o 34 (by decide)).trans I2) (by simp),by omega,by rw[A0,H0];simp,hlb⟩
  have H1:Y (Dr WP b ao cap s 3):=(by rw[A0];exact G0.move ((Mv.refl wr b).alloc G0.lt _) (by rw[cell?_alloc_past _ _ _ G0.lt];exact G0.c1) K0);clear A0 H0 HM G0 E1 C0 f2 d2 I0 D1;have i2:Y (E 104 #[F b,I 0,I 4] WP λe w'=>zv2 (dH s 3 0 4) b WP e w'):=zt5 H1 0 4 (by omega) (by omega);refine(i2.out).mono ?_;rintro e w1 ⟨o0,b0,aS⟩
  by_cases N0:(dH s 3 0 4).2.1<0
  ·obtain rfl:=b0 N0
   exact⟨rfl,Vi (yu8 M0 K0 N0) (G1.m.trans o0).g⟩
  obtain⟨rfl,D0⟩:=aS N0;obtain⟨n,q1,hnb,j2,Y2,O0,_,Z2⟩:=zov s 3 0 4 K0 N0;rw[hnb]at D0⊢;simp only at D0⊢;have m1:=Z j2;have u0:Y (PB w w1 b P0 K):=G1.move o0;have I1:Y (Dr w1 b ao cap s q1):=H1.move o0 D0 O0;have hn4':n<=4:=(by omega);clear b0 aS N0 hnb j2 D0 o0 G1 H1 i2
  go_wp2_with fail
  refine(zl2 I1 n (by omega)).mono ?_;rintro e w2 ⟨n1,b0,aS⟩
  by_cases o1:(bW s q1 n).2.1<0
  ·obtain rfl:=b0 o1
   exact⟨rfl,Vi (yu9 M0 m1 hn4' o1) (u0.m.trans n1).g⟩
  obtain⟨lv,rfl,h0,Q0⟩:=aS o1;have J1:=ey s q1 n O0;obtain⟨ls,q2,K1,v0⟩:∃(ls:Is) (q2:Nat),bW s q1 n=(ls,(q2:Int),(bW s q1 n).2.2)/\q2<=s.length:=⟨(bW s q1 n).1,(bW s q1 n).2.1.toNat,by rw[Int.toNat_of_nonneg (by omega)],by omega⟩;rw[K1]at h0 Q0;simp only at h0 Q0;obtain⟨lao,lcap,rfl⟩:=Yh h0;have L1:=Z K1;have j0:Y (PB w w2 b P0 K):=u0.move n1;have k2:Y (Zw w2.heap.size w2 (A lao ls.length lcap) ls):=Zw.dp h0
  have p1:Y (∀bb,(A lao ls.length lcap).ownBlock=some bb->P0+1<=bb):=λbb h=>by have:=(h0.lt bb h).1;have:=u0.hP;omega
  have l2:=Z Q0;have k0:=j0.c0;have kf:=j0.f1;have HD2':Y (Dr w2 b ao cap s q2):=I1.move n1 Q0 v0;clear b0 aS o1 J1 K1 h0 Q0 n1 u0 I1
  go_wp2_with fail
  obtain⟨W3,R0⟩:=J (w2.setCell (O P0 0) (A lao ls.length lcap));rw[<-R0];have g3:w2.grownBy W3 (some P0):=(by rw[R0];exact Yb _ _ _ _);have N2:b≠P0:=(by have:=j0.hR;omega);have l0:Y (PB w W3 b P0 (A lao ls.length lcap)):=(by rw[R0];exact j0.nK _);have m2:Y (Zw W3.heap.size W3 (A lao ls.length lcap) ls):=(by rw[R0];exact Xf k2 (λ_ h=>by have h9:P0+1<=P0:=p1 P0 h;omega));have o2:Y (W3.cell? (O b 1)=some (I (q2:Int))):=g3.cell l2 (by simpa using N2);have p2:Y (Dr W3 b ao cap s q2):=HD.move l0.m o2 v0;clear R0 g3 k0 kf j0 k2 l2 HD2';have s2:Y (E 104 #[F b,I 1,I 200] W3 λe w'=>zv2 (dH s q2 1 200) b W3 e w'):=zt5 p2 1 200 (by omega) (by omega);refine(s2.out).mono ?_;rintro e w4 ⟨t1,b0,aS⟩
  by_cases S0:(dH s q2 1 200).2.1<0
  ·obtain rfl:=b0 S0
   exact⟨rfl,Vi (yuz M0 m1 hn4' L1 v0 S0) (l0.m.trans t1).g⟩
  obtain⟨rfl,u1⟩:=aS S0;obtain⟨Jb,q0,t2,u2,a3,M1,O2,T0⟩:=zov s q2 1 200 v0 S0;rw[t2]at u1⊢;simp only at u1⊢;have U0:Y (Fl.decode s=zpx s ls Jb q0):=yrw M0 m1 hn4' L1 u2 (by omega) (by omega);have hM:Jb<=200:=(by omega)
  have a0:Y (PL s Jb q0 w b P0 (A lao ls.length lcap) ls w4 0 q0 K K [] [] []):=
   (l0.move t1).pl M1 u1 (za1 (base:=P0+1) m2 (λ_=>p1.out) (Vv.grown t1.g (λk e=>by injection e with e;have:=l0.hR;omega))) p1.out
  clear b0 aS S0 t2 u2 u1 t1 l0 m2 o2 p2 s2 m1 L1 M0 O2 T0 p1
  go_wp2_with fail
  go_loopw [30] (λi wz=>∃(k q:Nat) (sv nv:Value) (st:Is) (acc:List ar) (lvs:Vs),i=I k/\PL s Jb q0 w b P0 (A lao ls.length lcap) ls wz k q sv nv st acc lvs) (λi _=>Jb - (intOf i).toNat)
  case atStart=>exact⟨0,q0,_,_,[],[],[],rfl,a0⟩
  case round=>
   clear a0;obtain⟨k,q,sv,nv,st,acc,lvs,rfl,v1⟩:=hrel;have a0:=Z v1;have b3:=v1.hk;have v2:=v1.hq;clear v1
   by_cases t0:k<Jb
   ·obtain⟨sao,scap,rfl⟩:=Yh a0.hl.hs
    obtain⟨nao,ncap,rfl⟩:=Yh a0.hl.hn;have HP0':Y _:=a0.pc;have e34:=a0.jY;have e1:=a0.a1;have d3:(k:Int)<(Jb:Int):=(by omega);have cZ:=a0.cZ
    go_wp2_with fail
    go_cut [] (λwc=>∃(sao':Option Addr) (scap':Nat),PC w b P0 (A lao ls.length lcap) wc q (A sao' (k+1) scap') (A nao k ncap) (((A lao ls.length lcap),ls)::Yu acc lvs) (A sao' (k+1) scap') (A nao k ncap) (k+1) k (st.map (int .i64)++[I (q:Int)]) (flat acc lvs))
    case first=>
     have y1:Y (PC w b P0 (A lao ls.length lcap) wr.drew q (A sao k scap) (A nao k ncap) (((A lao ls.length lcap),ls)::Yu acc lvs) (A sao k scap) (A nao k ncap) k k (st.map (int .i64)) (flat acc lvs)):=a0.pc.drew;have d34:wr.drew.cell? (O b 34)=some (A sao k scap):=e34;have d1:wr.drew.cell? (O b 1)=some (I (q:Int)):=e1;have d34a:∀o,(wr.drew.alloc o).cell? (O b 34)=some (A sao k scap):=λo=>(y1.alloc o).jY;have P2:k<=200:=(by omega);refine zvy [0,1,2,3,5,6,7] 4 8 4 9 [8,9,10,11,12,13] [9,10,11,12,13] [4,10,11,12,13] (by kernel_rfl) (by kernel_rfl) rfl rfl rfl [_,_,_,_,_,_,_] _ _ _ _ [_,_,_,_,_,_] [_,_,_,_,_] [_,_,_,_,_] rfl rfl rfl rfl rfl rfl rfl rfl (λc a d v w h=>by cases d<;>exact h) ?_;refine Jt (λWz HL=>?_)
     repeat refine Ju rfl (kE (by intro w' _;go_simp<;>rfl) (by go_simp<;>rfl) ?_)
     refine HL _ ⟨?ga,?gb⟩
     all_goals
      clear HL;generalize wr.drew=W1 at*;simp only[getElem_toArray,getElem_cons_succ,getElem_cons_zero]
     case' gb=>
      go_wp2_with fail
      refine⟨?_,?_⟩
     all_goals
      go_wp2_with (at_builtin;refine Ap underlying27 F2 D1 G2 H2 rfl (y1.alloc _).hl.hs rfl [I q] rfl rfl zvx ?c2 ?c3 ?c4 ?c5 ?_)
      case c2=>intro u hu;simp at hu;subst hu;rfl
      case c3=>unfold maxLen;omega
      case c4=>omega
      case c5=>have:=y1.hP;first|omega|(simp;omega)
      intro sv' w3 m0 x2 y2;have z1:=(y1.alloc _).first m0 x2 y2;obtain⟨sao',scap',rfl⟩:=Yh m0;have c34:=z1.jY;have fb:=z1.fb;have Q2:=Z z1;clear z1 m0 x2 y2 d34 d1 d34a
      go_wp2_with fail
      go_meet
      case rel=>exact⟨sao',scap',Q2.lZ _⟩
    case rest=>
    obtain⟨sao',scap',z2⟩:=hcut;have p0:=Z z2;obtain⟨W2,A2⟩:=J (wc);rw[<-A2]at p0⊢;clear z2 A2 e34 e1 HP0'
    go_wp2_with fail
    have B2:Y (Dr W2.drew b ao cap s q):=HD.lS p0.drew.fr p0.a1 v2;have C2:Y (Xp W2.drew b 2):=HR.lS p0.drew.fr;have N1:Y (E 105 #[F b,I k] W2.drew λe w'=>zn0 (one s q k) b W2.drew e w'):=yh1 B2 C2 k (by omega);have ec1:=p0.c1
    by_cases A1:(one s q k).2.1<0
    ·have B0:Y (Fl.decode s=(([],[]),false,(one s q k).2.2)):=U0.trans (a0.nh t0 A1)
     refine zvy [0,2,3] 1 4 1 5 [4,5,6,7,8] [5,6,7,8] [1,6,7,8] (by kernel_rfl) (by kernel_rfl) rfl rfl rfl [_,_,_] _ _ _ _ [_,_,_,_,_] [_,_,_,_] [_,_,_,_] rfl rfl rfl rfl rfl rfl rfl rfl (λc a d v w h=>by cases d<;>exact h) ?_;refine Jt (λWz HL=>?_)
     repeat refine Ju rfl (kE (by intro w' _;go_simp<;>rfl) (by go_simp<;>rfl) ?_)
     refine HL _ ⟨?_,?_⟩
     all_goals
      clear HL
      go_wp2_with (go_at_call 105;refine(N1.out).mono ?_;rintro e w5 ⟨O1,b0,_⟩;obtain rfl:=b0 A1;exact⟨rfl,Vi B0 (p0.drew.fr.trans O1.fr).g⟩)
    have P1:=iM s q k v2;obtain⟨nd,af,z,ho,V0⟩:∃(nd:ar) (af:Nat) (z:Int),one s q k=(nd,(af:Int),z)/\af<=s.length:=⟨(one s q k).1,(one s q k).2.1.toNat,(one s q k).2.2,by rw[Int.toNat_of_nonneg (by omega)],by omega⟩;have HO:=Z ho
    have D2:Y (E 105 #[F b,I k] W2.drew λe w'=>∃(vao:Option Addr) (vcap:Nat),e=.returned (.agg #[I nd.kind,I nd.ak,I nd.a,I nd.b,I nd.c,A vao nd.ae.length vcap])/\
      PC w b P0 (A lao ls.length lcap) w' af (A sao' (k+1) scap') (A nao k ncap) ((((A lao ls.length lcap),ls)::Yu acc lvs)++[(A vao nd.ae.length vcap,nd.ae)]) (A sao' (k+1) scap') (A nao k ncap) (k+1) k (st.map (int .i64)++[I (q:Int)]) (flat acc lvs)):=by
     refine(N1.out).mono ?_;rintro e w5 ⟨O1,_,aS⟩;obtain⟨lvn,rfl,B1,bB,Q1⟩:=aS A1;rw[ho]at B1 Q1⊢;simp only at B1 Q1⊢;obtain⟨vao,vcap,rfl,_⟩:=id B1;refine⟨vao,vcap,rfl,(p0.drew.move O1 Q1).add B1 bB (λbb h=>(p0.drew.hl.hs.lt bb h).2) (λbb h=>(p0.drew.hl.hn.lt bb h).2) p0.drew.hP⟩
    have dc1:W2.drew.cell? (O P0 1)=some (A nao k ncap):=ec1;have P2:k<=200:=(by omega);clear A1 ho N1 B2 C2 P1 ec1;refine zvy [0,2,3] 1 4 1 5 [4,5,6,7,8] [5,6,7,8] [1,6,7,8] (by kernel_rfl) (by kernel_rfl) rfl rfl rfl [_,_,_] _ _ _ _ [_,_,_,_,_] [_,_,_,_] [_,_,_,_] rfl rfl rfl rfl rfl rfl rfl rfl (λc a d v w h=>by cases d<;>exact h) ?_;refine Jt (λWz HL=>?_)
    repeat refine Ju rfl (kE (by intro w' _;go_simp<;>rfl) (by go_simp<;>rfl) ?_)
    refine HL _ ⟨?gc,?gd⟩
    all_goals
     clear HL;generalize W2.drew=W5 at*;simp only[getElem_toArray,getElem_cons_succ,getElem_cons_zero]
    case gc=>
     go_wp2_with (first|(go_at_call 105;refine(D2.out).mono ?_;rintro e w5 ⟨vao,vcap,rfl,x0⟩;have q1:=x0.c1;have q1a:∀o,(w5.alloc o).cell? (O P0 1)=some (A nao k ncap):=λo=>(x0.alloc o).c1;have y0:Y _:=x0;clear x0)|(at_builtin;refine Ap underlying28 Y1 Z1 a2 b2 rfl (y0.alloc _).hl.hn rfl (Zc nd (A vao nd.ae.length vcap)) rfl rfl (zkv (Zc nd (A vao nd.ae.length vcap))) ?n2 ?n3 ?n4 ?n5 ?_))
     case n2=>intro u hu;simp[Zc]at hu;rcases hu with rfl|rfl|rfl|rfl|rfl|rfl<;>rfl
     case n3=>unfold maxLen;omega
     case n4=>omega
     case n5=>have:=y0.hP;first|omega|(simp;omega)
     intro nv' w6 g0 X0 n0;have z0:=(y0.alloc _).second g0 X0 n0;obtain⟨nao',ncap',rfl⟩:=Yh g0;have x1:=z0.c1;have xf:=z0.f1;have R1:=Z z0;clear z0 g0 X0 n0 q1 q1a y0;go_wp2
     go_roundw
     case rel=>exact⟨k+1,af,_,_,_,_,_,by go_num,a0.step t0 HO V0 (R1.mQ _)⟩
     case measure=>simp[intOf];omega
    case gd=>
     go_wp2_with (go_at_call 105;refine(D2.out).mono ?_;rintro e w5 ⟨vao,vcap,rfl,x0⟩;have q1:=x0.c1;have q1a:∀o,(w5.alloc o).cell? (O P0 1)=some (A nao k ncap):=λo=>(x0.alloc o).c1;have y0:Y _:=x0;clear x0)
     refine⟨?_,?_⟩
     all_goals
      go_wp2_with (at_builtin;refine Ap underlying28 Y1 Z1 a2 b2 rfl (y0.alloc _).hl.hn rfl (Zc nd (A vao nd.ae.length vcap)) rfl rfl (zkv (Zc nd (A vao nd.ae.length vcap))) ?n2 ?n3 ?n4 ?n5 ?_)
      case n2=>intro u hu;simp[Zc]at hu;rcases hu with rfl|rfl|rfl|rfl|rfl|rfl<;>rfl
      case n3=>unfold maxLen;omega
      case n4=>omega
      case n5=>have:=y0.hP;first|omega|(simp;omega)
      intro nv' w6 g0 X0 n0;have z0:=(y0.alloc _).second g0 X0 n0;obtain⟨nao',ncap',rfl⟩:=Yh g0;have x1:=z0.c1;have xf:=z0.f1;have R1:=Z z0;clear z0 g0 X0 n0 q1 q1a y0;go_wp2
      go_roundw
      case rel=>exact⟨k+1,af,_,_,_,_,_,by go_num,a0.step t0 HO V0 (R1.mQ _)⟩
      case measure=>simp[intOf];omega
   have Y0:=U0.trans (a0.bG t0);have Z0:=Z Y0;have e0:wr.cell? (O b 0)=some (A ao s.length cap):=(a0.fr.o 0 (by decide) (by decide)).trans HD.c0;have e1:=a0.a1;clear Y0
   by_cases E2:q<s.length
   ·have bq:((q:Int)==(s.length:Int))=false:=beq_eq_false_iff_ne.2 (by omega)
    have B0:Y (Fl.decode s=(([],[]),false,(q:Int))):=Z0.trans (G E2)
    go_wp2_with fail
    go_still_tail 15,(by kernel_rfl)
    go_wp2_with (go_at_call 101;refine(Vp _ _ _).mono ?_;rintro e w6 ⟨rfl,R2⟩;exact⟨rfl,Vi B0 (a0.pc.drew.below R2).fr.g⟩)
   have S2:q=s.length:=(by omega);have bq:((q:Int)==(s.length:Int))=true:=beq_iff_eq.2 (by omega);have b1:Y (Fl.decode s=if 0<=aJ acc then(([],[]),false,st.getD (aJ acc).toNat 0) else((ls,acc),true,0)):=Z0.trans (U E2);clear S2
   go_wp2_with fail
   go_still_tail 15,(by kernel_rfl)
   change wpList _ _ _ _ _ wr.drew
   have C1:Y (PC w b P0 (A lao ls.length lcap) wr.drew q sv nv (((A lao ls.length lcap),ls)::Yu acc lvs) sv nv k k (st.map (int .i64)) (flat acc lvs)):=a0.pc.drew
   have h1:Y (E 106 #[F b,nv] wr.drew (ypv acc st wr.drew)):=
    yr8 acc st nv sv b wr.drew a0.nodes a0.mH (by rw[a0.cZ,a0.ee]) (by rw[a0.ee];omega) a0.aS C1.jY
   have g1:wr.drew.cell? (O P0 1)=some nv:=C1.c1;obtain⟨nao,ncap,rfl⟩:=Yh a0.hl.hn
   have S1:Y (∀w7,Below wr.drew.heap.size wr.drew w7->Zw w7.heap.size w7 (A lao ls.length lcap) ls/\Zl w7.heap.size w7 (A nao k ncap) acc):=λw7 h7=>
    ⟨(a0.ap.below (w':=w7) ⟨h7.os,h7.tape,h7.output,h7.size,h7.block⟩).mono h7.size,(a0.nodes.below (w':=w7) ⟨h7.os,h7.tape,h7.output,h7.size,h7.block⟩).mono h7.size⟩
   generalize wr.drew=W1 at*
   by_cases j1:0<=aJ acc
   ·have B0:Y (Fl.decode s=(([],[]),false,st.getD (aJ acc).toNat 0)):=b1.trans (G j1)
    go_wp2_with (first|(go_at_call 101;refine(zx3 _ _ _).mono ?_;rintro e w6 ⟨rfl,n0⟩;rw[n0];clear n0)|(go_at_call 106;refine(h1.out).mono ?_;rintro e w7 ⟨k1,b0,_⟩;obtain rfl:=b0 j1;exact⟨rfl,Vi B0 (C1.below k1).fr.g⟩))
   have B0:Y (Fl.decode s=((ls,acc),true,0)):=b1.trans (U j1);have T2:=Z j1;clear j1
   go_wp2_with (first|(go_at_call 101;refine(zx3 _ _ _).mono ?_;rintro e w6 ⟨rfl,n0⟩;rw[n0];clear n0)|(go_at_call 106;refine(h1.out).mono ?_;rintro e w7 ⟨k1,_,aS⟩;obtain rfl:=aS (by have:=T2.out;omega);have E0:=C1.below k1;obtain⟨hl7,hn7⟩:=S1 w7 k1;have r0:=E0.d0;have r1:=E0.d1;have rf:=E0.f0;have s0:=E0.c0;have s1:=E0.c1;have T1:Y _:=E0;have e3:Y _:=hl7;have f3:Y _:=hn7;clear E0 hl7 hn7 k1 aS))
   have i3:=T1.hR;have q0:((w7.setCell (O w.heap.size 0) (A lao ls.length lcap)).setCell (O w.heap.size 1) (A nao k ncap)).cell? (O w.heap.size 0)=some (A lao ls.length lcap):=(Yl (by decide)).trans (Ub r0);have q1:((w7.setCell (O w.heap.size 0) (A lao ls.length lcap)).setCell (O w.heap.size 1) (A nao k ncap)).cell? (O w.heap.size 1)=some (A nao k ncap):=Ub ((Yl (by decide)).trans r1);have q0':(w7.setCell (O w.heap.size 0) (A lao ls.length lcap)).cell? (O w.heap.size 0)=some (A lao ls.length lcap):=Ub r0;have U2:=(T1.hl.stay (Vv.grown (Yb w7 w.heap.size 0 (A lao ls.length lcap)) (λk e=>by injection e with e;omega))).stay (Vv.grown (Yb _ w.heap.size 1 (A nao k ncap)) (λk e=>by injection e with e;omega));have ee:=a0.ee;have fV:=a0.fV;refine bodyPost_ret (v:=.agg #[A lao ls.length lcap,A nao k ncap]) (by simp[results,results74,go_sem,q0,q1,q0']) rfl ⟨((T1.fr.dY (Yb w7 w.heap.size 0 (A lao ls.length lcap)) hlb (λk e=>by injection e with e;omega)).dY (Yb _ w.heap.size 1 (A nao k ncap)) hlb (λk e=>by injection e with e;omega)).g,λh=>(by rw[B0.out]at h;cases h),λ_=>?_⟩;rw[B0.out];refine⟨_,_,rfl,λw9 cZ=>?_⟩;have U1:=U2.stay (cZ.mono (by omega));exact⟨(U1.aT (A lao ls.length lcap,ls) (by simp)).1.1,Uy (by rw[ee];exact U1.hn) (by rw[ee,fV]) (λi hi=>(U1.aT _ (by simp only[mem_cons];right;exact Vj acc lvs i (by rw[ee,fV]) hi)).1.1)⟩
def Vv.setCell(base:Nat)(w:World)(b i:Nat)(v:Value)(hb:b<base):Vv base w (w.setCell (O b i) v):=Vv.grown (Yb w b i v) (λk e=>by injection e with e;omega)
def yg3(r:(Is×List ar)×Bool×Int)(b Qy P:Nat)(w:World)(e:Ending)(w':World):Prop:=
 (r.2.1=false->e=.panicked (Za 8 r.2.2)/\w.grownBy w' (some b))/\
 (r.2.1=true->∃lv nv w1,e=.returned (.tuple #[])/\w.grownBy w1 (some b)/\w'=(w1.setCell (O P 0) lv).setCell (O P 1) nv/\(∃a n c a' n' c',lv=A a n c/\nv=A a' n' c')/\∀w'',Vv w.heap.size w1 w''->Zw w''.heap.size w'' lv r.1.1/\Zl w''.heap.size w'' nv r.1.2)
def yg4{Qy P:Nat}(h:Dr w b ao cap s 0)(hr:Xp w b 2)(d0:w.cell? (O b 34)=some K)(e0:∀j,w.frozen? (O b j)=false)
  (hd:w.cell? (O Qy 0)=some (F b)) (f0:w.cell? (O P 0)=some K) (g0:w.cell? (O P 1)=some K) (h0:∀j,w.frozen? (O P j)=false) (b0:P≠b):
  E 73 #[F Qy,F P] w (yg3 (Fl.decode s) b Qy P w):=by
 have HW:=Z (ylx h hr d0 e0);clear h hr d0 e0;have c0:=Qe w _ f0
 go_enter func73,ntmps73
 go_wp2_with fail
 refine(HW.out).mono ?_;rintro e w1 ⟨hg,a0,aS⟩
 cases hr:(Fl.decode s).2.1 with
 |false=>
  obtain rfl:=a0 hr;exact⟨rfl,λ_=>⟨rfl,hg⟩,λh=>by rw[hr]at h;cases h⟩
 |true=>
  obtain⟨lv,nv,rfl,cZ⟩:=aS hr;obtain⟨hl,hn⟩:=cZ w1 ⟨lE,λ_ _ _=>rfl⟩;obtain⟨la,lc,rfl,_⟩:=id hl;obtain⟨na,nc,rfl,_⟩:=id hn;have q0:=hg.cell f0 (by simpa using b0);have q1:=hg.cell g0 (by simpa using b0);have qf:∀j,w1.frozen? (O P j)=false:=λj=>(Qd (hg.block P c0 (by simpa using b0))).trans (h0 j);have HG:=Z hg;have i0:=Z cZ;have j0:=Z hr;clear a0 aS hl hn cZ hg hr;go_wp2
  go_end0
  exact⟨λh=>(by rw[j0.out]at h;cases h),λ_=>⟨_,_,w1,rfl,HG,rfl,⟨_,_,_,_,_,_,rfl,rfl⟩,i0⟩⟩
def zrz(bs:Value):Array Value:=#[bs,I 0]++Yr++ #[K]
def ylw(w:World)(o0 o1 o2 o3 o4 o5:Obj):((((((w.alloc o0).alloc o1).alloc o2).alloc o3).alloc o4).alloc o5).heap[w.heap.size]?=some o0/\
  ((((((w.alloc o0).alloc o1).alloc o2).alloc o3).alloc o4).alloc o5).heap[w.heap.size+2]?=some o2/\
  ((((((w.alloc o0).alloc o1).alloc o2).alloc o3).alloc o4).alloc o5).heap[w.heap.size+3]?=some o3/\
  ((((((w.alloc o0).alloc o1).alloc o2).alloc o3).alloc o4).alloc o5).heap[w.heap.size+4]?=some o4/\
  ((((((w.alloc o0).alloc o1).alloc o2).alloc o3).alloc o4).alloc o5).heap[w.heap.size+5]?=some o5/\
  ((((((w.alloc o0).alloc o1).alloc o2).alloc o3).alloc o4).alloc o5).heap.size=w.heap.size+6/\
  D w ((((((w.alloc o0).alloc o1).alloc o2).alloc o3).alloc o4).alloc o5):=by
 have a:∀(u:World) (o:Obj) (k:Nat),k<u.heap.size->(u.alloc o).heap[k]?=u.heap[k]?:=λu o k hk=>Below.heap_alloc _ _ _ hk
 have l:∀(u:World) (o:Obj) (k:Nat),u.heap.size=k->(u.alloc o).heap[k]?=some o:=λu o k hk=>by subst hk;exact heap_alloc_last u o
 refine⟨?_,?_,?_,?_,?_,by simp,((((((Below.refl _ w).alloc lE _).alloc (by simp<;>omega) _).alloc (by simp<;>omega) _).alloc (by simp<;>omega) _).alloc (by simp<;>omega) _).alloc (by simp<;>omega) _⟩
 ·rw[a _ _ _ (by simp<;>omega),a _ _ _ (by simp<;>omega),a _ _ _ (by simp<;>omega),a _ _ _ (by simp<;>omega),a _ _ _ (by simp<;>omega),l _ _ _ rfl]
 ·rw[a _ _ _ (by simp<;>omega),a _ _ _ (by simp<;>omega),a _ _ _ (by simp<;>omega),l _ _ _ (by simp<;>omega)]
 ·rw[a _ _ _ (by simp<;>omega),a _ _ _ (by simp<;>omega),l _ _ _ (by simp<;>omega)]
 ·rw[a _ _ _ (by simp<;>omega),l _ _ _ (by simp<;>omega)]
 rw[l _ _ _ (by simp<;>omega)]
def zwx(w:World)(b j:Nat)(c:Array Value)(te:TypeId)(h:w.heap[b]?=some (.cells c te)):w.frozen? (O b j)=false:=by simp[frozen?,h]
def dec_at0(bs:Value):(zrz bs)[0]?=some bs:=by kernel_rfl
def dec_at1(bs:Value):(zrz bs)[1]?=some (I 0):=by kernel_rfl
def ycw(bs:Value):(zrz bs)[34]?=some K:=by kernel_rfl
def yg5{bs:Value}(q:∀i,w.cell? (O b i)=(zrz bs)[i]?):Xp w b 2:=by
 intro k hk
 have:k=0\/k=1\/k=2\/k=3\/k=4\/k=5\/k=6\/k=7:=by omega
 rcases this with rfl|rfl|rfl|rfl|rfl|rfl|rfl|rfl<;>exact⟨(q _).trans (by kernel_rfl),(q _).trans (by kernel_rfl),(q _).trans (by kernel_rfl)⟩
def W5(w:World)(bs:Value):World:=((((w.alloc (.cells #[K,K] 30)).alloc (.cells Yr 171)).alloc (.cells (zrz bs) 174)).alloc (.cells #[Pp (w.heap.size+2) 0] 167)).alloc (.cells #[K,K] 30)
structure yg6(r:(Is×List ar)×Bool×Int)(w:World)(e:Ending)(w':World):Prop where
 hB:D w w'
 cD:w.heap.size+6<=w'.heap.size
 c0:w'.cell? (O w.heap.size 0)=some K
 c1:w'.cell? (O w.heap.size 1)=some K
 fz:∀j,w'.frozen? (O w.heap.size j)=false
 dP:r.2.1=false->∃q,e=.returned (.iface 124 (F q))/\w.heap.size+6<=q/\w'.cell? (O q 0)=some (I 8)/\w'.cell? (O q 1)=some (I r.2.2)
 fd:r.2.1=true->∃la n lc na n' nc,e=.returned .nilIface/\w'.cell? (O (w.heap.size+4) 0)=some (A la n lc)/\w'.cell? (O (w.heap.size+4) 1)=some (A na n' nc)/\∀w'',Vv (w.heap.size+6) w' w''->Zw w''.heap.size w'' (A la n lc) r.1.1/\Zl w''.heap.size w'' (A na n' nc) r.1.2
def yt0(hs:s.length<=1099511627776)(hb:s≠[]->∃bb bo,ao=some (O bb bo)/\bb<w.heap.size/\∀i,i<s.length->w.cell? (O bb (bo+i))=some (.int .u8 (s.getD i 0).toNat)):
  E 69 #[.func (.func 73) #[] #[Pp (w.heap.size+3) 0,Pp (w.heap.size+4) 0]] (W5 w (A ao s.length cap)) (yg6 (Fl.decode s) w):=by
 obtain⟨r0,r2,r3,r4,r5,cD,hB⟩:let W:=(W5 w (A ao s.length cap)).alloc (.cells #[.nilIface] 96);_:=ylw w (.cells #[K,K] 30) (.cells Yr 171) (.cells (zrz (A ao s.length cap)) 174) (.cells #[Pp (w.heap.size+2) 0] 167) (.cells #[K,K] 30) (.cells #[.nilIface] 96)
 have h5:(W5 w (A ao s.length cap)).heap.size=w.heap.size+5:=by simp[W5]
 change ((W5 w (A ao s.length cap)).alloc (.cells #[.nilIface] 96)).heap[w.heap.size]?=_ at r0
 change ((W5 w (A ao s.length cap)).alloc (.cells #[.nilIface] 96)).heap[w.heap.size+2]?=_ at r2
 change ((W5 w (A ao s.length cap)).alloc (.cells #[.nilIface] 96)).heap[w.heap.size+3]?=_ at r3
 change ((W5 w (A ao s.length cap)).alloc (.cells #[.nilIface] 96)).heap[w.heap.size+4]?=_ at r4
 change ((W5 w (A ao s.length cap)).alloc (.cells #[.nilIface] 96)).heap[w.heap.size+5]?=_ at r5
 change ((W5 w (A ao s.length cap)).alloc (.cells #[.nilIface] 96)).heap.size=_ at cD
 change D w ((W5 w (A ao s.length cap)).alloc (.cells #[.nilIface] 96)) at hB
 have c0:=zaz 73 #[Pp (w.heap.size+3) 0,Pp (w.heap.size+4) 0] (W5 w (A ao s.length cap));generalize hW6:(W5 w (A ao s.length cap)).alloc (.cells #[.nilIface] 96)=W6 at*;rw[h5]at c0;have cc:∀(b i:Nat) (c:Array Value) (te:TypeId),W6.heap[b]?=some (.cells c te)->W6.cell? (O b i)=c[i]?:=λb i c te h=>cell_of_row W6 b i c te (0,0) h;have g0:Dr W6 (w.heap.size+2) ao cap s 0:=by
  refine⟨(cc _ _ _ _ r2).trans (dec_at0 _),(cc _ _ _ _ r2).trans (dec_at1 _),zwx _ _ _ _ _ r2,λa0=>?_,Nat.zero_le _,hs⟩;obtain⟨bb,bo,ha,b0,hc⟩:=hb a0;exact⟨bb,bo,ha,by omega,λi hi=>cT hB b0 (hc i hi)⟩
 have h0:=yg5 (λi=>cc _ i _ _ r2);have i0:=yg4 g0 h0 ((cc _ _ _ _ r2).trans (ycw _)) (λj=>zwx _ _ _ _ _ r2) ((cc _ _ _ _ r3).trans rfl) ((cc _ _ _ _ r4).trans rfl) ((cc _ _ _ _ r4).trans rfl) (λj=>zwx _ _ _ _ _ r4) (by omega);have far:∀{w1:World},W6.grownBy w1 (some (w.heap.size+2))->(∀k,k<w.heap.size+6->k≠w.heap.size+2->w1.heap[k]?=W6.heap[k]?)/\w.heap.size+6<=w1.heap.size:=λg=>⟨λk hk a0=>g.block k (by omega) (by simpa using a0),by have:=g.size;omega⟩;have kg:∀(u:World) (i:Nat) (v:Value) (k:Nat),k≠w.heap.size+4->(u.setCell (O (w.heap.size+4) i) v).heap[k]?=u.heap[k]?:=λu i v k hk=>Below.heap_setCell _ _ _ _ (by intro h;exact hk (by simpa using h));refine(c0 (λw'=>(Fl.decode s).2.1=true/\yg3 (Fl.decode s) (w.heap.size+2) (w.heap.size+3) (w.heap.size+4) W6 (.returned (.tuple #[])) w') (λn pl w'=>(Fl.decode s).2.1=false/\n=8/\pl=(Fl.decode s).2.2/\W6.grownBy w' (some (w.heap.size+2))) (λW=>by kernel_rfl) (i0.mono ?_)).mono ?_
 ·rintro e w' hd
  cases hr:(Fl.decode s).2.1 with
  |false=>
   obtain⟨rfl,hg⟩:=hd.1 hr;have h5':=(far hg).1 (w.heap.size+5) (by omega) (by omega);exact⟨(Qc h5').trans ((cc _ _ _ _ r5).trans rfl),(Qd h5').trans (zwx _ _ _ _ _ r5),.inr ⟨_,_,rfl,rfl,rfl,rfl,hg⟩⟩
  |true=>
   obtain⟨lv,nv,w1,rfl,hg,rfl,j0,cZ⟩:=hd.2 hr;have h5':((w1.setCell (O (w.heap.size+4) 0) lv).setCell (O (w.heap.size+4) 1) nv).heap[w.heap.size+5]?=W6.heap[w.heap.size+5]?:=by
    rw[kg _ _ _ _ (by omega),kg _ _ _ _ (by omega)];exact(far hg).1 (w.heap.size+5) (by omega) (by omega)
   exact⟨(Qc h5').trans ((cc _ _ _ _ r5).trans rfl),(Qd h5').trans (zwx _ _ _ _ _ r5),.inl ⟨rfl,rfl,hd⟩⟩
 have belowG:∀{w1:World},W6.grownBy w1 (some (w.heap.size+2))->D w w1:=λg=>⟨g.os.trans hB.os,g.tape.trans hB.tape,g.output.trans hB.output,Nat.le_trans hB.size g.size,λk hk=>(g.block k (by omega) (by simp;omega)).trans (hB.block k hk)⟩;rintro e wz (⟨w2,rfl,⟨hr,hd⟩,rfl⟩|⟨n,pl,w1,o,rfl,⟨hr,rfl,rfl,hg⟩,rfl⟩)
 ·obtain⟨lv,nv,w1,-,hg,rfl,⟨la,n,lc,na,n',nc,rfl,rfl⟩,cZ⟩:=hd.2 hr
  have mJ:∀(u:World) (v:Value) (k:Nat),k≠w.heap.size+5->(u.setCell (O (w.heap.size+5) 0) v).heap[k]?=u.heap[k]?:=λu v k hk=>Below.heap_setCell _ _ _ _ (by intro h;exact hk (by simpa using h))
  have aT:∀k,k≠w.heap.size+4->k≠w.heap.size+5->(((w1.setCell (O (w.heap.size+4) 0) (A la n lc)).setCell (O (w.heap.size+4) 1) (A na n' nc)).setCell (O (w.heap.size+5) 0) .nilIface).heap[k]?=w1.heap[k]?:=λk h4 h5=>by
   rw[mJ _ _ _ h5,kg _ _ _ _ h4,kg _ _ _ _ h4]
  have hn:(((w1.setCell (O (w.heap.size+4) 0) (A la n lc)).setCell (O (w.heap.size+4) 1) (A na n' nc)).setCell (O (w.heap.size+5) 0) .nilIface).heap[w.heap.size]?=W6.heap[w.heap.size]?:=(aT _ (by omega) (by omega)).trans ((far hg).1 _ (by omega) (by omega));have e0:=(far hg).1 (w.heap.size+4) (by omega) (by omega);have p0:=(Qc (w:=W6) (a:=(O (w.heap.size+4) 0)) e0).trans ((cc _ _ _ _ r4).trans rfl);have p1:=(Qc (w:=W6) (a:=(O (w.heap.size+4) 1)) e0).trans ((cc _ _ _ _ r4).trans rfl);refine⟨(((belowG hg).setCell (show w.heap.size<=((O (w.heap.size+4) 0):Addr).block by simp) _).setCell (show w.heap.size<=((O (w.heap.size+4) 1):Addr).block by simp) _).setCell (show w.heap.size<=((O (w.heap.size+5) 0):Addr).block by simp) _,?_,?_,?_,?_,?_,?_⟩
  ·have:=(far hg).2;simpa using this
  ·exact(Qc hn).trans ((cc _ _ _ _ r0).trans rfl)
  ·exact(Qc hn).trans ((cc _ _ _ _ r0).trans rfl)
  ·exact λj=>(Qd hn).trans (zwx _ _ _ _ _ r0)
  ·intro h;rw[hr]at h;cases h
  intro _;have d0:(((w1.setCell (O (w.heap.size+4) 0) (A la n lc)).setCell (O (w.heap.size+4) 1) (A na n' nc)).setCell (O (w.heap.size+5) 0) .nilIface).cell? (O (w.heap.size+4) 0)=some (A la n lc):=by
   refine(Qg _ _ _ _ (by simp)).trans ((Qg _ _ _ _ (by simp)).trans ?_);exact cell?_setCell_same' _ _ _ (by simp[p0])
  have d1:(((w1.setCell (O (w.heap.size+4) 0) (A la n lc)).setCell (O (w.heap.size+4) 1) (A na n' nc)).setCell (O (w.heap.size+5) 0) .nilIface).cell? (O (w.heap.size+4) 1)=some (A na n' nc):=by
   refine(Qg _ _ _ _ (by simp)).trans (cell?_setCell_same' _ _ _ ?_);refine(congrArg Option.isSome (Qg _ _ _ _ (by simp))).trans ?_;simp[p1]
  refine⟨la,n,lc,na,n',nc,rfl,d0,d1,λw'' hs''=>cZ w'' ⟨?_,λk hk b0=>?_⟩⟩
  ·have:=hs''.size;simpa using this
  rw[cD]at hk;exact(hs''.block k (by omega) (by simpa using b0)).trans (aT k (by omega) (by omega))
 have k0:=(far hg).2
 have aT:∀v k,k<w.heap.size+5->(((w1.alloc o).alloc (.cells #[I 8,I (Fl.decode s).2.2] 128)).setCell (O (w.heap.size+5) 0) v).heap[k]?=w1.heap[k]?:=λv k hk=>by
  rw[Below.heap_setCell _ _ _ _ (by simp;omega),Below.heap_alloc _ _ _ (by simp;omega),Below.heap_alloc _ _ _ (by omega)]
 have hn:=λv=>(aT v w.heap.size (by omega)).trans ((far hg).1 w.heap.size (by omega) (by omega))
 have hq:∀v,(((w1.alloc o).alloc (.cells #[I 8,I (Fl.decode s).2.2] 128)).setCell (O (w.heap.size+5) 0) v).heap[w1.heap.size+1]?=some (.cells #[I 8,I (Fl.decode s).2.2] 128):=λv=>by
  rw[Below.heap_setCell _ _ _ _ (by simp;omega)];have:=heap_alloc_last (w1.alloc o) (.cells #[I 8,I (Fl.decode s).2.2] 128);simpa using this
 have f0:=λv i=>cell_of_row _ (w1.heap.size+1) i _ _ (0,0) (hq v);refine⟨(((belowG hg).alloc (by omega) _).alloc (by simp;omega) _).setCell (show w.heap.size<=((O (w.heap.size+5) 0):Addr).block by simp) _,by simp;omega,?_,?_,?_,?_,?_⟩
 ·exact(Qc (hn _)).trans ((cc _ _ _ _ r0).trans rfl)
 ·exact(Qc (hn _)).trans ((cc _ _ _ _ r0).trans rfl)
 ·exact λj=>(Qd (hn _)).trans (zwx _ _ _ _ _ r0)
 ·exact λ_=>⟨_,rfl,by omega,(f0 _ 0).trans rfl,(f0 _ 1).trans rfl⟩
 intro h;rw[hr]at h;cases h
def yo3{wz:World}{N:Nat}{u0 u1:Value}(v0 v1:Value)(c0:wz.cell? (O N 0)=some u0)(c1:wz.cell? (O N 1)=some u1):
  ((wz.setCell (O N 0) v0).setCell (O N 1) v1).cell? (O N 0)=some v0/\((wz.setCell (O N 0) v0).setCell (O N 1) v1).cell? (O N 1)=some v1/\
  (∀k,k≠N->((wz.setCell (O N 0) v0).setCell (O N 1) v1).heap[k]?=wz.heap[k]?)/\((wz.setCell (O N 0) v0).setCell (O N 1) v1).heap.size=wz.heap.size/\
  (∀B w,Below B w wz->B<=N->Below B w ((wz.setCell (O N 0) v0).setCell (O N 1) v1)):=by
 refine⟨?_,?_,λk hk=>?_,by simp,λB w h hB=>(h.setCell (show B<=((O N 0):Addr).block from hB) _).setCell (show B<=((O N 1):Addr).block from hB) _⟩
 ·exact(Qg _ _ _ _ (by simp)).trans (cell?_setCell_same' _ _ _ (by simp[c0]))
 ·refine cell?_setCell_same' _ _ _ ((congrArg Option.isSome (Qg _ _ _ _ (by simp))).trans ?_)
  simp[c1]
 exact(Below.heap_setCell _ _ _ _ (by intro h;exact hk (by simpa using h))).trans (Below.heap_setCell _ _ _ _ (by intro h;exact hk (by simpa using h)))
def ylv(r:(Is×List ar)×Bool×Int)(w:World)(e:Ending)(w':World):Prop:=
 D w w'/\
 (r.2.1=false->∃q,e=.returned (.tuple #[.agg #[K,K],.iface 124 (F q)])/\w'.cell? (O q 0)=some (I 8)/\w'.cell? (O q 1)=some (I r.2.2))/\
 (r.2.1=true->∃la n lc na n' nc,e=.returned (.tuple #[.agg #[A la n lc,A na n' nc],.nilIface])/\∀w'',Vv w.heap.size w' w''->Zw w''.heap.size w'' (A la n lc) r.1.1/\Zl w''.heap.size w'' (A na n' nc) r.1.2)
def yq1(hs:s.length<=1099511627776)(hb:s≠[]->∃bb bo,ao=some (O bb bo)/\bb<w.heap.size/\∀i,i<s.length->w.cell? (O bb (bo+i))=some (.int .u8 (s.getD i 0).toNat)):
  E 57 #[A ao s.length cap] w (ylv (Fl.decode s) w):=by
 have g0:∀(fn:Fn) (first cap:Array Value) (w:World),(Instr.makeFunc fn first cap).run prog w=.ok (.func fn first cap) w:=λ_ _ _ _=>rfl;have HC:=Z (yt0 (cap:=cap) hs hb);clear hs hb
 go_enter func57,ntmps57
 go_wp2_with (first|(go_at_call 72;refine(zl4 _).mono ?_;rintro e w1 ⟨rfl,rfl⟩)|(refine Ux rfl 174 _ rfl (zrz (A ao s.length cap)) (by kernel_rfl) ?_))
 refine(HC.out).mono ?_;clear HC;rintro e wz ⟨hB,cD,c0,c1,fz,a0,aS⟩;have HB:=Z hB;clear hB
 cases hr:(Fl.decode s).2.1 with
 |false=>
  obtain⟨q,rfl,hq,q0,q1⟩:=a0 hr;have b0:=Z hr;clear a0 aS hr
  go_wp2_with fail
  obtain⟨e0,e1,ek,es,eb⟩:=yo3 K K c0 c1;exact bodyPost_ret (by simp[results,results57,go_sem,e0,e1]) rfl
   ⟨eb _ _ HB lE,λ_=>⟨q,rfl,(Qc (ek q (by omega))).trans q0,(Qc (ek q (by omega))).trans q1⟩,λh=>by rw[b0.out]at h;cases h⟩
 |true=>
  obtain⟨la,n,lc,na,n',nc,rfl,d0,d1,cZ⟩:=aS hr;have b0:=Z hr;have f0:=Z cZ;clear a0 aS hr cZ
  go_wp2_with fail
  obtain⟨e0,e1,ek,es,eb⟩:=yo3 (A la n lc) (A na n' nc) c0 c1;exact bodyPost_ret (by simp[results,results57,go_sem,e0,e1]) rfl
   ⟨eb _ _ HB lE,λh=>(by rw[b0.out]at h;cases h),λ_=>⟨la,n,lc,na,n',nc,rfl,λw'' hs''=>f0 w'' ⟨Nat.le_trans (Nat.le_of_eq es.symm) hs''.size,λk hk hlt=>(hs''.block k (by omega) (Qj hlt (Nat.le_of_eq es.symm))).trans (ek k (by omega))⟩⟩⟩
end

open Go.RowKit
def Zw.at{B:Nat}{w:World}{ao:Option Addr}{n cap:Nat}{xs:Is}(h:Zw B w (A ao n cap) xs){i:Nat}(hi:i<xs.length):∃b off,ao=some (O b off)/\b<B/\w.cell? (O b (off+i))=some (I (xs.getD i 0)):=by
 obtain⟨ao',cap',hv,_,_,hx⟩:=h;obtain⟨b,off,ha,b0,a0⟩:=hx (by intro hh;rw[hh]at hi;simp at hi);simp only[slice.injEq]at hv;exact⟨b,off,hv.1.trans ha,b0,a0 i hi⟩
section
open Go.RowKit Go.Extern.Stop Go.Stop Go.Extern
def zlv(t:Addr)(w:World):(ReflectliteValue.unpack (.iface 126 (.pointer (some t)))).run prog w=.ok (.agg #[.pointer (some ⟨4,126,none⟩),F w.heap.size,.int .u64 150]) (w.alloc (.cells #[.pointer (some t)] 126)):=by kernel_rfl
def zav(a:Addr)(w:World):(ReflectliteValue.methodAny (ReflectliteValue.valueError "reflectlite.Value.Type" 0) (λt _ _ _=>ReflectliteType.toType t) #[.agg #[.pointer (some ⟨4,126,none⟩),.pointer (some a),.int .u64 150]]).run prog w=.ok (.iface 188 (.agg #[.pointer (some ⟨4,126,none⟩)])) w:=by kernel_rfl
def zs4(h:Value)(w:World):(Go.method 431 188 (.agg #[h]) "Kind").run prog w=.ok (208,h) w:=by kernel_rfl
def yz0(w:World):((ReflectliteType.abiMethod λt=>Functor.map (λa:Nat=>int IntKind.u8 (a:Int)) (Rtype.kind t)) #[.pointer (some ⟨4,126,none⟩)]).run prog w=.ok (.int .u8 22) w:=by kernel_rfl
def yt1(w:World):((ReflectliteType.abiMethod λt=>Functor.map (λa:Nat=>int IntKind.u8 (a:Int)) (Rtype.kind t)) #[.pointer (some ⟨4,124,none⟩)]).run prog w=.ok (.int .u8 22) w:=by kernel_rfl
def zqz(z:Sem Value)(f:TypeId->Addr->Nat->Nat->Sem Value)(v:Value)(t:TypeId)(a:Addr)(fl:Nat)(w w':World)(h:(ReflectliteValue.parts v).run prog w=.ok (some (t,a,fl)) w'):
  (ReflectliteValue.method z f #[v]).run prog w=(f t a fl (fl % 32)).run prog w':=by
 show (Sem.run prog (ReflectliteValue.parts v>>=_) w)=_;rw[Sem.run_bind,h];rfl
def ze3(a:Addr)(w:World):(ReflectliteValue.parts (.agg #[.pointer (some ⟨4,126,none⟩),.pointer (some a),.int .u64 150])).run prog w=.ok (some (126,a,150)) w:=by kernel_rfl
def ze4(a p:Addr)(W:World)(ha:W.cell? a=some (.pointer (some p))):(ReflectliteValue.method (ReflectliteValue.valueError "reflectlite.Value.IsNil" 0) ReflectliteValue.isNil #[.agg #[.pointer (some ⟨4,126,none⟩),.pointer (some a),.int .u64 150]]).run prog W=.ok (.bool false) W:=by
 rw[zqz _ _ _ _ _ _ _ _ (ze3 a W)];simp[ReflectliteValue.isNil,loadVar,isAgg,underlying,underlying126,ha,Result.andThen]
def zs5(h:Value)(w:World):(Go.method 431 188 (.agg #[h]) "Elem").run prog w=.ok (221,.agg #[h]) w:=by kernel_rfl
def zy1(h:Value)(w:World):(Go.method 431 188 (.agg #[h]) "Implements").run prog w=.ok (222,.agg #[h]) w:=by kernel_rfl
def Jk(h:Value)(w:World):(Go.method 431 188 (.agg #[h]) "AssignableTo").run prog w=.ok (219,.agg #[h]) w:=by kernel_rfl
def yz1(w:World):(ReflectliteType.method ReflectliteType.elem #[.agg #[.pointer (some ⟨4,126,none⟩)]]).run prog w=.ok (.iface 188 (.agg #[.pointer (some ⟨4,124,none⟩)])) w:=by kernel_rfl
def zpw(w:World):(ReflectliteType.relation "Implements" ReflectliteType.implements_ #[.agg #[.pointer (some ⟨4,124,none⟩)],.iface 188 (.agg #[.pointer (some ⟨4,96,none⟩)])]).run prog w=.ok (.bool true) w:=by kernel_rfl
def yk0(v:Value)(w:World):(ReflectliteType.typeOf #[.iface 124 v]).run prog w=.ok (.iface 188 (.agg #[.pointer (some ⟨4,124,none⟩)])) w:=by kernel_rfl
def zcz(w:World):(ReflectliteType.relation "AssignableTo" ReflectliteType.assignableTo #[.agg #[.pointer (some ⟨4,124,none⟩)],.iface 188 (.agg #[.pointer (some ⟨4,124,none⟩)])]).run prog w=.ok (.bool true) w:=by kernel_rfl
def yq2(e:Addr)(w:World):(ReflectliteValue.unpack (.iface 124 (.pointer (some e)))).run prog w=.ok (.agg #[.pointer (some ⟨4,124,none⟩),F w.heap.size,.int .u64 150]) (w.alloc (.cells #[.pointer (some e)] 124)):=by kernel_rfl
def yq3(w:World):(Rtype.elem? 126).run prog w=.ok (some 124) w:=by kernel_rfl
def rl_mkP(p:Addr)(w:World):(ReflectliteValue.mk 124 p ReflectliteValue.flagAddr).run prog w=.ok (.agg #[.pointer (some ⟨4,124,none⟩),.pointer (some p),.int .u64 406]) w:=by kernel_rfl
def yk1(a p:Addr)(W:World)(ha:W.cell? a=some (.pointer (some p))):(ReflectliteValue.method (ReflectliteValue.valueError "reflectlite.Value.Elem" 0) ReflectliteValue.elem #[.agg #[.pointer (some ⟨4,126,none⟩),.pointer (some a),.int .u64 150]]).run prog W=.ok (.agg #[.pointer (some ⟨4,124,none⟩),.pointer (some p),.int .u64 406]) W:=by
 rw[zqz _ _ _ _ _ _ _ _ (ze3 a W)];simp[ReflectliteValue.elem,loadVar,isAgg,underlying,underlying126,ha,Result.andThen,yq3,rl_mkP]
def yk2(a:Addr)(w:World):(ReflectliteValue.parts (.agg #[.pointer (some ⟨4,124,none⟩),.pointer (some a),.int .u64 406])).run prog w=.ok (some (124,a,406)) w:=by kernel_rfl
def yg7(a:Addr)(w:World):(ReflectliteValue.parts (.agg #[.pointer (some ⟨4,124,none⟩),.pointer (some a),.int .u64 150])).run prog w=.ok (some (124,a,150)) w:=by kernel_rfl
def yk3(w:World):(Rtype.directlyAssignable 124 124).run prog w=.ok true w:=by kernel_rfl
def rl_setP(ta b e:Addr)(fZ:Value)(W:World)(hb:W.cell? b=some (.pointer (some e)))(ht:W.cell? ta=some fZ)(hf:W.frozen? ta=false):
  (ReflectliteValue.set #[.agg #[.pointer (some ⟨4,124,none⟩),.pointer (some ta),.int .u64 406],.agg #[.pointer (some ⟨4,124,none⟩),.pointer (some b),.int .u64 150]]).run prog W=.ok (.tuple #[]) (W.setCell ta (.pointer (some e))):=by
 have h1:=yk2 ta W;have h2:=yg7 b W;have h3:=yk3 W;show Sem.run prog (ReflectliteValue.parts (.agg #[.pointer (some ⟨4,124,none⟩),.pointer (some ta),.int .u64 406])>>=λo1=>ReflectliteValue.parts (.agg #[.pointer (some ⟨4,124,none⟩),.pointer (some b),.int .u64 150])>>=λo2=>_) W=_;simp only[Sem.run_bind,h1,h2,Result.andThen];simp[ReflectliteValue.flagAddr,loadVar,isAgg,underlying,underlying124,hb,Result.andThen,h3,storeVar,cells,storeCells,Addr.add];rw[run_store prog W ta _ _ (by rfl)];simp[ht,hf]
def xh6:= @run_callFunc_extern prog 65 _ (λargs=>ReflectliteValue.unpack (args.getD 0 (.tuple #[]))) func65 (by kernel_rfl) (by kernel_rfl) (by kernel_rfl) (by kernel_rfl)
def xh7:= @run_callFunc_extern prog 66 _ (ReflectliteValue.methodAny (ReflectliteValue.valueError "reflectlite.Value.Type" 0) (λt _ _ _=>ReflectliteType.toType t)) func66 (by kernel_rfl) (by kernel_rfl) (by kernel_rfl) (by kernel_rfl)
def xh8:= @run_callFunc_extern prog 67 _ (ReflectliteValue.method (ReflectliteValue.valueError "reflectlite.Value.IsNil" 0) ReflectliteValue.isNil) func67 (by kernel_rfl) (by kernel_rfl) (by kernel_rfl) (by kernel_rfl)
def xh27:= @run_callFunc_extern prog 208 _ (ReflectliteType.abiMethod λt=>do pure (.int .u8 (<-Rtype.kind t))) func208 (by kernel_rfl) (by kernel_rfl) (by kernel_rfl) (by kernel_rfl)
def xh37:= @run_callFunc_extern prog 221 _ (ReflectliteType.method ReflectliteType.elem) func221 (by kernel_rfl) (by kernel_rfl) (by kernel_rfl) (by kernel_rfl)
def xh38:= @run_callFunc_extern prog 222 _ (ReflectliteType.relation "Implements" ReflectliteType.implements_) func222 (by kernel_rfl) (by kernel_rfl) (by kernel_rfl) (by kernel_rfl)
def xh10:= @run_callFunc_extern prog 85 _ ReflectliteType.typeOf func85 (by kernel_rfl) (by kernel_rfl) (by kernel_rfl) (by kernel_rfl)
def xh35:= @run_callFunc_extern prog 219 _ (ReflectliteType.relation "AssignableTo" ReflectliteType.assignableTo) func219 (by kernel_rfl) (by kernel_rfl) (by kernel_rfl) (by kernel_rfl)
def xh11:= @run_callFunc_extern prog 86 _ (ReflectliteValue.method (ReflectliteValue.valueError "reflectlite.Value.Elem" 0) ReflectliteValue.elem) func86 (by kernel_rfl) (by kernel_rfl) (by kernel_rfl) (by kernel_rfl)
def xh12:= @run_callFunc_extern prog 87 _ ReflectliteValue.set func87 (by kernel_rfl) (by kernel_rfl) (by kernel_rfl) (by kernel_rfl)
def as_at(e t:Addr)(fZ:Value)(w:World)(hg:w.cell? ⟨0,0,none⟩=some (.iface 188 (.agg #[.pointer (some ⟨4,96,none⟩)])))(a0:w.cell? t=some fZ)(c0:w.frozen? t=false):
  E 55 #[.iface 124 (.pointer (some e)),.iface 126 (.pointer (some t))] w λev w'=>ev=.returned (.bool true)/\w'=((((w.alloc (.cells #[.pointer (some t)] 126)).alloc (.cells #[.pointer (some ⟨4,126,none⟩),F w.heap.size,.int .u64 150] 142)).alloc (.cells #[.pointer (some ⟨4,126,none⟩),F w.heap.size,.int .u64 150] 142)).alloc (.cells #[.pointer (some e)] 124)).setCell t (.pointer (some e)):=by
 have h6:=xh6;have h7:=xh7;have h8:=xh8;have e0:=xh27;have f0:=xh37;have g0:=xh38;have h0:=xh10;have i0:=xh35;have j0:=xh11;have k0:=xh12;have tO:=yk0;have mA:=Jk;have a25:=zcz;have v25:=yq2;have f6:=zlv;have f7:=zav;have mK:=zs4;have mE:=zs5;have mI:=zy1;have k27:=yz0;have k25:=yt1;have e27:=yz1;have i25:=zpw;have d0:=Qe w _ hg;have b0:=Qe w _ a0;have n8:=ze4 (O w.heap.size 0) t ((w.alloc (.cells #[.pointer (some t)] 126)).alloc (.cells #[.pointer (some ⟨4,126,none⟩),F w.heap.size,.int .u64 150] 142)) (by simp);have l0:((w.alloc (.cells #[.pointer (some t)] 126)).alloc (.cells #[.pointer (some ⟨4,126,none⟩),F w.heap.size,.int .u64 150] 142)).cell? ⟨0,0,none⟩=some (.iface 188 (.agg #[.pointer (some ⟨4,96,none⟩)])):=by
  rw[Qf _ _ _ (by simp<;>omega),Qf _ _ _ d0];exact hg
 have el:=yk1 (O w.heap.size 0) t (((w.alloc (.cells #[.pointer (some t)] 126)).alloc (.cells #[.pointer (some ⟨4,126,none⟩),F w.heap.size,.int .u64 150] 142)).alloc (.cells #[.pointer (some ⟨4,126,none⟩),F w.heap.size,.int .u64 150] 142)) (by rw[Qf _ _ (O w.heap.size 0) (by simp;omega)];simp);have st:=rl_setP t (O (w.heap.size+1+1+1) 0) e fZ ((((w.alloc (.cells #[.pointer (some t)] 126)).alloc (.cells #[.pointer (some ⟨4,126,none⟩),F w.heap.size,.int .u64 150] 142)).alloc (.cells #[.pointer (some ⟨4,126,none⟩),F w.heap.size,.int .u64 150] 142)).alloc (.cells #[.pointer (some e)] 124))
  (by rw[cell?_alloc_at _ _ _ _ (by simp)];rfl)
  (by rw[Qf _ _ t (by simp;omega),Qf _ _ t (by simp;omega),Qf _ _ t (by simp;omega),Qf _ _ t b0];exact a0)
  (by rw[frozen?_alloc_old _ _ t (by simp;omega),frozen?_alloc_old _ _ t (by simp;omega),frozen?_alloc_old _ _ t (by simp;omega),frozen?_alloc_old _ _ t (Nat.ne_of_lt b0)];exact c0)
 go_enter func55,ntmps55
 go_wp2;refine wp_loop_rounds 1 ?_;rw[rounds_succ];go_wp2;go_ret;exact⟨rfl,rfl⟩
def Vd(w:World):Prop:=w.cell? ⟨0,0,none⟩=some (.iface 188 (.agg #[.pointer (some ⟨4,96,none⟩)]))
def ycv(w:World):E 33 #[.nilIface] w (Rw (.tuple #[I 0,I (-1)]) w):=by
 go_enter func33,ntmps33
 go_wp2
 go_ret2
 exact⟨rfl,(bA).alloc (by simp) _⟩
def below_drewN(h:Below B w w')(m:Nat):Below B w (w'.drewN m):=by
 induction m with
 |zero=>exact h
 |succ m ih=>exact ih.drew
def ze5(h:Below B w0 w)(hB:B<=w.heap.size):Below B w0 ((((w.alloc o1).alloc o2).alloc o3).alloc o4):=
 (((h.alloc hB _).alloc (by simp;omega) _).alloc (by simp;omega) _).alloc (by simp;omega) _
def yo4(eb eo:Nat)(n p:Int)(w:World)(hg:Vd w)(h0:w.cell? (O eb eo)=some (I n))(h1:w.cell? (O eb (eo+1))=some (I p)):
  E 33 #[.iface 124 (Pp eb eo)] w (Rw (.tuple #[I n,I p]) w):=by
 have d0:0<w.heap.size:=Qe w _ hg;have e0:eb<w.heap.size:=Qe w _ h0;have hg':((w.alloc (.cells #[.pointer none] 124)).alloc (.cells #[I 0] 23)).cell? ⟨0,0,none⟩=some (.iface 188 (.agg #[.pointer (some ⟨4,96,none⟩)])):=by
  rw[Qf _ _ _ (by simp<;>omega),Qf _ _ _ d0];exact hg
 have b0:Y (E 55 #[.iface 124 (Pp eb eo),.iface 126 (F w.heap.size)] ((w.alloc (.cells #[.pointer none] 124)).alloc (.cells #[I 0] 23)) λev w'=>ev=.returned (.bool true)/\(M w' w.heap.size 0 (Pp eb eo)/\M w' eb eo (I n)/\M w' eb (eo+1) (I p)/\D w w')):=by
  refine(as_at (O eb eo) (O w.heap.size 0) (.pointer none) ((w.alloc (.cells #[.pointer none] 124)).alloc (.cells #[I 0] 23)) hg' (by simp) (by simp)).mono ?_;rintro ev w' ⟨rfl,rfl⟩;have hb:D w ((w.alloc (.cells #[.pointer none] 124)).alloc (.cells #[I 0] 23)):=(bA).alloc (by simp) _;have f0:=ze5 (o1:=.cells #[F w.heap.size] 126) (o2:=.cells #[.pointer (some ⟨4,126,none⟩),.pointer (some ⟨((w.alloc (.cells #[.pointer none] 124)).alloc (.cells #[I 0] 23)).heap.size,0,none⟩),.int .u64 150] 142) (o3:=.cells #[.pointer (some ⟨4,126,none⟩),.pointer (some ⟨((w.alloc (.cells #[.pointer none] 124)).alloc (.cells #[I 0] 23)).heap.size,0,none⟩),.int .u64 150] 142) (o4:=.cells #[Pp eb eo] 124) hb (by simp;omega);have q:∀o,(D w o->∀j v,M w eb j v->M o eb j v):=λo ho j v hv=>cT ho e0 hv;have a0:=f0.setCell (p:=(O w.heap.size 0)) lE (Pp eb eo);refine⟨rfl,cell?_setCell_same' _ _ _ ?_,q _ a0 _ _ h0,q _ a0 _ _ h1,a0⟩;rw[Qf _ _ _ (by simp;omega),Qf _ _ _ (by simp;omega),Qf _ _ _ (by simp;omega),Qf _ _ _ (by simp;omega),Qf _ _ _ (by simp)];simp
 clear hg' hg
 go_enter func33,ntmps33
 go_wp2_with fail
 refine(b0.out).mono ?_;rintro e w1 ⟨rfl,ca,c0,c1,hb⟩;have hz:w.heap.size<w1.heap.size:=Qe w1 _ ca;have HB:=Z hb;clear hb b0 h0 h1
 go_wp2_with fail
 go_quiet (fail)
 go_wp2
 go_ret2
 exact⟨rfl,below_drewN HB _⟩
def ze6(v:Value)(w:World):(ReflectliteType.typeOf #[.iface 23 v]).run prog w=.ok (.iface 188 (.agg #[.pointer (some ⟨4,23,none⟩)])) w:=by kernel_rfl
def zhy(w:World):(ReflectliteType.relation "AssignableTo" ReflectliteType.assignableTo #[.agg #[.pointer (some ⟨4,23,none⟩)],.iface 188 (.agg #[.pointer (some ⟨4,124,none⟩)])]).run prog w=.ok (.bool false) w:=by kernel_rfl
def yq4(t:Addr)(w:World):(ReflectliteValue.unpack (.iface 129 (.pointer (some t)))).run prog w=.ok (.agg #[.pointer (some ⟨4,129,none⟩),F w.heap.size,.int .u64 150]) (w.alloc (.cells #[.pointer (some t)] 129)):=by kernel_rfl
def yb0(a:Addr)(w:World):(ReflectliteValue.methodAny (ReflectliteValue.valueError "reflectlite.Value.Type" 0) (λt _ _ _=>ReflectliteType.toType t) #[.agg #[.pointer (some ⟨4,129,none⟩),.pointer (some a),.int .u64 150]]).run prog w=.ok (.iface 188 (.agg #[.pointer (some ⟨4,129,none⟩)])) w:=by kernel_rfl
def yb1(w:World):((ReflectliteType.abiMethod λt=>Functor.map (λa:Nat=>int IntKind.u8 (a:Int)) (Rtype.kind t)) #[.pointer (some ⟨4,129,none⟩)]).run prog w=.ok (.int .u8 22) w:=by kernel_rfl
def yb2(w:World):((ReflectliteType.abiMethod λt=>Functor.map (λa:Nat=>int IntKind.u8 (a:Int)) (Rtype.kind t)) #[.pointer (some ⟨4,23,none⟩)]).run prog w=.ok (.int .u8 2) w:=by kernel_rfl
def yz2(a:Addr)(w:World):(ReflectliteValue.parts (.agg #[.pointer (some ⟨4,129,none⟩),.pointer (some a),.int .u64 150])).run prog w=.ok (some (129,a,150)) w:=by kernel_rfl
def yg8(a p:Addr)(W:World)(ha:W.cell? a=some (.pointer (some p))):(ReflectliteValue.method (ReflectliteValue.valueError "reflectlite.Value.IsNil" 0) ReflectliteValue.isNil #[.agg #[.pointer (some ⟨4,129,none⟩),.pointer (some a),.int .u64 150]]).run prog W=.ok (.bool false) W:=by
 rw[zqz _ _ _ _ _ _ _ _ (yz2 a W)];simp[ReflectliteValue.isNil,loadVar,isAgg,underlying,underlying129,ha,Result.andThen]
def yb3(w:World):(ReflectliteType.method ReflectliteType.elem #[.agg #[.pointer (some ⟨4,129,none⟩)]]).run prog w=.ok (.iface 188 (.agg #[.pointer (some ⟨4,23,none⟩)])) w:=by kernel_rfl
def zcy(w:World):(ReflectliteType.relation "Implements" ReflectliteType.implements_ #[.agg #[.pointer (some ⟨4,23,none⟩)],.iface 188 (.agg #[.pointer (some ⟨4,96,none⟩)])]).run prog w=.ok (.bool true) w:=by kernel_rfl
def zcx(w:World):(ReflectliteType.relation "AssignableTo" ReflectliteType.assignableTo #[.agg #[.pointer (some ⟨4,23,none⟩)],.iface 188 (.agg #[.pointer (some ⟨4,23,none⟩)])]).run prog w=.ok (.bool true) w:=by kernel_rfl
def yq5(n:Int)(w:World):(ReflectliteValue.unpack (.iface 23 (I n))).run prog w=.ok (.agg #[.pointer (some ⟨4,23,none⟩),F w.heap.size,.int .u64 130]) (w.alloc (.cells #[I n] 23)):=by kernel_rfl
def yk4(w:World):(Rtype.elem? 129).run prog w=.ok (some 23) w:=by kernel_rfl
def rl_mkE(p:Addr)(w:World):(ReflectliteValue.mk 23 p ReflectliteValue.flagAddr).run prog w=.ok (.agg #[.pointer (some ⟨4,23,none⟩),.pointer (some p),.int .u64 386]) w:=by kernel_rfl
def yg9(a p:Addr)(W:World)(ha:W.cell? a=some (.pointer (some p))):(ReflectliteValue.method (ReflectliteValue.valueError "reflectlite.Value.Elem" 0) ReflectliteValue.elem #[.agg #[.pointer (some ⟨4,129,none⟩),.pointer (some a),.int .u64 150]]).run prog W=.ok (.agg #[.pointer (some ⟨4,23,none⟩),.pointer (some p),.int .u64 386]) W:=by
 rw[zqz _ _ _ _ _ _ _ _ (yz2 a W)];simp[ReflectliteValue.elem,loadVar,isAgg,underlying,underlying129,ha,Result.andThen,yk4,rl_mkE]
def yk5(a:Addr)(w:World):(ReflectliteValue.parts (.agg #[.pointer (some ⟨4,23,none⟩),.pointer (some a),.int .u64 386])).run prog w=.ok (some (23,a,386)) w:=by kernel_rfl
def ygz(a:Addr)(w:World):(ReflectliteValue.parts (.agg #[.pointer (some ⟨4,23,none⟩),.pointer (some a),.int .u64 130])).run prog w=.ok (some (23,a,130)) w:=by kernel_rfl
def yk6(w:World):(Rtype.directlyAssignable 23 23).run prog w=.ok true w:=by kernel_rfl
def rl_setE(ta b:Addr)(n:Int)(fZ:Value)(W:World)(hb:W.cell? b=some (I n))(ht:W.cell? ta=some fZ)(hf:W.frozen? ta=false):
  (ReflectliteValue.set #[.agg #[.pointer (some ⟨4,23,none⟩),.pointer (some ta),.int .u64 386],.agg #[.pointer (some ⟨4,23,none⟩),.pointer (some b),.int .u64 130]]).run prog W=.ok (.tuple #[]) (W.setCell ta (I n)):=by
 have h1:=yk5 ta W;have h2:=ygz b W;have h3:=yk6 W;show Sem.run prog (ReflectliteValue.parts (.agg #[.pointer (some ⟨4,23,none⟩),.pointer (some ta),.int .u64 386])>>=λo1=>ReflectliteValue.parts (.agg #[.pointer (some ⟨4,23,none⟩),.pointer (some b),.int .u64 130])>>=λo2=>_) W=_;simp only[Sem.run_bind,h1,h2,Result.andThen];simp[ReflectliteValue.flagAddr,loadVar,isAgg,underlying,underlying23,hb,Result.andThen,h3,storeVar,cells,storeCells,Addr.add];rw[run_store prog W ta _ _ (by rfl)];simp[ht,hf]
def yk7(v:Value)(xT:TypeId)(w:World):(Instr.typeAssert (.iface 23 v) xT 193 true).run prog w=.ok (.tuple #[.nilIface,.bool false]) w:=run_typeAssert_lacksB underlying193 (by kernel_rfl) (by kernel_rfl) v xT w
def yk8(v:Value)(xT:TypeId)(w:World):(Instr.typeAssert (.iface 23 v) xT 196 true).run prog w=.ok (.tuple #[.nilIface,.bool false]) w:=run_typeAssert_lacksB underlying196 (by kernel_rfl) (by kernel_rfl) v xT w
def yk9(v:Value)(xT:TypeId)(w:World):(Instr.typeAssert (.iface 23 v) xT 198 true).run prog w=.ok (.tuple #[.nilIface,.bool false]) w:=run_typeAssert_lacksB underlying198 (by kernel_rfl) (by kernel_rfl) v xT w
def as_miss(n:Int)(t:Addr)(fZ:Value)(w:World)(hg:w.cell? ⟨0,0,none⟩=some (.iface 188 (.agg #[.pointer (some ⟨4,96,none⟩)])))(b0:w.cell? t=some fZ):
  E 55 #[.iface 23 (I n),.iface 126 (.pointer (some t))] w λev w'=>ev=.returned (.bool false)/\D w w':=by
 have h6:=xh6;have h7:=xh7;have h8:=xh8;have c0:=xh27;have d0:=xh37;have e0:=xh38;have f0:=xh10;have g0:=xh35;have h0:=xh11;have i0:=xh12;have tO:=ze6;have mA:=Jk;have aN:=zhy;have l1:=yk7;have l2:=yk8;have l3:=yk9;have f6:=zlv;have f7:=zav;have mK:=zs4;have mE:=zs5;have mI:=zy1;have k27:=yz0;have k25:=yt1;have e27:=yz1;have i25:=zpw;have a0:=Qe w _ hg;have n8:=ze4 (O w.heap.size 0) t ((w.alloc (.cells #[.pointer (some t)] 126)).alloc (.cells #[.pointer (some ⟨4,126,none⟩),F w.heap.size,.int .u64 150] 142)) (by simp);have j0:((w.alloc (.cells #[.pointer (some t)] 126)).alloc (.cells #[.pointer (some ⟨4,126,none⟩),F w.heap.size,.int .u64 150] 142)).cell? ⟨0,0,none⟩=some (.iface 188 (.agg #[.pointer (some ⟨4,96,none⟩)])):=by
  rw[Qf _ _ _ (by simp<;>omega),Qf _ _ _ a0];exact hg
 go_enter func55,ntmps55
 go_wp2;refine wp_loop_rounds 1 ?_;rw[rounds_succ];go_wp2;go_ret;exact⟨rfl,((bA).alloc (by simp) _).alloc (by simp;omega) _⟩
def yb4(n:Int)(t:Addr)(fZ:Value)(w:World)(hg:w.cell? ⟨0,0,none⟩=some (.iface 188 (.agg #[.pointer (some ⟨4,96,none⟩)])))(a0:w.cell? t=some fZ)(c0:w.frozen? t=false):
  E 55 #[.iface 23 (I n),.iface 129 (.pointer (some t))] w λev w'=>ev=.returned (.bool true)/\w'=((((w.alloc (.cells #[.pointer (some t)] 129)).alloc (.cells #[.pointer (some ⟨4,129,none⟩),F w.heap.size,.int .u64 150] 142)).alloc (.cells #[.pointer (some ⟨4,129,none⟩),F w.heap.size,.int .u64 150] 142)).alloc (.cells #[I n] 23)).setCell t (I n):=by
 have h6:=xh6;have h7:=xh7;have h8:=xh8;have e0:=xh27;have f0:=xh37;have g0:=xh38;have h0:=xh10;have i0:=xh35;have j0:=xh11;have k0:=xh12;have tO:=ze6;have mA:=Jk;have a25:=zcx;have v25:=yq5;have f6:=yq4;have f7:=yb0;have mK:=zs4;have mE:=zs5;have mI:=zy1;have k27:=yb1;have k25:=yb2;have e27:=yb3;have i25:=zcy;have d0:=Qe w _ hg;have b0:=Qe w _ a0;have n8:=yg8 (O w.heap.size 0) t ((w.alloc (.cells #[.pointer (some t)] 129)).alloc (.cells #[.pointer (some ⟨4,129,none⟩),F w.heap.size,.int .u64 150] 142)) (by simp);have l0:((w.alloc (.cells #[.pointer (some t)] 129)).alloc (.cells #[.pointer (some ⟨4,129,none⟩),F w.heap.size,.int .u64 150] 142)).cell? ⟨0,0,none⟩=some (.iface 188 (.agg #[.pointer (some ⟨4,96,none⟩)])):=by
  rw[Qf _ _ _ (by simp<;>omega),Qf _ _ _ d0];exact hg
 have el:=yg9 (O w.heap.size 0) t (((w.alloc (.cells #[.pointer (some t)] 129)).alloc (.cells #[.pointer (some ⟨4,129,none⟩),F w.heap.size,.int .u64 150] 142)).alloc (.cells #[.pointer (some ⟨4,129,none⟩),F w.heap.size,.int .u64 150] 142)) (by rw[Qf _ _ (O w.heap.size 0) (by simp;omega)];simp);have st:=rl_setE t (O (w.heap.size+1+1+1) 0) n fZ ((((w.alloc (.cells #[.pointer (some t)] 129)).alloc (.cells #[.pointer (some ⟨4,129,none⟩),F w.heap.size,.int .u64 150] 142)).alloc (.cells #[.pointer (some ⟨4,129,none⟩),F w.heap.size,.int .u64 150] 142)).alloc (.cells #[I n] 23))
  (by rw[cell?_alloc_at _ _ _ _ (by simp)];rfl)
  (by rw[Qf _ _ t (by simp;omega),Qf _ _ t (by simp;omega),Qf _ _ t (by simp;omega),Qf _ _ t b0];exact a0)
  (by rw[frozen?_alloc_old _ _ t (by simp;omega),frozen?_alloc_old _ _ t (by simp;omega),frozen?_alloc_old _ _ t (by simp;omega),frozen?_alloc_old _ _ t (Nat.ne_of_lt b0)];exact c0)
 go_enter func55,ntmps55
 go_wp2;refine wp_loop_rounds 1 ?_;rw[rounds_succ];go_wp2;go_ret;exact⟨rfl,rfl⟩
def yyv(h:Below B w0 w)(hB:B<=w.heap.size)(ha:B<=a.block):Below B w0 (((((w.alloc o1).alloc o2).alloc o3).alloc o4).setCell a u):=(ze5 h hB).setCell ha u
def yt2{fZ:Value}(h:w.cell? a=some fZ):(((((w.alloc o1).alloc o2).alloc o3).alloc o4).setCell a u).cell? a=some u:=by
 have hl:=Qe w a h;apply cell?_setCell_same'
 rw[Qf _ _ _ (by simp;omega),Qf _ _ _ (by simp;omega),Qf _ _ _ (by simp;omega),Qf _ _ _ hl,h];rfl
def ze7(n:Int)(w:World)(hg:Vd w):
  E 33 #[.iface 23 (I n)] w (Rw (.tuple #[I n,I (-1)]) w):=by
 have g0:=Qe w _ hg;have a0:D w ((w.alloc (.cells #[.pointer none] 124)).alloc (.cells #[I 0] 23)):=(bA).alloc (by simp) _;have b0:∀o,D w o->Vd o:=λo ho=>(ho.cell g0).trans hg;have HM:Y (E 55 #[.iface 23 (I n),.iface 126 (F w.heap.size)] ((w.alloc (.cells #[.pointer none] 124)).alloc (.cells #[I 0] 23)) λev w'=>ev=.returned (.bool false)/\(D w w'/\w'.cell? (O (w.heap.size+1) 0)=some (I 0)/\w'.frozen? (O (w.heap.size+1) 0)=false)):=by
  refine(as_miss n (O w.heap.size 0) (.pointer none) ((w.alloc (.cells #[.pointer none] 124)).alloc (.cells #[I 0] 23)) (b0 _ a0) (by simp)).mono ?_;rintro ev w' ⟨rfl,hb⟩;exact⟨rfl,a0.trans (hb.mono (by simp;omega)),by rw[hb.cell (by simp)];simp,by rw[hb.frozen (by simp)];simp⟩
 have HE:Y (∀wz,D w wz->wz.cell? (O (w.heap.size+1) 0)=some (I 0)->wz.frozen? (O (w.heap.size+1) 0)=false->E 55 #[.iface 23 (I n),.iface 129 (Pp (w.heap.size+1) 0)] wz λev w'=>ev=.returned (.bool true)/\(D w w'/\w'.cell? (O (w.heap.size+1) 0)=some (I n))):=by
  intro wz hb hc hf;refine(yb4 n (O (w.heap.size+1) 0) (I 0) wz (b0 _ hb) hc hf).mono ?_;rintro ev w' ⟨rfl,rfl⟩;exact⟨rfl,yyv hb hb.size (by simp),yt2 hc⟩
 clear hg b0 a0
 go_enter func33,ntmps33
 go_wp2_with fail
 refine(HM.out).mono ?_;rintro e w1 ⟨rfl,c0,d0,e0⟩;have h0:=Z c0;clear c0 HM
 go_wp2_with fail
 refine(HE _ h0 d0 e0).mono ?_;rintro e w2 ⟨rfl,f0,j0⟩;have i0:=Z f0;clear f0 HE d0 e0;go_wp2
 go_ret2
 exact⟨rfl,i0⟩
end
def yt3(n:Int)(w:World):E 152 #[I n] w (Rq (.bool (cf n)) w):=by
 by_cases h0:0<=n
 ·have b0:decide ((0:Int)<=n)=true:=by simpa using h0
  by_cases h1:n<=2147483647
  ·go_enter func152,ntmps152
   go_wp2;go_ret;exact⟨Zr (by simp[cf];omega),rfl⟩
  go_enter func152,ntmps152
  go_wp2;go_ret;exact⟨Zr (by simp[cf];omega),rfl⟩
 go_enter func152,ntmps152
 go_wp2;go_ret;exact⟨Zr (by simp[cf];omega),rfl⟩
def yb5(n:Int)(w:World):E 151 #[I n] w (Rq (.bool (!Fl.cf n)) w):=by
 go_enter func151,ntmps151
 go_wp2_with (go_at_call 152;refine(yt3 _ _).mono ?_;rintro e w1 ⟨rfl,rfl⟩)
 go_ret;exact⟨rfl,rfl⟩
def yx0(xs:Is)(v:Value)(B:Nat)(w:World)(hx:Zw B w v xs):
  E 171 #[v,.func (.func 151) #[] #[]] w λe w'=>(xs.all cf=true->e=.returned (I (-1)))/\(xs.all cf=false->∃j:Nat,e=.returned (I j))/\D w w':=by
 obtain⟨ao,cap,rfl,_,hm,_⟩:=id hx;unfold maxLen at hm;have HX:=Z hx;clear hx
 go_enter func171,ntmps171
 go_wp2_with fail
 go_loopw [8] (λi wr=>∃j m:Nat,j<=xs.length/\i=I j/\wr=w.drewN m/\∀t,t<j->cf (xs.getD t 0)=true) (λi _=>xs.length - (intOf i).toNat)
 case atStart=>exact⟨0,0,by omega,rfl,rfl,λt ht=>by omega⟩
 case round=>
  obtain⟨j,m,hj,rfl,rfl,aT⟩:=hrel;have HA:=Z aT;clear aT
  by_cases d0:j<xs.length
  ·obtain⟨b,off,rfl,h0,f0⟩:=HX.at d0
   have g0:(j:Int)<(xs.length:Int):=(by omega);obtain⟨x,hx⟩:=J (xs.getD j 0);rw[<-hx]at f0;have e0:=Z hx;have HP:Y (∀(c:Bool) (W:World),cf x= !c->E 151 #[I x] W (Rq (.bool c) W)):=λc W hc=>(yb5 _ W).mono (by rintro e w' ⟨rfl,rfl⟩;exact⟨by rw[hc];simp,rfl⟩);clear hx
   cases c0:cf x with
   |true=>
    have a0:=Z c0;clear c0
    go_wp2_with (go_at_call 151;refine(HP false _ a0).mono ?_;rintro e w1 ⟨rfl,rfl⟩)
    go_roundw
    case rel=>exact⟨j+1,m,by omega,by go_num,rfl,λt ht=>by
     by_cases h:t<j
     ·exact HA t h
     have:t=j:=by omega
     subst this;rw[<-e0.out];exact a0.out⟩
    case measure=>simp[intOf];omega
   |false=>
    have a0:=Z c0;clear c0
    go_wp2_with (go_at_call 151;refine(HP true _ a0).mono ?_;rintro e w1 ⟨rfl,rfl⟩)
    go_ret;refine⟨λh=>?_,λ_=>⟨j,rfl⟩,by repeat (first|exact Below.refl _ _|apply Below.cE)⟩;rw[all_eq_true]at h;have:=h (xs.getD j 0) (by rw[Qa,Qb d0];exact getElem_mem d0)
    rw[<-e0.out,a0.out]at this;cases this
  have g0:(xs.length:Int)<=(j:Int):=(by omega)
  go_wp2_with fail
  go_ret;have b0:xs.all cf=true:=by
   rw[all_eq_true];intro y hy;obtain⟨t,ht,rfl⟩:=getElem_of_mem hy;have:=HA t (by omega)
   rwa [Qa,Qb ht]at this
  refine⟨λ_=>rfl,λh=>(by rw[b0]at h;cases h),by repeat (first|exact Below.refl _ _|apply Below.cE)⟩
def zhx(xs:Is)(v:Value)(B:Nat)(w:World)(hx:Zw B w v xs):
  E 150 #[v,.func (.func 151) #[] #[]] w (Rw (.bool (!xs.all cf)) w):=by
 have HI:=Z (yx0 xs v B w hx);obtain⟨ao,cap,rfl,_,hm,_⟩:=id hx;clear hx hm
 go_enter func150,ntmps150
 go_wp2_with fail
 refine(HI.out).mono ?_;rintro e w1 ⟨h1,h2,hb⟩;have HB:=Z hb;clear hb
 cases ha:xs.all cf with
 |true=>
  obtain rfl:=h1 ha;have a0:=Z ha;clear h1 h2 ha;go_wp2;go_ret;exact⟨Zr (by rw[a0.out];rfl),HB⟩
 |false=>
  obtain⟨j,rfl⟩:=h2 ha;have b0:(0:Int)<=(j:Int):=(by omega);have a0:=Z ha;clear h1 h2 ha;go_wp2;go_ret;exact⟨Zr (by rw[a0.out];rfl),HB⟩
def zuv(xs:Is)(v:Value)(B:Nat)(w:World)(hx:Zw B w v xs):
  E 119 #[v] w (Rw (.bool (xs.all cf)) w):=by
 have b0:∀(fn:Fn) (first cap:Array Value) (w:World),(Instr.makeFunc fn first cap).run prog w=.ok (.func fn first cap) w:=λ_ _ _ _=>rfl;have HI:=Z (zhx xs v B w hx);obtain⟨ao,cap,rfl,_,hm,_⟩:=id hx;clear hx hm
 go_enter func119,ntmps119
 go_wp2_with fail
 refine(HI.out).mono ?_;rintro e w1 ⟨rfl,hb⟩;have HB:=Z hb;clear hb
 cases ha:xs.all cf with
 |true=>
  have a0:=Z ha;clear ha;go_wp2;go_ret;exact⟨Zr (by rw[a0.out]),HB⟩
 |false=>
  have a0:=Z ha;clear ha;go_wp2;go_ret;exact⟨Zr (by rw[a0.out]),HB⟩
def zr1(a b:Nat)(ha:a<2147483648)(hb:b<2147483648):bits .or .i64 (a:Int) (b:Int)=((a|||b:Nat):Int):=by
 have hx:a|||b<2 ^ 31:=Nat.or_lt_two_pow (by omega) (by omega)
 have o:∀x:Nat,x<2147483648->(BitVec.ofInt 64 (x:Int)).toNat=x:=λx hx=>by rw[BitVec.ofInt_natCast,BitVec.toNat_ofNat];exact Nat.mod_eq_of_lt (by omega)
 show IntKind.i64.wrap ((BitVec.ofInt 64 (a:Int)|||BitVec.ofInt 64 (b:Int)).toNat:Int)=_;rw[BitVec.toNat_or,o a ha,o b hb];generalize a|||b=x at*;simp[IntKind.wrap,IntKind.bits,IntKind.signed];omega
def zu4(n:Nat)(a b c:Int):Int:=if n=0 then bits .or .i64 (bits .or .i64 (bits .or .i64 0 a) b) c else if n=1 then bits .or .i64 (bits .or .i64 0 b) c else if n=2 then bits .or .i64 0 c else 0
def zp3(a b:Nat):a|||b=0 ↔ a=0/\b=0:=by
 constructor
 ·intro h
  have h1:a<=a|||b:=Nat.left_le_or;have h2:b<=a|||b:=Nat.right_le_or;omega
 rintro⟨rfl,rfl⟩;rfl
def ykz(n:Nat)(a b c:Int)(ha:cf a=true)(hb:cf b=true)(hc:cf c=true):zu4 n a b c=0 ↔ (n=0->a=0)/\(n<=1->b=0)/\(n<=2->c=0):=by
 simp only[cf,Qk,Qn]at ha hb hc;obtain⟨Qz,rfl⟩:=Int.eq_ofNat_of_zero_le ha.1;obtain⟨B,rfl⟩:=Int.eq_ofNat_of_zero_le hb.1;obtain⟨C,rfl⟩:=Int.eq_ofNat_of_zero_le hc.1
 have e0:∀x:Nat,x<2147483648->bits .or .i64 0 (x:Int)=(x:Int):=λx hx=>by have:=zr1 0 x (by omega) hx;simpa using this
 have a0:Qz|||B<2 ^ 31:=Nat.or_lt_two_pow (by omega) (by omega);unfold zu4;rw[e0 Qz (by omega),e0 B (by omega),e0 C (by omega),zr1 Qz B (by omega) (by omega),zr1 (Qz|||B) C (by omega) (by omega),zr1 B C (by omega) (by omega)];have h1:=zp3 Qz B;have h2:=zp3 (Qz|||B) C;have h3:=zp3 B C;generalize (Qz|||B)|||C=X at*;generalize Qz|||B=Qq at*;generalize B|||C=Qx at*
 split
 ·omega
 split
 ·omega
 split<;>omega
def yb6(rb ro nb no n:Nat)(hn:n<=3)(l:Bool)(nd:ar)(lv:Value)(w:World)(h:Ug w nb no nd lv)(h1:w.cell? (O rb (ro+1))=some (I n))(h2:w.cell? (O rb (ro+2))=some (.bool l)):
  E 153 #[Pp rb ro,Pp nb no] w (Rw (.bool (decide (zu4 n nd.a nd.b nd.c=0) && (l||decide (nd.ae=[])))) w):=by
 have c2:=h.c2;have c3:=h.c3;have c4:=h.c4;have c5:=h.c5;obtain⟨ao,cap,rfl,_,hm,_⟩:=h.hl;have c0:decide (nd.ae=[])=((nd.ae.length:Int)==0):=by
  cases nd.ae with
  |nil=>rfl
  |cons x y=>simp;omega
 unfold maxLen at hm;have b0:=Z c0
 have a0:n=0\/n=1\/n=2\/n=3:=by omega
 clear h hn c0;generalize nd.ae.length=len at*;rcases a0 with rfl|rfl|rfl|rfl
 ·have HR:Y (decide (zu4 0 nd.a nd.b nd.c=0)=(bits .or .i64 (bits .or .i64 (bits .or .i64 0 nd.a) nd.b) nd.c==0)):=rfl
  cases hz:(bits .or .i64 (bits .or .i64 (bits .or .i64 0 nd.a) nd.b) nd.c==0) with
  |true=>
   have HZ:=Z hz
   cases l with
   |true=>
    go_enter func153,ntmps153
    go_wp2_with fail
    go_ret;exact⟨Zr (by rw[HR.out,HZ.out];rfl),Below.refl _ _⟩
   |false=>
    go_enter func153,ntmps153
    go_wp2_with fail
    go_ret;exact⟨Zr (by rw[HR.out,HZ.out,b0.out];simp),Below.refl _ _⟩
  |false=>
   have HZ:=Z hz
   go_enter func153,ntmps153
   go_wp2_with fail
   go_ret;exact⟨Zr (by rw[HR.out,HZ.out];simp),Below.refl _ _⟩
 ·have HR:Y (decide (zu4 1 nd.a nd.b nd.c=0)=(bits .or .i64 (bits .or .i64 0 nd.b) nd.c==0)):=rfl
  cases hz:(bits .or .i64 (bits .or .i64 0 nd.b) nd.c==0) with
  |true=>
   have HZ:=Z hz
   cases l with
   |true=>
    go_enter func153,ntmps153
    go_wp2_with fail
    go_ret;exact⟨Zr (by rw[HR.out,HZ.out];rfl),Below.refl _ _⟩
   |false=>
    go_enter func153,ntmps153
    go_wp2_with fail
    go_ret;exact⟨Zr (by rw[HR.out,HZ.out,b0.out];simp),Below.refl _ _⟩
  |false=>
   have HZ:=Z hz
   go_enter func153,ntmps153
   go_wp2_with fail
   go_ret;exact⟨Zr (by rw[HR.out,HZ.out];simp),Below.refl _ _⟩
 ·have HR:Y (decide (zu4 2 nd.a nd.b nd.c=0)=(bits .or .i64 0 nd.c==0)):=rfl
  cases hz:(bits .or .i64 0 nd.c==0) with
  |true=>
   have HZ:=Z hz
   cases l with
   |true=>
    go_enter func153,ntmps153
    go_wp2_with fail
    go_ret;exact⟨Zr (by rw[HR.out,HZ.out];rfl),Below.refl _ _⟩
   |false=>
    go_enter func153,ntmps153
    go_wp2_with fail
    go_ret;exact⟨Zr (by rw[HR.out,HZ.out,b0.out];simp),Below.refl _ _⟩
  |false=>
   have HZ:=Z hz
   go_enter func153,ntmps153
   go_wp2_with fail
   go_ret;exact⟨Zr (by rw[HR.out,HZ.out];simp),Below.refl _ _⟩
 have HR:Y (decide (zu4 3 nd.a nd.b nd.c=0)=true):=rfl
 cases l with
 |true=>
  go_enter func153,ntmps153
  go_wp2_with fail
  go_ret;exact⟨Zr (by rw[HR.out];rfl),Below.refl _ _⟩
 |false=>
  go_enter func153,ntmps153
  go_wp2_with fail
  go_ret;exact⟨Zr (by rw[HR.out,b0.out];simp),Below.refl _ _⟩
def yky{nd:ar}(hk:nd.kind=(k:Int))(h8:k<8):
  bT nd=((cf nd.ak && (cf nd.a && (cf nd.b && cf nd.c))) && ((decide (zu4 (Vf k) nd.a nd.b nd.c=0) && ((k==7)||decide (nd.ae=[]))) && (decide (nd.ae.length<=16) && nd.ae.all cf))):=by
 have a0:k=0\/k=1\/k=2\/k=3\/k=4\/k=5\/k=6\/k=7:=by omega
 cases ha:cf nd.a with
 |false=>simp[bT,dM,ha]
 |true=>
  cases hb:cf nd.b with
  |false=>simp[bT,dM,hb]
  |true=>
   cases hc:cf nd.c with
   |false=>simp[bT,dM,hc]
   |true=>
    have hr:=ykz (Vf k) nd.a nd.b nd.c ha hb hc;have hr':decide (zu4 (Vf k) nd.a nd.b nd.c=0)=decide ((Vf k=0->nd.a=0)/\(Vf k<=1->nd.b=0)/\(Vf k<=2->nd.c=0)):=decide_eq_decide.2 hr;rw[hr',Bool.eq_iff_iff];rcases a0 with rfl|rfl|rfl|rfl|rfl|rfl|rfl|rfl<;>simp[bT,dM,hk,ha,hb,hc,Vf,aP]<;>grind
def ygy{nd:ar}(h:nd.kind<0\/8<=nd.kind):bT nd=false:=by
 have:aP nd.kind= -2:=by unfold aP;(repeat' split)<;>omega
 simp[bT,this]
def zy8(w:World)(v:Value)(w':World)(v':Value):Prop:=w.grownBy w' v.ownBlock/\(v'.ownBlock=v.ownBlock\/∃b,v'.ownBlock=some b/\w.heap.size<=b)
def zy8.refl(w:World)(v:Value):zy8 w v w v:=⟨⟨rfl,rfl,rfl,lE,λ_ _ _=>rfl⟩,.inl rfl⟩
def zy8.trans{w w1 w2:World}{v v1 v2:Value}(h:zy8 w v w1 v1)(k:zy8 w1 v1 w2 v2):zy8 w v w2 v2:=by
 refine⟨⟨k.1.os.trans h.1.os,k.1.tape.trans h.1.tape,k.1.output.trans h.1.output,Nat.le_trans h.1.size k.1.size,λg hg b0=>?_⟩,?_⟩
 ·refine(k.1.block g (Qj hg h.1.size) (λhh=>?_)).trans (h.1.block g hg b0)
  rcases h.2 with h2|⟨b,hb,a0⟩
  ·rw[h2]at hh;exact b0 hh
  rw[hb]at hh;simp only[Ql]at hh;omega
 rcases k.2 with k2|⟨b,hb,a0⟩
 ·rcases h.2 with h2|⟨b,hb,a0⟩
  ·exact .inl (k2.trans h2)
  exact .inr ⟨b,k2.trans hb,a0⟩
 exact .inr ⟨b,hb,Nat.le_trans h.1.size a0⟩
def zy8.below(h:zy8 w v w1 v1)(hb:D w1 w2):zy8 w v w2 v1:=
 h.trans ⟨⟨hb.os,hb.tape,hb.output,hb.size,λk hk _=>hb.block k hk⟩,.inl rfl⟩
def zy8.alloc{w w1:World}{v v1:Value}(h:zy8 w v w1 v1)(o:Obj):zy8 w v (w1.alloc o) v1:=h.below (bA)
def zy8.append{v2:Value}(h:zy8 w v w1 v1)(hg:w1.grownBy w2 v1.ownBlock)(hw:v2.ownBlock=v1.ownBlock\/v2.ownBlock=some w1.heap.size):zy8 w v w2 v2:=
 h.trans ⟨hg,hw.imp id (λhh=>⟨_,hh,lE⟩)⟩
def zy8.cell{w w':World}{v v':Value}(h:zy8 w v w' v'){b o:Nat}(a0:b<w.heap.size)(b0:some b≠v.ownBlock):w'.cell? (O b o)=w.cell? (O b o):=Qc (w:=w) (h.1.block b a0 b0)
def zqy(w:World)(base:Nat)(v:Value)(n:Nat)(xs:Vs):Prop:=
 w.ownsRow base 5 1 v n xs\/∃g,base<=g/\g<w.heap.size/\v=Sq g 0 n n/\xs.length=n/\∀j u,xs[j]?=some u->w.cell? (((O g 0):Addr).add j)=some u
def zqy.lt{w:World}{base:Nat}{v:Value}{n:Nat}{xs:Vs}(h:zqy w base v n xs):∀k,v.ownBlock=some k->base<=k/\k<w.heap.size:=by
 rcases h with h|⟨g,h1,h2,rfl,_⟩
 ·exact h.lt
 intro k hk;simp only[ownBlock,Ql]at hk;subst hk;exact⟨h1,h2⟩
def zqy.below{n:Nat}{xs:Vs}(h:zqy w base v n xs)(hb:D w w'):zqy w' base v n xs:=by
 rcases h with h|⟨g,h1,h2,h3,h4,h5⟩
 ·exact .inl (h.kept (row:=none) ⟨hb.os,hb.tape,hb.output,hb.size,λk hk _=>hb.block k hk⟩ (by cases v.ownBlock<;>simp))
 refine .inr ⟨g,h1,Qj h2 hb.size,h3,h4,λj u hj=>?_⟩;have:=h5 j u hj
 have h6:(((O g 0):Addr).add j).block=g:=by unfold Addr.add;split<;>rfl
 rw[hb.cell (by rw[h6];exact h2)];exact this
def zqy.alloc{w:World}{base:Nat}{v:Value}{n:Nat}{xs:Vs}(h:zqy w base v n xs)(o:Obj):zqy (w.alloc o) base v n xs:=h.below (bA)
section
variable{P:Program}(w:World)
end
def bval(u:UInt8):Value:=.int .u8 (u.toNat:Int)
def yt4(ls:Is)(ns:List ar)(la na:Option Addr)(lc nc B:Nat)(w:World)(hl:Zw B w (A la ls.length lc) ls)(hn:Zl B w (A na ns.length nc) ns)(hB:B<=w.heap.size):
  E 81 #[.agg #[A la ls.length lc,A na ns.length nc]] w (Rw (.bool (decide (ls.length<=4) && (ls.all cf && (decide (1<=ns.length) && decide (ns.length<=200))))) w):=by
 have HA:Y (∀W,Below B w W->E 119 #[A la ls.length lc] W (Rw (.bool (ls.all cf)) W)):=λW hW=>zuv ls _ B W (hl.below hW);obtain⟨r,hr⟩:=J ((decide (ls.length<=4) && (ls.all cf && (decide (1<=ns.length) && decide (ns.length<=200)))));rw[<-hr];have HR:=Z hr;clear hl hr hn
 by_cases h4:ls.length<=4
 ·have h4':(ls.length:Int)<=4:=by omega
  go_enter func81,ntmps81
  go_wp2_with fail
  have d0:Below B w (w.alloc (.cells #[A la ls.length lc,A na ns.length nc] 30)):=(Below.refl _ w).alloc hB _;refine(HA _ d0).mono ?_;rintro e w1 ⟨rfl,b0⟩;have p1:M w1 w.heap.size 1 (A na ns.length nc):=cT b0 (by simp) (by simp);have a0:Y (D w w1):=((Below.refl _ w).alloc lE _).trans (b0.mono (by simp));clear b0 d0 HA
  cases ha:ls.all cf with
  |false=>
   have HS:Y (r=false):=(by show r=false;rw[HR.out,ha];simp);clear ha;go_wp2;go_ret;exact⟨Zr HS.symm,a0⟩
  |true=>
   have c0:=Z ha;clear ha
   by_cases h1:1<=ns.length
   ·have h1':(1:Int)<=(ns.length:Int):=by omega
    by_cases h2:ns.length<=200
    ·have h2':(ns.length:Int)<=200:=by omega
     have HS:Y (r=true):=(by show r=true;rw[HR.out,c0.out];simp[h4,h1,h2]);go_wp2;go_ret;exact⟨Zr HS.symm,a0⟩
    have h2':(200:Int)<(ns.length:Int):=(by omega);have HS:Y (r=false):=(by show r=false;rw[HR.out,c0.out];simp[h2]);go_wp2;go_ret;exact⟨Zr (by rw[HS.out];simp;omega),a0⟩
   have h1':(ns.length:Int)<1:=(by omega);have HS:Y (r=false):=(by show r=false;rw[HR.out,c0.out];simp[h1]);go_wp2;go_ret;exact⟨Zr HS.symm,a0⟩
 have h4':(4:Int)<(ls.length:Int):=by omega
 have HS:Y (r=false):=by show r=false;rw[HR.out];simp[h4]
 go_enter func81,ntmps81
 go_wp2_with fail
 go_ret;exact⟨Zr HS.symm,(Below.refl _ w).alloc lE _⟩
def its_out(tp:Value)(nb no:Nat)(Wx:Int)(w:World)(c0:w.cell? (O nb no)=some (I Wx))(hk:Wx<0\/8<=Wx):
  E 121 #[tp,Pp nb no] w (Rw (.bool false) w):=by
 by_cases b0:Wx<0
 ·clear hk
  go_enter func121,ntmps121
  go_wp2_with fail
  refine Xl 29 5 _ 12 _ (by kernel_rfl) (by kernel_rfl) rfl rfl (λops hY a0=>?_);simp only[take_succ_cons,take_zero,drop_succ_cons,drop_zero]
  iterate 29 still_step
  refine wpStill_nil ?_
  go_wp2_with fail
  go_ret;exact⟨rfl,dA⟩
 have d0:8<=Wx:=by omega
 clear hk
 go_enter func121,ntmps121
 go_wp2_with fail
 refine Xl 29 5 _ 12 _ (by kernel_rfl) (by kernel_rfl) rfl rfl (λops hY a0=>?_);simp only[take_succ_cons,take_zero,drop_succ_cons,drop_zero]
 iterate 29 still_step
 refine wpStill_nil ?_
 go_wp2_with fail
 go_ret;exact⟨rfl,dA⟩
def its_in{tb nb no:Nat}{nd:ar}(h:Ug w nb no nd lv)(hr:Xp w tb 0)(hk:nd.kind=(k:Int))(h8:k<8):
  E 121 #[F tb,Pp nb no] w (Rw (.bool (bT nd)) w):=by
 have k0:=Z (yky hk h8);have HN:=Z h;have HR:=Z hr
 have c0:w.cell? (O nb no)=some (I (k:Int)):=by rw[<-hk];exact h.c0
 have c1:=h.c1;have c2:=h.c2;have c3:=h.c3;have c4:=h.c4;obtain⟨r,a0⟩:=J (bT nd);rw[<-a0];have l0:=Z a0
 have h8':(k:Int)<8:=by omega
 have h0':(0:Int)<=(k:Int):=by omega
 have HK:=Z hk;clear h hr hk a0
 go_enter func121,ntmps121
 go_wp2_with fail
 refine Xl 29 5 _ 12 _ (by kernel_rfl) (by kernel_rfl) rfl rfl (λops hY t0=>?_);simp only[take_succ_cons,take_zero,drop_succ_cons,drop_zero]
 iterate 29 still_step
 refine wpStill_nil ?_;clear c0 c1 c2 c3 c4
 go_wp2_with fail
 have m0:Zw (w.heap.size+1) (w.drew.alloc (.cells #[I nd.ak,I nd.a,I nd.b,I nd.c] 3)) (Sq w.heap.size 0 4 4) [nd.ak,nd.a,nd.b,nd.c]:=Zw.fresh (w:=w.drew) [nd.ak,nd.a,nd.b,nd.c] 3 (by simp[maxLen]) _ (by simp);refine(zuv [nd.ak,nd.a,nd.b,nd.c] _ _ _ m0).mono ?_;clear m0;rintro e w1 ⟨rfl,n0⟩;have i0:=Z ((((Below.refl _ w).drew).alloc lE _).trans (n0.mono (by simp[size_alloc])));clear n0
 have f0:[nd.ak,nd.a,nd.b,nd.c].all cf=(cf nd.ak && (cf nd.a && (cf nd.b && cf nd.c))):=by simp[Bool.and_assoc]
 obtain⟨t,ht⟩:=J ([nd.ak,nd.a,nd.b,nd.c].all cf);rw[<-ht];rw[f0]at ht;clear f0
 cases t with
 |false=>
  have HS:Y (r=false):=(by show r=false;rw[l0.out,k0.out,<-ht];rfl);clear ht;go_wp2;go_ret;exact⟨Zr HS.symm,i0⟩
 |true=>
  have HS:Y (r=((decide (zu4 (Vf k) nd.a nd.b nd.c=0) && ((k==7)||decide (nd.ae=[]))) && (decide (nd.ae.length<=16) && nd.ae.all cf))):=(by show r=_;rw[l0.out,k0.out,<-ht];rfl);have g0:=Z i0.drew;have o0:=HN.below g0.out;have j0:=HR.below g0 k h8;have d0:=cT i0 (Qe w _ HN.c0) (by rw[HN.c0,HK.out]);have e1:w1.drew.cell? (O tb (k*4+1))=some (I (Vf k:Nat)):=(by have:=j0.1;simpa using this);have e2:w1.drew.cell? (O tb (k*4+2))=some (.bool (k==7)):=(by have:=j0.2.1;simpa using this);have u0:Vf k<=3:=(by unfold Vf;(repeat' split)<;>omega);have HC:=Z (yb6 tb (k*4) nb no (Vf k) u0 (k==7) nd lv w1.drew o0 e1 e2);obtain⟨u,hu⟩:=J ((decide (zu4 (Vf k) nd.a nd.b nd.c=0) && ((k==7)||decide (nd.ae=[]))));rw[<-hu]at HC HS;clear ht o0 j0 e1 e2 hu;obtain⟨lao,lcap,v0,x0,y0,z0⟩:=id HN.hl;subst v0;unfold maxLen at y0;clear z0 x0
  go_wp2_with fail
  refine Xl 8 9 _ 17 _ (by kernel_rfl) (by kernel_rfl) rfl rfl (λops hY t0=>?_);simp only[take_succ_cons,take_zero,drop_succ_cons,drop_zero]
  iterate 8 still_step
  refine wpStill_nil ?_
  go_wp2_with fail
  refine(HC.out).mono ?_;rintro e w2 ⟨rfl,p0⟩;have b0:=Z (g0.trans (p0.mono g0.size));have q0:=HN.below b0.out;have f5:=q0.c5;have A0:Y (∀W,D w W->E 119 #[A lao nd.ae.length lcap] W (Rw (.bool (nd.ae.all cf)) W)):=λW hW=>zuv nd.ae _ w.heap.size W (HN.hl.below hW);clear p0 q0 HC d0
  cases u with
  |false=>
   have e0:Y (r=false):=(by show r=false;rw[HS.out];rfl);go_wp2;go_ret;exact⟨Zr e0.symm,b0⟩
  |true=>
   by_cases r0:nd.ae.length<=16
   ·have h16':(nd.ae.length:Int)<=16:=by omega
    have e0:Y (r=nd.ae.all cf):=(by show r=_;rw[HS.out];simp[r0])
    go_wp2_with fail
    refine(A0 _ b0).mono ?_;rintro e w3 ⟨rfl,s0⟩;have B0:=Z (b0.trans (s0.mono b0.size));clear s0 f5;obtain⟨v,hv⟩:=J (nd.ae.all cf);rw[<-hv]at e0⊢;clear hv;go_wp2;go_ret;exact⟨Zr e0.symm,B0⟩
   have h16':(16:Int)<(nd.ae.length:Int):=(by omega);have e0:Y (r=false):=(by show r=_;rw[HS.out];simp[r0]);go_wp2;go_ret;exact⟨Zr e0.symm,b0⟩
end Go.Proofs.YtgmbnnpnefniiaaGreatDoor
