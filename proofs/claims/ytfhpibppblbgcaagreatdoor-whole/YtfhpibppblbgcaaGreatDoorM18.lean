import Derived.Test.YtfhpibppblbgcaaGreatDoorM16
import Derived.Test.YtfhpibppblbgcaaGreatDoorM17
set_option linter.all false
set_option maxRecDepth 100000
set_option maxHeartbeats 40000000
namespace Go.Proofs.YtfhpibppblbgcaaGreatDoor
open Go.RowKit Go.Proofs.Tryz
variable{w w' wr:World}{b i P0 cap:Nat}{s:List UInt8}{ao:Option Addr}
def Xa.mono{base base':Nat}(h:Xa base w w')(hb:base<=base'):Xa base' w w':=⟨h.size,λk hk a0=>h.block k (by omega) a0⟩
def zmz(r:(List Int×List Fl.ar)×Bool×Int)(b:Nat)(w:World)(e:Ending)(w':World):Prop:=
 w.grownBy w' (some b)/\(r.2.1=false->e=.panicked (Ze 8 r.2.2))/\(r.2.1=true->∃lv nv,e=.returned (.agg #[lv,nv])/\∀w'',Xa w.heap.size w' w''->Zv w''.heap.size w'' lv r.1.1/\Yv w''.heap.size w'' nv r.1.2)
def Vy{r:(List Int×List Fl.ar)×Bool×Int}{pl:Int}(hr:r=(([],[]),false,pl))(m:w.grownBy w' (some b)):zmz r b w (.panicked (Ze 8 pl)) w':=by
 subst hr;exact⟨m,λ_=>rfl,λh=>by cases h⟩
def zu4(h:∀t,t<i->Fl.dq s t=true)(hi:i<3)(hb:Fl.dq s i=false):Fl.decode s=(([],[]),false,(i:Int)):=by
 have he:Fl.dg s=i:=by
  unfold Fl.dg
  have:i=0\/i=1\/i=2:=by omega
  rcases this with rfl|rfl|rfl
  ·rw[if_pos hb]
  ·rw[if_neg (by rw[h 0 (by omega)];decide),if_pos hb]
  rw[if_neg (by rw[h 0 (by omega)];decide),if_neg (by rw[h 1 (by omega)];decide),if_pos hb]
 unfold Fl.decode;rw[he,if_pos hi]
def yp0(h:¬i<s.length):Fl.dq s i=false:=by unfold Fl.dq;rw[decide_eq_false h];rfl
def yp1(h:i<s.length):Fl.dq s i=((s.getD i 0).toNat==(([70,80,49]:List UInt8).getD i 0).toNat):=by
 unfold Fl.dq;rw[decide_eq_true h,Bool.true_and,Bool.eq_iff_iff,beq_iff_eq,beq_iff_eq];exact⟨λh=>by rw[h],λh=>UInt8.toNat_inj.1 h⟩
structure PB(w wr:World)(b P0:Nat)(lv:Value):Prop where
 c0:wr.cell? (Aq P0 0)=some lv
 c1:wr.cell? (Aq P0 1)=some Zq
 d0:wr.cell? (Aq w.heap.size 0)=some Zq
 d1:wr.cell? (Aq w.heap.size 1)=some Zq
 f0:∀j,wr.frozen? (Aq w.heap.size j)=false
 f1:∀j,wr.frozen? (Aq P0 j)=false
 fb:∀j,wr.frozen? (Aq b j)=false
 m:Mv w wr b
 jF:wr.cell? (Aq b 34)=some Zq
 hR:w.heap.size<P0
 hP:P0<wr.heap.size
 hb:b<w.heap.size
def PB.move{lv:Value}(h:PB w wr b P0 lv)(m:Mv wr w' b):PB w w' b P0 lv:=by
 have hR:=h.hR;have hb:=h.hb;have hP:=h.hP
 have n1:some P0≠some b:=by simp;omega
 have n2:some w.heap.size≠some b:=by simp;omega
 have fz:∀(N j:Nat),N<wr.heap.size->some N≠some b->w'.frozen? (Aq N j)=wr.frozen? (Aq N j):=λN j hN a0=>Qd (w:=wr) (a:=(Aq N j)) (m.g.block N hN a0);exact⟨m.g.cell h.c0 n1,m.g.cell h.c1 n1,m.g.cell h.d0 n2,m.g.cell h.d1 n2,λj=>(fz _ j (by omega) n2).trans (h.f0 j),λj=>(fz _ j hP n1).trans (h.f1 j),λj=>(m.f j).trans (h.fb j),h.m.trans m,(m.o 34 (by decide)).trans h.jF,hR,Qj hP m.g.size,hb⟩
def PB.oT{lv:Value}(h:PB w wr b P0 lv)(u:Value):PB w (wr.setCell (Aq P0 0) u) b P0 u:=by
 have hR:=h.hR;have hb:=h.hb;have g:=Xo wr P0 0 u
 have n1:some w.heap.size≠some P0:=by simp;omega
 have n2:some b≠some P0:=by simp;omega
 exact⟨Ud h.c0,(Yf (by decide)).trans h.c1,g.cell h.d0 n1,g.cell h.d1 n1,λj=>(World.frozen?_setCell _ _ _ _).trans (h.f0 j),λj=>(World.frozen?_setCell _ _ _ _).trans (h.f1 j),λj=>(World.frozen?_setCell _ _ _ _).trans (h.fb j),h.m.eE hb (by omega) _ _,g.cell h.jF n2,hR,by simpa [World.setCell] using h.hP,hb⟩
def PB.pl{M q0:Nat}{lv:Value}{ls:List Int}(h:PB w wr b P0 lv)(hq:q0<=s.length)(a1:wr.cell? (Aq b 1)=some (Iq (q0:Int)))(hi:Zv wr.heap.size wr lv ls)(a0:∀bb,lv.ownBlock=some bb->P0+1<=bb):
  PL s M q0 w b P0 lv ls wr 0 q0 Zq Zq [] [] []:=by
 refine⟨by omega,hq,rfl,rfl,rfl,rfl,λi hi=>by simp at hi,⟨World.ownsRow_nil _ _ _ _,World.ownsRow_nil _ _ _ _,λp hp=>?_⟩,h.c0,h.c1,h.d0,h.d1,h.f0,h.f1,h.fb,h.m.fr,a1,h.jF,h.hR,h.hP,h.hb⟩;simp only[Vu,List.mem_singleton]at hp;subst hp;refine⟨⟨hi,λhx=>?_⟩,λ_ bb hb=>a0 bb hb⟩;obtain⟨bb,hb,_⟩:=ztx hi hx;rw[hb];exact⟨by simp[Value.ownBlock],by simp[Value.ownBlock]⟩
def Dr.mn{p q:Nat}(h:Dr w b ao cap s p)(m:Fr w w' b)(c:w'.cell? (Aq b 1)=some (Iq q))(hq:q<=s.length):Dr w' b ao cap s q:=by
 refine⟨(m.o 0 (by decide) (by decide)).trans h.c0,c,(m.f 1).trans h.f1,λb0=>?_,hq,h.hs⟩;obtain⟨bb,bo,ha,a0,hc⟩:=h.hb b0;exact⟨bb,bo,ha,a0,λi hi=>m.g.cell (hc i hi) (by simpa using a0)⟩
def Yb.mn(h:Yb w b 2)(m:Fr w w' b):Yb w' b 2:=λk hk=>by
 obtain⟨h1,h2,h3⟩:=h k hk;exact⟨(m.o _ (by omega) (by omega)).trans h1,(m.o _ (by omega) (by omega)).trans h2,(m.o _ (by omega) (by omega)).trans h3⟩
def yp2(h:Dr w b ao cap s 0)(hr:Yb w b 2)(Z1:w.cell? (Aq b 34)=some Zq)(a2:∀j,w.frozen? (Aq b j)=false):
  Cq 48 #[Pq b] w λe w'=>zmz (Fl.decode s) b w e w':=by
 obtain⟨i0,H2,H1,I2,J2⟩:=info_parts Tryz.infoInt;obtain⟨i1,b2,d2,f2,g2⟩:=info_parts Tryz.infoNode;have hlb:=h.lt;have hs:=h.hs;have HD:=Zz h;have HR:=Zz hr;have K2:=Zz Z1;have L2:=Zz a2;clear h hr Z1 a2
 go_enter func48,ntmps48
 go_wp2_with fail
 obtain⟨W0,H0⟩:=nmE (w.alloc (.cells #[Zq,Zq] 69));rw[<-H0]
 have F0:Hid (Mv w W0 b):=by rw[H0];exact(Mv.refl w b).alloc hlb _
 have h2:Hid (W0.cell? (Aq b 1)=some (Iq 0)):=by show _=_;rw[H0,World.cell?_alloc_past _ _ _ hlb];exact HD.c1
 have i2:Hid (W0.cell? (Aq w.heap.size 0)=some Zq/\W0.cell? (Aq w.heap.size 1)=some Zq/\∀j,W0.frozen? (Aq w.heap.size j)=false):=by rw[H0];exact⟨by simp,by simp,λj=>by simp⟩
 have H1:W0.heap.size=w.heap.size+1:=by rw[H0];simp
 clear H0
 go_loopw [7] (λi wr=>∃j:Nat,j<=3/\i=Iq j/\(∀t,t<j->Fl.dq s t=true)/\Mv W0 wr b/\wr.cell? (Aq b 1)=some (Iq (j:Int))/\j<=s.length) (λi _=>3 - (intOf i).toNat)
 case atStart=>exact⟨0,by omega,rfl,λt ht=>by omega,Mv.refl _ _,h2,by omega⟩
 case round=>
  obtain⟨i,M2,rfl,j2,hm,L0,M0⟩:=hrel;have n0:=Zz j2;have HM:=Zz hm;have o1:=Zz L0;have I0:Hid (Dr wr b ao cap s i):=HD.move (F0.trans hm) L0 M0;have I1:Hid (Dr wr.drew b ao cap s i):=I0.move ((Mv.refl wr b).drew) L0 M0;clear j2 hm
  by_cases hi:i<3
  ·by_cases x0:i<s.length
   ·obtain⟨c,hc⟩:=nmE ((s.getD i 0).toNat)
    have HN:Hid (Cq 88 #[Pq b] wr.drew λe w'=>e=.returned (.int .u8 c)/\Mv wr.drew w' b/\w'.cell? (Aq b 1)=some (Iq ((i+1:Nat):Int))):=(by rw[hc];exact zf8 I1 x0);have J0:Hid (Fl.dq s i=(c==(([70,80,49]:List UInt8).getD i 0).toNat)):=(by show _=_;rw[yp1 x0,hc]);clear hc;have h3:i=0\/i=1\/i=2:=(by omega);clear L0;rcases h3 with rfl|rfl|rfl
    ·have c1:wr.cell? (Aq b 1)=some (Iq 0):=o1.out
     by_cases j0:c=70
     ·have bq:((c:Int)==(((⟨#[70,80,49]⟩:ByteArray)[0]'(by decide)).toNat:Int))=true:=beq_iff_eq.2 (by rw[j0];rfl)
      have bqn:(c==70)=true:=beq_iff_eq.2 j0;have HG:Hid (Fl.dq s 0=true):=J0.trans bqn;clear j0 bqn
      go_wp2_with fail
      refine Vj [0,1,3,4,6] [2,5,7] (by kernel_rfl) (by kernel_rfl) rfl [_,_,_,_,_] [_,_,_] rfl rfl (λc a d v w h=>by cases d<;>exact h) ?_;refine Vr (λL HL=>?_)
      repeat refine Vs rfl (kE (by intro w' _;go_simp<;>rfl) (by go_simp<;>rfl) ?_)
      refine HL _ ?_;clear HL
      go_wp2_with (first|(go_at_call 88;refine(HN.out).mono ?_;rintro e w1 ⟨rfl,h0,l0⟩)|(go_at_call 87;refine(Jr _ _ _).mono ?_;rintro e w2 ⟨rfl,rfl⟩))
      all_goals
       try go_wp2
       go_roundw
       case rel=>exact⟨0+1,by omega,by go_num,λt ht=>by
        by_cases h:t<0
        ·exact n0 t h
        have:t=0:=by omega
        subst this;exact HG.out,(HM.drew).trans h0,l0,by omega⟩
       case measure=>simp[intOf]
     have bq:((c:Int)==(((⟨#[70,80,49]⟩:ByteArray)[0]'(by decide)).toNat:Int))=false:=beq_eq_false_iff_ne.2 (show (c:Int)≠70 by omega);have bqn:(c==70)=false:=beq_eq_false_iff_ne.2 j0;have HB:Hid (Fl.decode s=(([],[]),false,((0:Nat):Int))):=zu4 n0 (by omega) (J0.trans bqn);clear j0 bqn
     go_wp2_with fail
     refine Vj [0,1,3,4,6] [2,5,7] (by kernel_rfl) (by kernel_rfl) rfl [_,_,_,_,_] [_,_,_] rfl rfl (λc a d v w h=>by cases d<;>exact h) ?_;refine Vr (λL HL=>?_)
     repeat refine Vs rfl (kE (by intro w' _;go_simp<;>rfl) (by go_simp<;>rfl) ?_)
     refine HL _ ?_;clear HL
     go_wp2_with (first|(go_at_call 88;refine(HN.out).mono ?_;rintro e w1 ⟨rfl,h0,l0⟩)|(go_at_call 87;refine(Vv _ _ _).mono ?_;rintro e w2 ⟨rfl,N0⟩;exact⟨rfl,Vy HB (((F0.trans HM).drew.trans h0).ef N0 hlb).g⟩))
    ·have c1:wr.cell? (Aq b 1)=some (Iq 1):=o1.out
     by_cases j0:c=80
     ·have bq:((c:Int)==(((⟨#[70,80,49]⟩:ByteArray)[1]'(by decide)).toNat:Int))=true:=beq_iff_eq.2 (by rw[j0];rfl)
      have bqn:(c==80)=true:=beq_iff_eq.2 j0;have HG:Hid (Fl.dq s 1=true):=J0.trans bqn;clear j0 bqn
      go_wp2_with fail
      refine Vj [0,1,3,4,6] [2,5,7] (by kernel_rfl) (by kernel_rfl) rfl [_,_,_,_,_] [_,_,_] rfl rfl (λc a d v w h=>by cases d<;>exact h) ?_;refine Vr (λL HL=>?_)
      repeat refine Vs rfl (kE (by intro w' _;go_simp<;>rfl) (by go_simp<;>rfl) ?_)
      refine HL _ ?_;clear HL
      go_wp2_with (first|(go_at_call 88;refine(HN.out).mono ?_;rintro e w1 ⟨rfl,h0,l0⟩)|(go_at_call 87;refine(Jr _ _ _).mono ?_;rintro e w2 ⟨rfl,rfl⟩))
      all_goals
       try go_wp2
       go_roundw
       case rel=>exact⟨1+1,by omega,by go_num,λt ht=>by
        by_cases h:t<1
        ·exact n0 t h
        have:t=1:=by omega
        subst this;exact HG.out,(HM.drew).trans h0,l0,by omega⟩
       case measure=>simp[intOf]
     have bq:((c:Int)==(((⟨#[70,80,49]⟩:ByteArray)[1]'(by decide)).toNat:Int))=false:=beq_eq_false_iff_ne.2 (show (c:Int)≠80 by omega);have bqn:(c==80)=false:=beq_eq_false_iff_ne.2 j0;have HB:Hid (Fl.decode s=(([],[]),false,((1:Nat):Int))):=zu4 n0 (by omega) (J0.trans bqn);clear j0 bqn
     go_wp2_with fail
     refine Vj [0,1,3,4,6] [2,5,7] (by kernel_rfl) (by kernel_rfl) rfl [_,_,_,_,_] [_,_,_] rfl rfl (λc a d v w h=>by cases d<;>exact h) ?_;refine Vr (λL HL=>?_)
     repeat refine Vs rfl (kE (by intro w' _;go_simp<;>rfl) (by go_simp<;>rfl) ?_)
     refine HL _ ?_;clear HL
     go_wp2_with (first|(go_at_call 88;refine(HN.out).mono ?_;rintro e w1 ⟨rfl,h0,l0⟩)|(go_at_call 87;refine(Vv _ _ _).mono ?_;rintro e w2 ⟨rfl,N0⟩;exact⟨rfl,Vy HB (((F0.trans HM).drew.trans h0).ef N0 hlb).g⟩))
    have c1:wr.cell? (Aq b 1)=some (Iq 2):=o1.out
    by_cases j0:c=49
    ·have bq:((c:Int)==(((⟨#[70,80,49]⟩:ByteArray)[2]'(by decide)).toNat:Int))=true:=beq_iff_eq.2 (by rw[j0];rfl)
     have bqn:(c==49)=true:=beq_iff_eq.2 j0;have HG:Hid (Fl.dq s 2=true):=J0.trans bqn;clear j0 bqn
     go_wp2_with fail
     refine Vj [0,1,3,4,6] [2,5,7] (by kernel_rfl) (by kernel_rfl) rfl [_,_,_,_,_] [_,_,_] rfl rfl (λc a d v w h=>by cases d<;>exact h) ?_;refine Vr (λL HL=>?_)
     repeat refine Vs rfl (kE (by intro w' _;go_simp<;>rfl) (by go_simp<;>rfl) ?_)
     refine HL _ ?_;clear HL
     go_wp2_with (first|(go_at_call 88;refine(HN.out).mono ?_;rintro e w1 ⟨rfl,h0,l0⟩)|(go_at_call 87;refine(Jr _ _ _).mono ?_;rintro e w2 ⟨rfl,rfl⟩))
     all_goals
      try go_wp2
      go_roundw
      case rel=>exact⟨2+1,by omega,by go_num,λt ht=>by
       by_cases h:t<2
       ·exact n0 t h
       have:t=2:=by omega
       subst this;exact HG.out,(HM.drew).trans h0,l0,by omega⟩
      case measure=>simp[intOf]
    have bq:((c:Int)==(((⟨#[70,80,49]⟩:ByteArray)[2]'(by decide)).toNat:Int))=false:=beq_eq_false_iff_ne.2 (show (c:Int)≠49 by omega);have bqn:(c==49)=false:=beq_eq_false_iff_ne.2 j0;have HB:Hid (Fl.decode s=(([],[]),false,((2:Nat):Int))):=zu4 n0 (by omega) (J0.trans bqn);clear j0 bqn
    go_wp2_with fail
    refine Vj [0,1,3,4,6] [2,5,7] (by kernel_rfl) (by kernel_rfl) rfl [_,_,_,_,_] [_,_,_] rfl rfl (λc a d v w h=>by cases d<;>exact h) ?_;refine Vr (λL HL=>?_)
    repeat refine Vs rfl (kE (by intro w' _;go_simp<;>rfl) (by go_simp<;>rfl) ?_)
    refine HL _ ?_;clear HL
    go_wp2_with (first|(go_at_call 88;refine(HN.out).mono ?_;rintro e w1 ⟨rfl,h0,l0⟩)|(go_at_call 87;refine(Vv _ _ _).mono ?_;rintro e w2 ⟨rfl,N0⟩;exact⟨rfl,Vy HB (((F0.trans HM).drew.trans h0).ef N0 hlb).g⟩))
   have HB:Hid (Fl.decode s=(([],[]),false,(i:Int))):=zu4 n0 hi (yp0 x0);have O0:i=s.length:=(by omega);have HE:Hid (Cq 88 #[Pq b] wr.drew λe w'=>e=.panicked (Ze 8 (i:Int))/\Mv wr.drew w' b):=by
    have:=zj0 I1 x0;rw[<-O0]at this;exact this
   clear O0;have V2:(i:Int)<3:=(by omega)
   go_wp2_with fail
   refine Vj [0,1,3,4,6] [2,5,7] (by kernel_rfl) (by kernel_rfl) rfl [_,_,_,_,_] [_,_,_] rfl rfl (λc a d v w h=>by cases d<;>exact h) ?_;refine Vr (λL HL=>?_)
   repeat refine Vs rfl (kE (by intro w' _;go_simp<;>rfl) (by go_simp<;>rfl) ?_)
   refine HL _ ?_;clear HL
   go_wp2_with (go_at_call 88;refine(HE.out).mono ?_;rintro e w1 ⟨rfl,h0⟩;exact⟨rfl,Vy HB ((F0.trans HM).drew.trans h0).g⟩)
  have hi3':i=3:=(by omega);subst hi3';have Q0:Hid (Fl.dg s=3):=by
   show Fl.dg s=3;unfold Fl.dg;rw[if_neg (by rw[n0 0 (by omega)];decide),if_neg (by rw[n0 1 (by omega)];decide),if_neg (by rw[n0 2 (by omega)];decide)]
  clear L0 I1 hi M2
  go_wp2_with fail
  obtain⟨WP,D0⟩:=nmE (wr.alloc (.cells #[Zq,Zq] 69));rw[<-D0];obtain⟨P0,K0⟩:=nmE (wr.heap.size);rw[<-K0];have J1:Hid (PB w WP b P0 Zq):=by
   have p1:Mv w wr b:=F0.trans HM.out;have X2:=HM.g.size;have n2:some w.heap.size≠some b:=(by simp;omega);obtain⟨r0,r1,r2⟩:=i2.out;have e0:wr.cell? (Aq w.heap.size 0)=some Zq:=HM.g.cell r0 n2;have e1:wr.cell? (Aq w.heap.size 1)=some Zq:=HM.g.cell r1 n2;have e2:∀j,wr.frozen? (Aq w.heap.size j)=false:=λj=>(Qd (w:=W0) (a:=(Aq w.heap.size j)) (HM.g.block w.heap.size (by omega) n2)).trans (r2 j);have g:wr.grownBy WP none:=(by rw[D0];exact World.grownBy_alloc _ _ _);have fz:∀(N j:Nat),N<wr.heap.size->WP.frozen? (Aq N j)=wr.frozen? (Aq N j):=λN j hN=>Qd (w:=wr) (a:=(Aq N j)) (g.block N hN (by simp));refine⟨by rw[D0,K0];simp,by rw[D0,K0];simp,g.cell e0 (by simp),g.cell e1 (by simp),λj=>(fz _ j (by omega)).trans (e2 j),λj=>by rw[D0,K0];simp,λj=>(fz b j (p1.lt hlb)).trans ((p1.f j).trans (L2 j)),p1.dT g hlb (λk e=>by cases e),g.cell ((p1.o 34 (by decide)).trans K2) (by simp),by omega,by rw[D0,K0];simp,hlb⟩
  have K1:Hid (Dr WP b ao cap s 3):=(by rw[D0];exact I0.move ((Mv.refl wr b).alloc I0.lt _) (by rw[World.cell?_alloc_past _ _ _ I0.lt];exact I0.c1) M0);clear D0 K0 HM I0 o1 n0 i2 h2 F0 H1;have k2:Hid (Cq 90 #[Pq b,Iq 0,Iq 4] WP λe w'=>zw8 (Fl.dF s 3 0 4) b WP e w'):=zu2 K1 0 4 (by omega) (by omega);refine(k2.out).mono ?_;rintro e w1 ⟨h0,b0,aQ⟩
  by_cases R0:(Fl.dF s 3 0 4).2.1<0
  ·obtain rfl:=b0 R0
   exact⟨rfl,Vy (yx7 Q0 M0 R0) (J1.m.trans h0).g⟩
  obtain⟨rfl,l0⟩:=aQ R0;obtain⟨n,q1,hnb,l2,Y2,S0,_,Z2⟩:=zpy s 3 0 4 M0 R0;rw[hnb]at l0⊢;simp only at l0⊢;have t1:=Zz l2;have y0:Hid (PB w w1 b P0 Zq):=J1.move h0;have L1:Hid (Dr w1 b ao cap s q1):=K1.move h0 l0 S0;have hn4':n<=4:=(by omega);clear b0 aQ R0 hnb l2 l0 h0 J1 K1 k2
  go_wp2_with fail
  refine(zm0 L1 n (by omega)).mono ?_;rintro e w2 ⟨u1,b0,aQ⟩
  by_cases v1:(Fl.cZ s q1 n).2.1<0
  ·obtain rfl:=b0 v1
   exact⟨rfl,Vy (yx8 Q0 t1 hn4' v1) (y0.m.trans u1).g⟩
  obtain⟨lv,rfl,m0,T0⟩:=aQ v1;have M1:=Fl.fj s q1 n S0;obtain⟨ls,q2,N1,z0⟩:∃(ls:List Int) (q2:Nat),Fl.cZ s q1 n=(ls,(q2:Int),(Fl.cZ s q1 n).2.2)/\q2<=s.length:=⟨(Fl.cZ s q1 n).1,(Fl.cZ s q1 n).2.1.toNat,by rw[Int.toNat_of_nonneg (by omega)],by omega⟩;rw[N1]at m0 T0;simp only at m0 T0;obtain⟨lao,lcap,rfl⟩:=Uo m0;have O1:=Zz N1;have o0:Hid (PB w w2 b P0 Zq):=y0.move u1;have m2:Hid (Zv w2.heap.size w2 (.slice lao ls.length lcap) ls):=Zv.dE m0
  have y1:Hid (∀bb,(Value.slice lao ls.length lcap).ownBlock=some bb->P0+1<=bb):=λbb h=>by have:=(m0.lt bb h).1;have:=y0.hP;omega
  have o2:=Zz T0;have k0:=o0.c0;have kf:=o0.f1;have HD2':Hid (Dr w2 b ao cap s q2):=L1.move u1 T0 z0;clear b0 aQ v1 M1 N1 m0 T0 u1 y0 L1
  go_wp2_with fail
  obtain⟨W3,U0⟩:=nmE (w2.setCell (Aq P0 0) (.slice lao ls.length lcap));rw[<-U0];have g3:w2.grownBy W3 (some P0):=(by rw[U0];exact Xo _ _ _ _);have N2:b≠P0:=(by have:=o0.hR;omega);have p0:Hid (PB w W3 b P0 (.slice lao ls.length lcap)):=(by rw[U0];exact o0.oT _);have p2:Hid (Zv W3.heap.size W3 (.slice lao ls.length lcap) ls):=(by rw[U0];exact Uh m2 (λ_ h=>by have h9:P0+1<=P0:=y1 P0 h;omega));have s2:Hid (W3.cell? (Aq b 1)=some (Iq (q2:Int))):=g3.cell o2 (by simpa using N2);have t2:Hid (Dr W3 b ao cap s q2):=HD.move p0.m s2 z0;clear U0 g3 k0 kf o0 m2 o2 HD2';have u2:Hid (Cq 90 #[Pq b,Iq 1,Iq 200] W3 λe w'=>zw8 (Fl.dF s q2 1 200) b W3 e w'):=zu2 t2 1 200 (by omega) (by omega);refine(u2.out).mono ?_;rintro e w4 ⟨z1,b0,aQ⟩
  by_cases V0:(Fl.dF s q2 1 200).2.1<0
  ·obtain rfl:=b0 V0
   exact⟨rfl,Vy (yx9 Q0 t1 hn4' O1 z0 V0) (p0.m.trans z1).g⟩
  obtain⟨rfl,A1⟩:=aQ V0;obtain⟨M,q0,v2,x2,a3,P1,O2,X0⟩:=zpy s q2 1 200 z0 V0;rw[v2]at A1⊢;simp only at A1⊢;have Y0:Hid (Fl.decode s=ztv s ls M q0):=yu2 Q0 t1 hn4' O1 x2 (by omega) (by omega);have hM:M<=200:=(by omega)
  have a0:Hid (PL s M q0 w b P0 (.slice lao ls.length lcap) ls w4 0 q0 Zq Zq [] [] []):=
   (p0.move z1).pl P1 A1 (zm7 (base:=P0+1) p2 (λ_=>y1.out) (Xa.grown z1.g (λk e=>by injection e with e;have:=p0.hR;omega))) y1.out
  clear b0 aQ V0 v2 x2 A1 z1 p0 p2 s2 t2 u2 t1 O1 Q0 O2 X0 y1
  go_wp2_with fail
  go_loopw [30] (λi wz=>∃(k q:Nat) (sv nv:Value) (st:List Int) (acc:List Fl.ar) (lvs:List Value),i=Iq k/\PL s M q0 w b P0 (.slice lao ls.length lcap) ls wz k q sv nv st acc lvs) (λi _=>M - (intOf i).toNat)
  case atStart=>exact⟨0,q0,_,_,[],[],[],rfl,a0⟩
  case round=>
   clear a0;obtain⟨k,q,sv,nv,st,acc,lvs,rfl,B1⟩:=hrel;have a0:=Zz B1;have b3:=B1.hk;have y2:=B1.hq;clear B1
   by_cases x0:k<M
   ·obtain⟨sao,scap,rfl⟩:=Uo a0.hl.hs
    obtain⟨nao,ncap,rfl⟩:=Uo a0.hl.hn;have HP0':Hid _:=a0.pc;have e34:=a0.jF;have e1:=a0.a1;have d3:(k:Int)<(M:Int):=(by omega);have cG:=a0.cG
    go_wp2_with fail
    go_cut [] (λwc=>∃(sao':Option Addr) (scap':Nat),PC w b P0 (.slice lao ls.length lcap) wc q (.slice sao' (k+1) scap') (.slice nao k ncap) (((.slice lao ls.length lcap),ls)::Vu acc lvs) (.slice sao' (k+1) scap') (.slice nao k ncap) (k+1) k (st.map (Value.int .i64)++[Iq (q:Int)]) (flat acc lvs))
    case first=>
     have C1:Hid (PC w b P0 (.slice lao ls.length lcap) wr.drew q (.slice sao k scap) (.slice nao k ncap) (((.slice lao ls.length lcap),ls)::Vu acc lvs) (.slice sao k scap) (.slice nao k ncap) k k (st.map (Value.int .i64)) (flat acc lvs)):=a0.pc.drew;have d34:wr.drew.cell? (Aq b 34)=some (.slice sao k scap):=e34;have d1:wr.drew.cell? (Aq b 1)=some (Iq (q:Int)):=e1;have d34a:∀o,(wr.drew.alloc o).cell? (Aq b 34)=some (.slice sao k scap):=λo=>(C1.alloc o).jF;have P2:k<=200:=(by omega);refine zv0 [0,1,2,3,5,6,7] 4 8 4 9 [8,9,10,11,12,13] [9,10,11,12,13] [4,10,11,12,13] (by kernel_rfl) (by kernel_rfl) rfl rfl rfl [_,_,_,_,_,_,_] _ _ _ _ [_,_,_,_,_,_] [_,_,_,_,_] [_,_,_,_,_] rfl rfl rfl rfl rfl rfl rfl rfl (λc a d v w h=>by cases d<;>exact h) ?_;refine Vr (λL HL=>?_)
     repeat refine Vs rfl (kE (by intro w' _;go_simp<;>rfl) (by go_simp<;>rfl) ?_)
     refine HL _ ⟨?ga,?gb⟩
     all_goals
      clear HL;generalize wr.drew=W1 at*;simp only[List.getElem_toArray,List.getElem_cons_succ,List.getElem_cons_zero]
     case' gb=>
      go_wp2_with fail
      refine⟨?_,?_⟩
     all_goals
      go_wp2_with (at_builtin;refine Zj _ rfl (.tmp 37) (.tmp 42) 36 rfl (P0+1) 3 i0 (Iq 0) 1 8 underlying36 H2 H1 I2 J2 rfl (by decide) _ _ _ rfl (C1.alloc _).hl.hs (Aq _ 0) 1 1 [Iq q] rfl rfl (by decide) zy7 ?c2 ?c3 ?c4 ?c5 ?_)
      case c2=>intro u hu;simp at hu;subst hu;rfl
      case c3=>unfold maxLen;omega
      case c4=>omega
      case c5=>have:=C1.hP;first|omega|(simp;omega)
      intro sv' w3 t0 z2 A2;have D1:=(C1.alloc _).first t0 z2 (by simp only[World.size_alloc];exact A2);obtain⟨sao',scap',rfl⟩:=Uo t0;have c34:=D1.jF;have fb:=D1.fb;have Q2:=Zz D1;clear D1 t0 z2 A2 d34 d1 d34a
      go_wp2_with fail
      go_meet
      case rel=>exact⟨sao',scap',Q2.lA _⟩
    case rest=>
    obtain⟨sao',scap',B2⟩:=hcut;have v0:=Zz B2;obtain⟨W2,C2⟩:=nmE (wc);rw[<-C2]at v0⊢;clear B2 C2 e34 e1 HP0'
    go_wp2_with fail
    have D2:Hid (Dr W2.drew b ao cap s q):=HD.mn v0.drew.fr v0.a1 y2;have E2:Hid (Yb W2.drew b 2):=HR.mn v0.drew.fr;have Q1:Hid (Cq 91 #[Pq b,Iq k] W2.drew λe w'=>zpx (Fl.one s q k) b W2.drew e w'):=yny D2 E2 k (by omega);have ec1:=v0.c1
    by_cases E1:(Fl.one s q k).2.1<0
    ·have E0:Hid (Fl.decode s=(([],[]),false,(Fl.one s q k).2.2)):=Y0.trans (a0.nG x0 E1)
     refine zv0 [0,2,3] 1 4 1 5 [4,5,6,7,8] [5,6,7,8] [1,6,7,8] (by kernel_rfl) (by kernel_rfl) rfl rfl rfl [_,_,_] _ _ _ _ [_,_,_,_,_] [_,_,_,_] [_,_,_,_] rfl rfl rfl rfl rfl rfl rfl rfl (λc a d v w h=>by cases d<;>exact h) ?_;refine Vr (λL HL=>?_)
     repeat refine Vs rfl (kE (by intro w' _;go_simp<;>rfl) (by go_simp<;>rfl) ?_)
     refine HL _ ⟨?_,?_⟩
     all_goals
      clear HL
      go_wp2_with (go_at_call 91;refine(Q1.out).mono ?_;rintro e w5 ⟨R1,b0,_⟩;obtain rfl:=b0 E1;exact⟨rfl,Vy E0 (v0.drew.fr.trans R1.fr).g⟩)
    have S1:=Fl.jD s q k y2;obtain⟨nd,af,z,ho,Z0⟩:∃(nd:Fl.ar) (af:Nat) (z:Int),Fl.one s q k=(nd,(af:Int),z)/\af<=s.length:=⟨(Fl.one s q k).1,(Fl.one s q k).2.1.toNat,(Fl.one s q k).2.2,by rw[Int.toNat_of_nonneg (by omega)],by omega⟩;have HO:=Zz ho
    have F2:Hid (Cq 91 #[Pq b,Iq k] W2.drew λe w'=>∃(vao:Option Addr) (vcap:Nat),e=.returned (.agg #[Iq nd.kind,Iq nd.ag,Iq nd.a,Iq nd.b,Iq nd.c,.slice vao nd.aU.length vcap])/\
      PC w b P0 (.slice lao ls.length lcap) w' af (.slice sao' (k+1) scap') (.slice nao k ncap) ((((.slice lao ls.length lcap),ls)::Vu acc lvs)++[(.slice vao nd.aU.length vcap,nd.aU)]) (.slice sao' (k+1) scap') (.slice nao k ncap) (k+1) k (st.map (Value.int .i64)++[Iq (q:Int)]) (flat acc lvs)):=by
     refine(Q1.out).mono ?_;rintro e w5 ⟨R1,_,aQ⟩;obtain⟨lvn,rfl,F1,cV,T1⟩:=aQ E1;rw[ho]at F1 T1⊢;simp only at F1 T1⊢;obtain⟨vao,vcap,rfl,_⟩:=id F1;refine⟨vao,vcap,rfl,(v0.drew.move R1 T1).add F1 cV (λbb h=>(v0.drew.hl.hs.lt bb h).2) (λbb h=>(v0.drew.hl.hn.lt bb h).2) v0.drew.hP⟩
    have dc1:W2.drew.cell? (Aq P0 1)=some (.slice nao k ncap):=ec1;have P2:k<=200:=(by omega);clear E1 ho Q1 D2 E2 S1 ec1;refine zv0 [0,2,3] 1 4 1 5 [4,5,6,7,8] [5,6,7,8] [1,6,7,8] (by kernel_rfl) (by kernel_rfl) rfl rfl rfl [_,_,_] _ _ _ _ [_,_,_,_,_] [_,_,_,_] [_,_,_,_] rfl rfl rfl rfl rfl rfl rfl rfl (λc a d v w h=>by cases d<;>exact h) ?_;refine Vr (λL HL=>?_)
    repeat refine Vs rfl (kE (by intro w' _;go_simp<;>rfl) (by go_simp<;>rfl) ?_)
    refine HL _ ⟨?gc,?gd⟩
    all_goals
     clear HL;generalize W2.drew=W5 at*;simp only[List.getElem_toArray,List.getElem_cons_succ,List.getElem_cons_zero]
    case gc=>
     go_wp2_with (first|(go_at_call 91;refine(F2.out).mono ?_;rintro e w5 ⟨vao,vcap,rfl,A0⟩;have q1:=A0.c1;have q1a:∀o,(w5.alloc o).cell? (Aq P0 1)=some (.slice nao k ncap):=λo=>(A0.alloc o).c1;have B0:Hid _:=A0;clear A0)|(at_builtin;refine Zj _ rfl (.tmp 47) (.tmp 51) 67 rfl (P0+1) 176 i1 (.agg #[Iq 0,Iq 0,Iq 0,Iq 0,Iq 0,Zq]) 6 64 underlying67 b2 d2 f2 g2 rfl (by decide) _ _ _ rfl (B0.alloc _).hl.hn (Aq _ 0) 1 1 (Yh nd (.slice vao nd.aU.length vcap)) rfl rfl (by decide) (ytz (Yh nd (.slice vao nd.aU.length vcap))) ?n2 ?n3 ?n4 ?n5 ?_))
     case n2=>intro u hu;simp[Yh]at hu;rcases hu with rfl|rfl|rfl|rfl|rfl|rfl<;>rfl
     case n3=>unfold maxLen;omega
     case n4=>omega
     case n5=>have:=B0.hP;first|omega|(simp;omega)
     intro nv' w6 g0 b1 u0;have C0:=(B0.alloc _).second g0 b1 (by simp only[World.size_alloc];exact u0);obtain⟨nao',ncap',rfl⟩:=Uo g0;have x1:=C0.c1;have xf:=C0.f1;have U1:=Zz C0;clear C0 g0 b1 u0 q1 q1a B0;go_wp2
     go_roundw
     case rel=>exact⟨k+1,af,_,_,_,_,_,by go_num,a0.step x0 HO Z0 (U1.ni _)⟩
     case measure=>simp[intOf];omega
    case gd=>
     go_wp2_with (go_at_call 91;refine(F2.out).mono ?_;rintro e w5 ⟨vao,vcap,rfl,A0⟩;have q1:=A0.c1;have q1a:∀o,(w5.alloc o).cell? (Aq P0 1)=some (.slice nao k ncap):=λo=>(A0.alloc o).c1;have B0:Hid _:=A0;clear A0)
     refine⟨?_,?_⟩
     all_goals
      go_wp2_with (at_builtin;refine Zj _ rfl (.tmp 47) (.tmp 51) 67 rfl (P0+1) 176 i1 (.agg #[Iq 0,Iq 0,Iq 0,Iq 0,Iq 0,Zq]) 6 64 underlying67 b2 d2 f2 g2 rfl (by decide) _ _ _ rfl (B0.alloc _).hl.hn (Aq _ 0) 1 1 (Yh nd (.slice vao nd.aU.length vcap)) rfl rfl (by decide) (ytz (Yh nd (.slice vao nd.aU.length vcap))) ?n2 ?n3 ?n4 ?n5 ?_)
      case n2=>intro u hu;simp[Yh]at hu;rcases hu with rfl|rfl|rfl|rfl|rfl|rfl<;>rfl
      case n3=>unfold maxLen;omega
      case n4=>omega
      case n5=>have:=B0.hP;first|omega|(simp;omega)
      intro nv' w6 g0 b1 u0;have C0:=(B0.alloc _).second g0 b1 (by simp only[World.size_alloc];exact u0);obtain⟨nao',ncap',rfl⟩:=Uo g0;have x1:=C0.c1;have xf:=C0.f1;have U1:=Zz C0;clear C0 g0 b1 u0 q1 q1a B0;go_wp2
      go_roundw
      case rel=>exact⟨k+1,af,_,_,_,_,_,by go_num,a0.step x0 HO Z0 (U1.ni _)⟩
      case measure=>simp[intOf];omega
   have h1:=Y0.trans (a0.bE x0);have j1:=Zz h1;have e0:wr.cell? (Aq b 0)=some (.slice ao s.length cap):=(a0.fr.o 0 (by decide) (by decide)).trans HD.c0;have e1:=a0.a1;clear h1
   by_cases G2:q<s.length
   ·have bq:((q:Int)==(s.length:Int))=false:=beq_eq_false_iff_ne.2 (by omega)
    have E0:Hid (Fl.decode s=(([],[]),false,(q:Int))):=j1.trans (if_pos G2)
    go_wp2_with fail
    go_still_tail 15,(by kernel_rfl)
    go_wp2_with (go_at_call 87;refine(Vv _ _ _).mono ?_;rintro e w6 ⟨rfl,R2⟩;exact⟨rfl,Vy E0 (a0.pc.drew.below R2).fr.g⟩)
   have S2:q=s.length:=(by omega);have bq:((q:Int)==(s.length:Int))=true:=beq_iff_eq.2 (by omega);have k1:Hid (Fl.decode s=if 0<=Fl.bh acc then(([],[]),false,st.getD (Fl.bh acc).toNat 0) else((ls,acc),true,0)):=j1.trans (if_neg G2);clear S2
   go_wp2_with fail
   go_still_tail 15,(by kernel_rfl)
   change wpList _ _ _ _ _ wr.drew
   have G1:Hid (PC w b P0 (.slice lao ls.length lcap) wr.drew q sv nv (((.slice lao ls.length lcap),ls)::Vu acc lvs) sv nv k k (st.map (Value.int .i64)) (flat acc lvs)):=a0.pc.drew
   have l1:Hid (Cq 92 #[Pq b,nv] wr.drew (ys0 acc st wr.drew)):=
    yvx acc st nv sv b wr.drew a0.nodes a0.nV (by rw[a0.cG,a0.eL]) (by rw[a0.eL];omega) a0.aQ G1.jF
   have g1:wr.drew.cell? (Aq P0 1)=some nv:=G1.c1;obtain⟨nao,ncap,rfl⟩:=Uo a0.hl.hn
   have V1:Hid (∀w7,Below wr.drew.heap.size wr.drew w7->Zv w7.heap.size w7 (.slice lao ls.length lcap) ls/\Yv w7.heap.size w7 (.slice nao k ncap) acc):=λw7 h7=>
    ⟨(a0.am.below (w':=w7) ⟨h7.os,h7.tape,h7.output,h7.size,h7.block⟩).mono h7.size,(a0.nodes.below (w':=w7) ⟨h7.os,h7.tape,h7.output,h7.size,h7.block⟩).mono h7.size⟩
   generalize wr.drew=W1 at*
   by_cases m1:0<=Fl.bh acc
   ·have E0:Hid (Fl.decode s=(([],[]),false,st.getD (Fl.bh acc).toNat 0)):=k1.trans (if_pos m1)
    go_wp2_with (first|(go_at_call 87;refine(Jr _ _ _).mono ?_;rintro e w6 ⟨rfl,u0⟩;rw[u0];clear u0)|(go_at_call 92;refine(l1.out).mono ?_;rintro e w7 ⟨n1,b0,_⟩;obtain rfl:=b0 m1;exact⟨rfl,Vy E0 (G1.below n1).fr.g⟩))
   have E0:Hid (Fl.decode s=((ls,acc),true,0)):=k1.trans (if_neg m1);have T2:=Zz m1;clear m1
   go_wp2_with (first|(go_at_call 87;refine(Jr _ _ _).mono ?_;rintro e w6 ⟨rfl,u0⟩;rw[u0];clear u0)|(go_at_call 92;refine(l1.out).mono ?_;rintro e w7 ⟨n1,_,aQ⟩;obtain rfl:=aQ (by have:=T2.out;omega);have G0:=G1.below n1;obtain⟨hl7,hn7⟩:=V1 w7 n1;have r0:=G0.d0;have r1:=G0.d1;have rf:=G0.f0;have s0:=G0.c0;have s1:=G0.c1;have X1:Hid _:=G0;have e3:Hid _:=hl7;have f3:Hid _:=hn7;clear G0 hl7 hn7 n1 aQ))
   have i3:=X1.hR;have q0:((w7.setCell (Aq w.heap.size 0) (.slice lao ls.length lcap)).setCell (Aq w.heap.size 1) (.slice nao k ncap)).cell? (Aq w.heap.size 0)=some (.slice lao ls.length lcap):=(Yf (by decide)).trans (Ud r0);have q1:((w7.setCell (Aq w.heap.size 0) (.slice lao ls.length lcap)).setCell (Aq w.heap.size 1) (.slice nao k ncap)).cell? (Aq w.heap.size 1)=some (.slice nao k ncap):=Ud ((Yf (by decide)).trans r1);have q0':(w7.setCell (Aq w.heap.size 0) (.slice lao ls.length lcap)).cell? (Aq w.heap.size 0)=some (.slice lao ls.length lcap):=Ud r0;have U2:=(X1.hl.stay (Xa.grown (Xo w7 w.heap.size 0 (.slice lao ls.length lcap)) (λk e=>by injection e with e;omega))).stay (Xa.grown (Xo _ w.heap.size 1 (.slice nao k ncap)) (λk e=>by injection e with e;omega));have eL:=a0.eL;have fN:=a0.fN;refine bodyPost_ret (v:=.agg #[.slice lao ls.length lcap,.slice nao k ncap]) (by simp[results,results48,go_sem,q0,q1,q0']) rfl ⟨((X1.fr.dT (Xo w7 w.heap.size 0 (.slice lao ls.length lcap)) hlb (λk e=>by injection e with e;omega)).dT (Xo _ w.heap.size 1 (.slice nao k ncap)) hlb (λk e=>by injection e with e;omega)).g,λh=>(by rw[E0.out]at h;cases h),λ_=>?_⟩;rw[E0.out];refine⟨_,_,rfl,λw9 cG=>?_⟩;have Y1:=U2.stay (cG.mono (by omega));exact⟨(Y1.aK (.slice lao ls.length lcap,ls) (by simp)).1.1,zy3 (by rw[eL];exact Y1.hn) (by rw[eL,fN]) (λi hi=>(Y1.aK _ (by simp only[List.mem_cons];right;exact zy4 acc lvs i (by rw[eL,fN]) hi)).1.1)⟩
def Xa.setCell(base:Nat)(w:World)(b i:Nat)(v:Value)(hb:b<base):Xa base w (w.setCell (Aq b i) v):=Xa.grown (Xo w b i v) (λk e=>by injection e with e;omega)
def yl2(r:(List Int×List Fl.ar)×Bool×Int)(b D P:Nat)(w:World)(e:Ending)(w':World):Prop:=
 (r.2.1=false->e=.panicked (Ze 8 r.2.2)/\w.grownBy w' (some b))/\
 (r.2.1=true->∃lv nv w1,e=.returned (.tuple #[])/\w.grownBy w1 (some b)/\w'=(w1.setCell (Aq P 0) lv).setCell (Aq P 1) nv/\(∃a n c a' n' c',lv=.slice a n c/\nv=.slice a' n' c')/\∀w'',Xa w.heap.size w1 w''->Zv w''.heap.size w'' lv r.1.1/\Yv w''.heap.size w'' nv r.1.2)
def yl3{D P:Nat}(h:Dr w b ao cap s 0)(hr:Yb w b 2)(d0:w.cell? (Aq b 34)=some Zq)(e0:∀j,w.frozen? (Aq b j)=false)
  (hd:w.cell? (Aq D 0)=some (Pq b)) (f0:w.cell? (Aq P 0)=some Zq) (g0:w.cell? (Aq P 1)=some Zq) (h0:∀j,w.frozen? (Aq P j)=false) (b0:P≠b):
  Cq 47 #[Pq D,Pq P] w (yl2 (Fl.decode s) b D P w):=by
 have HW:Hid (Cq 48 #[Pq b] w λe w'=>zmz (Fl.decode s) b w e w'):=yp2 h hr d0 e0;clear h hr d0 e0;have c0:P<w.heap.size:=Qe w _ f0
 go_enter func47,ntmps47
 go_wp2_with fail
 refine(HW.out).mono ?_;rintro e w1 ⟨hg,a0,aQ⟩
 cases hr:(Fl.decode s).2.1 with
 |false=>
  obtain rfl:=a0 hr;exact⟨rfl,λ_=>⟨rfl,hg⟩,λh=>by rw[hr]at h;cases h⟩
 |true=>
  obtain⟨lv,nv,rfl,cG⟩:=aQ hr;obtain⟨hl,hn⟩:=cG w1 ⟨Nat.le_refl _,λ_ _ _=>rfl⟩;obtain⟨la,lc,rfl,_⟩:=id hl;obtain⟨na,nc,rfl,_⟩:=id hn;have q0:Cl w1 P 0 Zq:=hg.cell f0 (by simpa using b0);have q1:Cl w1 P 1 Zq:=hg.cell g0 (by simpa using b0);have qf:∀j,w1.frozen? (Aq P j)=false:=λj=>(Qd (w:=w) (a:=(Aq P j)) (hg.block P c0 (by simpa using b0))).trans (h0 j);have HG:=Zz hg;have i0:=Zz cG;have j0:=Zz hr;clear a0 aQ hl hn cG hg hr;go_wp2
  go_end0
  exact⟨λh=>(by rw[j0.out]at h;cases h),λ_=>⟨_,_,w1,rfl,HG,rfl,⟨_,_,_,_,_,_,rfl,rfl⟩,i0⟩⟩
def zs9(bs:Value):Array Value:=#[bs,Iq 0]++Za++ #[Zq]
def yp3(w:World)(o0 o1 o2 o3 o4 o5:Obj):((((((w.alloc o0).alloc o1).alloc o2).alloc o3).alloc o4).alloc o5).heap[w.heap.size]?=some o0/\
  ((((((w.alloc o0).alloc o1).alloc o2).alloc o3).alloc o4).alloc o5).heap[w.heap.size+2]?=some o2/\
  ((((((w.alloc o0).alloc o1).alloc o2).alloc o3).alloc o4).alloc o5).heap[w.heap.size+3]?=some o3/\
  ((((((w.alloc o0).alloc o1).alloc o2).alloc o3).alloc o4).alloc o5).heap[w.heap.size+4]?=some o4/\
  ((((((w.alloc o0).alloc o1).alloc o2).alloc o3).alloc o4).alloc o5).heap[w.heap.size+5]?=some o5/\
  ((((((w.alloc o0).alloc o1).alloc o2).alloc o3).alloc o4).alloc o5).heap.size=w.heap.size+6/\
  Bq w ((((((w.alloc o0).alloc o1).alloc o2).alloc o3).alloc o4).alloc o5):=by
 have a:∀(u:World) (o:Obj) (k:Nat),k<u.heap.size->(u.alloc o).heap[k]?=u.heap[k]?:=λu o k hk=>Below.heap_alloc _ _ _ hk
 have l:∀(u:World) (o:Obj) (k:Nat),u.heap.size=k->(u.alloc o).heap[k]?=some o:=λu o k hk=>by subst hk;exact heap_alloc_last u o
 refine⟨?_,?_,?_,?_,?_,by simp,((((((Below.refl _ w).alloc (Nat.le_refl _) _).alloc (by simp<;>omega) _).alloc (by simp<;>omega) _).alloc (by simp<;>omega) _).alloc (by simp<;>omega) _).alloc (by simp<;>omega) _⟩
 ·rw[a _ _ _ (by simp<;>omega),a _ _ _ (by simp<;>omega),a _ _ _ (by simp<;>omega),a _ _ _ (by simp<;>omega),a _ _ _ (by simp<;>omega),l _ _ _ rfl]
 ·rw[a _ _ _ (by simp<;>omega),a _ _ _ (by simp<;>omega),a _ _ _ (by simp<;>omega),l _ _ _ (by simp<;>omega)]
 ·rw[a _ _ _ (by simp<;>omega),a _ _ _ (by simp<;>omega),l _ _ _ (by simp<;>omega)]
 ·rw[a _ _ _ (by simp<;>omega),l _ _ _ (by simp<;>omega)]
 rw[l _ _ _ (by simp<;>omega)]
def Jf(w:World)(b j:Nat)(c:Array Value)(te:TypeId)(h:w.heap[b]?=some (.cells c te)):w.frozen? (Aq b j)=false:=by simp[World.frozen?,h]
def dec_at0(bs:Value):(zs9 bs)[0]?=some bs:=by kernel_rfl
def dec_at1(bs:Value):(zs9 bs)[1]?=some (Iq 0):=by kernel_rfl
def yiy(bs:Value):(zs9 bs)[34]?=some Zq:=by kernel_rfl
def yl4{bs:Value}(q:∀i,w.cell? (Aq b i)=(zs9 bs)[i]?):Yb w b 2:=by
 intro k hk
 have:k=0\/k=1\/k=2\/k=3\/k=4\/k=5\/k=6\/k=7:=by omega
 rcases this with rfl|rfl|rfl|rfl|rfl|rfl|rfl|rfl<;>exact⟨(q _).trans (by kernel_rfl),(q _).trans (by kernel_rfl),(q _).trans (by kernel_rfl)⟩
def W5(w:World)(bs:Value):World:=((((w.alloc (.cells #[Zq,Zq] 69)).alloc (.cells Za 129)).alloc (.cells (zs9 bs) 132)).alloc (.cells #[.pointer (some (Aq (w.heap.size+2) 0))] 125)).alloc (.cells #[Zq,Zq] 69)
structure zc5(r:(List Int×List Fl.ar)×Bool×Int)(w:World)(e:Ending)(w':World):Prop where
 hB:Bq w w'
 cF:w.heap.size+6<=w'.heap.size
 c0:w'.cell? (Aq w.heap.size 0)=some Zq
 c1:w'.cell? (Aq w.heap.size 1)=some Zq
 fz:∀j,w'.frozen? (Aq w.heap.size j)=false
 eh:r.2.1=false->∃q,e=.returned (.iface 73 (Pq q))/\w.heap.size+6<=q/\w'.cell? (Aq q 0)=some (Iq 8)/\w'.cell? (Aq q 1)=some (Iq r.2.2)
 fS:r.2.1=true->∃la n lc na n' nc,e=.returned .nilIface/\w'.cell? (Aq (w.heap.size+4) 0)=some (.slice la n lc)/\w'.cell? (Aq (w.heap.size+4) 1)=some (.slice na n' nc)/\∀w'',Xa (w.heap.size+6) w' w''->Zv w''.heap.size w'' (.slice la n lc) r.1.1/\Yv w''.heap.size w'' (.slice na n' nc) r.1.2
def yxz(hs:s.length<=1099511627776)(hb:s≠[]->∃bb bo,ao=some (Aq bb bo)/\bb<w.heap.size/\∀i,i<s.length->w.cell? (Aq bb (bo+i))=some (.int .u8 (s.getD i 0).toNat)):
  Cq 30 #[.func (.func 47) #[] #[.pointer (some (Aq (w.heap.size+3) 0)),.pointer (some (Aq (w.heap.size+4) 0))]] (W5 w (.slice ao s.length cap)) (zc5 (Fl.decode s) w):=by
 obtain⟨r0,r2,r3,r4,r5,cF,hB⟩:let W:=(W5 w (.slice ao s.length cap)).alloc (.cells #[.nilIface] 47);_:=yp3 w (.cells #[Zq,Zq] 69) (.cells Za 129) (.cells (zs9 (.slice ao s.length cap)) 132) (.cells #[.pointer (some (Aq (w.heap.size+2) 0))] 125) (.cells #[Zq,Zq] 69) (.cells #[.nilIface] 47)
 have h5:(W5 w (.slice ao s.length cap)).heap.size=w.heap.size+5:=by simp[W5]
 change ((W5 w (.slice ao s.length cap)).alloc (.cells #[.nilIface] 47)).heap[w.heap.size]?=_ at r0
 change ((W5 w (.slice ao s.length cap)).alloc (.cells #[.nilIface] 47)).heap[w.heap.size+2]?=_ at r2
 change ((W5 w (.slice ao s.length cap)).alloc (.cells #[.nilIface] 47)).heap[w.heap.size+3]?=_ at r3
 change ((W5 w (.slice ao s.length cap)).alloc (.cells #[.nilIface] 47)).heap[w.heap.size+4]?=_ at r4
 change ((W5 w (.slice ao s.length cap)).alloc (.cells #[.nilIface] 47)).heap[w.heap.size+5]?=_ at r5
 change ((W5 w (.slice ao s.length cap)).alloc (.cells #[.nilIface] 47)).heap.size=_ at cF
 change Bq w ((W5 w (.slice ao s.length cap)).alloc (.cells #[.nilIface] 47)) at hB
 have c0:=zc2 47 #[.pointer (some (Aq (w.heap.size+3) 0)),.pointer (some (Aq (w.heap.size+4) 0))] (W5 w (.slice ao s.length cap));generalize hW6:(W5 w (.slice ao s.length cap)).alloc (.cells #[.nilIface] 47)=W6 at*;rw[h5]at c0;have cc:∀(b i:Nat) (c:Array Value) (te:TypeId),W6.heap[b]?=some (.cells c te)->W6.cell? (Aq b i)=c[i]?:=λb i c te h=>cell_of_row W6 b i c te (0,0) h;have g0:Dr W6 (w.heap.size+2) ao cap s 0:=by
  refine⟨(cc _ _ _ _ r2).trans (dec_at0 _),(cc _ _ _ _ r2).trans (dec_at1 _),Jf _ _ _ _ _ r2,λa0=>?_,Nat.zero_le _,hs⟩;obtain⟨bb,bo,ha,b0,hc⟩:=hb a0;exact⟨bb,bo,ha,by omega,λi hi=>(hB.cell (p:=(Aq bb (bo+i))) b0).trans (hc i hi)⟩
 have h0:Yb W6 (w.heap.size+2) 2:=yl4 (λi=>cc _ i _ _ r2);have i0:=yl3 (D:=w.heap.size+3) (P:=w.heap.size+4) g0 h0 ((cc _ _ _ _ r2).trans (yiy _)) (λj=>Jf _ _ _ _ _ r2) ((cc _ _ _ _ r3).trans rfl) ((cc _ _ _ _ r4).trans rfl) ((cc _ _ _ _ r4).trans rfl) (λj=>Jf _ _ _ _ _ r4) (by omega);have far:∀{w1:World},W6.grownBy w1 (some (w.heap.size+2))->(∀k,k<w.heap.size+6->k≠w.heap.size+2->w1.heap[k]?=W6.heap[k]?)/\w.heap.size+6<=w1.heap.size:=λg=>⟨λk hk a0=>g.block k (by omega) (by simpa using a0),by have:=g.size;omega⟩;have kD:∀(u:World) (i:Nat) (v:Value) (k:Nat),k≠w.heap.size+4->(u.setCell (Aq (w.heap.size+4) i) v).heap[k]?=u.heap[k]?:=λu i v k hk=>Below.heap_setCell _ _ _ _ (by intro h;exact hk (by simpa using h));refine(c0 (λw'=>(Fl.decode s).2.1=true/\yl2 (Fl.decode s) (w.heap.size+2) (w.heap.size+3) (w.heap.size+4) W6 (.returned (.tuple #[])) w') (λn pl w'=>(Fl.decode s).2.1=false/\n=8/\pl=(Fl.decode s).2.2/\W6.grownBy w' (some (w.heap.size+2))) (λW=>by kernel_rfl) (i0.mono ?_)).mono ?_
 ·rintro e w' hd
  cases hr:(Fl.decode s).2.1 with
  |false=>
   obtain⟨rfl,hg⟩:=hd.1 hr;have h5':=(far hg).1 (w.heap.size+5) (by omega) (by omega);exact⟨(Qc (w:=W6) (a:=(Aq (w.heap.size+5) 0)) h5').trans ((cc _ _ _ _ r5).trans rfl),(Qd (w:=W6) (a:=(Aq (w.heap.size+5) 0)) h5').trans (Jf _ _ _ _ _ r5),.inr ⟨_,_,rfl,rfl,rfl,rfl,hg⟩⟩
  |true=>
   obtain⟨lv,nv,w1,rfl,hg,rfl,j0,cG⟩:=hd.2 hr;have h5':((w1.setCell (Aq (w.heap.size+4) 0) lv).setCell (Aq (w.heap.size+4) 1) nv).heap[w.heap.size+5]?=W6.heap[w.heap.size+5]?:=by
    rw[kD _ _ _ _ (by omega),kD _ _ _ _ (by omega)];exact(far hg).1 (w.heap.size+5) (by omega) (by omega)
   exact⟨(Qc (w:=W6) (a:=(Aq (w.heap.size+5) 0)) h5').trans ((cc _ _ _ _ r5).trans rfl),(Qd (w:=W6) (a:=(Aq (w.heap.size+5) 0)) h5').trans (Jf _ _ _ _ _ r5),.inl ⟨rfl,rfl,hd⟩⟩
 have belowG:∀{w1:World},W6.grownBy w1 (some (w.heap.size+2))->Bq w w1:=λg=>⟨g.os.trans hB.os,g.tape.trans hB.tape,g.output.trans hB.output,Nat.le_trans hB.size g.size,λk hk=>(g.block k (by omega) (by simp;omega)).trans (hB.block k hk)⟩;rintro e wz (⟨w2,rfl,⟨hr,hd⟩,rfl⟩|⟨n,pl,w1,o,rfl,⟨hr,rfl,rfl,hg⟩,rfl⟩)
 ·obtain⟨lv,nv,w1,-,hg,rfl,⟨la,n,lc,na,n',nc,rfl,rfl⟩,cG⟩:=hd.2 hr
  have nW:∀(u:World) (v:Value) (k:Nat),k≠w.heap.size+5->(u.setCell (Aq (w.heap.size+5) 0) v).heap[k]?=u.heap[k]?:=λu v k hk=>Below.heap_setCell _ _ _ _ (by intro h;exact hk (by simpa using h))
  have aK:∀k,k≠w.heap.size+4->k≠w.heap.size+5->(((w1.setCell (Aq (w.heap.size+4) 0) (.slice la n lc)).setCell (Aq (w.heap.size+4) 1) (.slice na n' nc)).setCell (Aq (w.heap.size+5) 0) .nilIface).heap[k]?=w1.heap[k]?:=λk h4 h5=>by
   rw[nW _ _ _ h5,kD _ _ _ _ h4,kD _ _ _ _ h4]
  have hn:(((w1.setCell (Aq (w.heap.size+4) 0) (.slice la n lc)).setCell (Aq (w.heap.size+4) 1) (.slice na n' nc)).setCell (Aq (w.heap.size+5) 0) .nilIface).heap[w.heap.size]?=W6.heap[w.heap.size]?:=(aK _ (by omega) (by omega)).trans ((far hg).1 _ (by omega) (by omega));have e0:=(far hg).1 (w.heap.size+4) (by omega) (by omega);have p0:Cl w1 (w.heap.size+4) 0 Zq:=(Qc (w:=W6) (a:=(Aq (w.heap.size+4) 0)) e0).trans ((cc _ _ _ _ r4).trans rfl);have p1:Cl w1 (w.heap.size+4) 1 Zq:=(Qc (w:=W6) (a:=(Aq (w.heap.size+4) 1)) e0).trans ((cc _ _ _ _ r4).trans rfl);refine⟨(((belowG hg).setCell (show w.heap.size<=((Aq (w.heap.size+4) 0):Addr).block by simp) _).setCell (show w.heap.size<=((Aq (w.heap.size+4) 1):Addr).block by simp) _).setCell (show w.heap.size<=((Aq (w.heap.size+5) 0):Addr).block by simp) _,?_,?_,?_,?_,?_,?_⟩
  ·have:=(far hg).2;simpa using this
  ·exact(Qc (w:=W6) (a:=(Aq w.heap.size 0)) hn).trans ((cc _ _ _ _ r0).trans rfl)
  ·exact(Qc (w:=W6) (a:=(Aq w.heap.size 1)) hn).trans ((cc _ _ _ _ r0).trans rfl)
  ·exact λj=>(Qd (w:=W6) (a:=(Aq w.heap.size j)) hn).trans (Jf _ _ _ _ _ r0)
  ·intro h;rw[hr]at h;cases h
  intro _;have d0:(((w1.setCell (Aq (w.heap.size+4) 0) (.slice la n lc)).setCell (Aq (w.heap.size+4) 1) (.slice na n' nc)).setCell (Aq (w.heap.size+5) 0) .nilIface).cell? (Aq (w.heap.size+4) 0)=some (.slice la n lc):=by
   refine(Qg _ _ _ _ (by simp)).trans ((Qg _ _ _ _ (by simp)).trans ?_);exact World.cell?_setCell_same' _ _ _ (by simp[p0])
  have d1:(((w1.setCell (Aq (w.heap.size+4) 0) (.slice la n lc)).setCell (Aq (w.heap.size+4) 1) (.slice na n' nc)).setCell (Aq (w.heap.size+5) 0) .nilIface).cell? (Aq (w.heap.size+4) 1)=some (.slice na n' nc):=by
   refine(Qg _ _ _ _ (by simp)).trans (World.cell?_setCell_same' _ _ _ ?_);refine(congrArg Option.isSome (Qg _ _ _ _ (by simp))).trans ?_;simp[p1]
  refine⟨la,n,lc,na,n',nc,rfl,d0,d1,λw'' hs''=>cG w'' ⟨?_,λk hk b0=>?_⟩⟩
  ·have:=hs''.size;simpa using this
  rw[cF]at hk;exact(hs''.block k (by omega) (by simpa using b0)).trans (aK k (by omega) (by omega))
 have k0:=(far hg).2
 have aK:∀v k,k<w.heap.size+5->(((w1.alloc o).alloc (.cells #[Iq 8,Iq (Fl.decode s).2.2] 77)).setCell (Aq (w.heap.size+5) 0) v).heap[k]?=w1.heap[k]?:=λv k hk=>by
  rw[Below.heap_setCell _ _ _ _ (by simp;omega),Below.heap_alloc _ _ _ (by simp;omega),Below.heap_alloc _ _ _ (by omega)]
 have hn:=λv=>(aK v w.heap.size (by omega)).trans ((far hg).1 w.heap.size (by omega) (by omega))
 have hq:∀v,(((w1.alloc o).alloc (.cells #[Iq 8,Iq (Fl.decode s).2.2] 77)).setCell (Aq (w.heap.size+5) 0) v).heap[w1.heap.size+1]?=some (.cells #[Iq 8,Iq (Fl.decode s).2.2] 77):=λv=>by
  rw[Below.heap_setCell _ _ _ _ (by simp;omega)];have:=heap_alloc_last (w1.alloc o) (.cells #[Iq 8,Iq (Fl.decode s).2.2] 77);simpa using this
 have f0:=λv i=>cell_of_row _ (w1.heap.size+1) i _ _ (0,0) (hq v);refine⟨(((belowG hg).alloc (by omega) _).alloc (by simp;omega) _).setCell (show w.heap.size<=((Aq (w.heap.size+5) 0):Addr).block by simp) _,by simp;omega,?_,?_,?_,?_,?_⟩
 ·exact(Qc (w:=W6) (a:=(Aq w.heap.size 0)) (hn _)).trans ((cc _ _ _ _ r0).trans rfl)
 ·exact(Qc (w:=W6) (a:=(Aq w.heap.size 1)) (hn _)).trans ((cc _ _ _ _ r0).trans rfl)
 ·exact λj=>(Qd (w:=W6) (a:=(Aq w.heap.size j)) (hn _)).trans (Jf _ _ _ _ _ r0)
 ·exact λ_=>⟨_,rfl,by omega,(f0 _ 0).trans rfl,(f0 _ 1).trans rfl⟩
 intro h;rw[hr]at h;cases h
def zlz{wz:World}{N:Nat}{u0 u1:Value}(v0 v1:Value)(c0:wz.cell? (Aq N 0)=some u0)(c1:wz.cell? (Aq N 1)=some u1):
  ((wz.setCell (Aq N 0) v0).setCell (Aq N 1) v1).cell? (Aq N 0)=some v0/\((wz.setCell (Aq N 0) v0).setCell (Aq N 1) v1).cell? (Aq N 1)=some v1/\
  (∀k,k≠N->((wz.setCell (Aq N 0) v0).setCell (Aq N 1) v1).heap[k]?=wz.heap[k]?)/\((wz.setCell (Aq N 0) v0).setCell (Aq N 1) v1).heap.size=wz.heap.size/\
  (∀B w,Below B w wz->B<=N->Below B w ((wz.setCell (Aq N 0) v0).setCell (Aq N 1) v1)):=by
 refine⟨?_,?_,λk hk=>?_,by simp,λB w h hB=>(h.setCell (show B<=((Aq N 0):Addr).block from hB) _).setCell (show B<=((Aq N 1):Addr).block from hB) _⟩
 ·exact(Qg _ _ _ _ (by simp)).trans (World.cell?_setCell_same' _ _ _ (by simp[c0]))
 ·refine World.cell?_setCell_same' _ _ _ ((congrArg Option.isSome (Qg _ _ _ _ (by simp))).trans ?_)
  simp[c1]
 exact(Below.heap_setCell _ _ _ _ (by intro h;exact hk (by simpa using h))).trans (Below.heap_setCell _ _ _ _ (by intro h;exact hk (by simpa using h)))
def yp4(r:(List Int×List Fl.ar)×Bool×Int)(w:World)(e:Ending)(w':World):Prop:=
 Bq w w'/\
 (r.2.1=false->∃q,e=.returned (.tuple #[.agg #[Zq,Zq],.iface 73 (Pq q)])/\w'.cell? (Aq q 0)=some (Iq 8)/\w'.cell? (Aq q 1)=some (Iq r.2.2))/\
 (r.2.1=true->∃la n lc na n' nc,e=.returned (.tuple #[.agg #[.slice la n lc,.slice na n' nc],.nilIface])/\∀w'',Xa w.heap.size w' w''->Zv w''.heap.size w'' (.slice la n lc) r.1.1/\Yv w''.heap.size w'' (.slice na n' nc) r.1.2)
def yu3(hs:s.length<=1099511627776)(hb:s≠[]->∃bb bo,ao=some (Aq bb bo)/\bb<w.heap.size/\∀i,i<s.length->w.cell? (Aq bb (bo+i))=some (.int .u8 (s.getD i 0).toNat)):
  Cq 24 #[.slice ao s.length cap] w (yp4 (Fl.decode s) w):=by
 have g0:∀(fn:Fn) (first cap:Array Value) (w:World),(Instr.makeFunc fn first cap).run prog w=.ok (.func fn first cap) w:=λ_ _ _ _=>rfl;have HC:Hid (Cq 30 #[.func (.func 47) #[] #[.pointer (some (Aq (w.heap.size+3) 0)),.pointer (some (Aq (w.heap.size+4) 0))]] (W5 w (.slice ao s.length cap)) (zc5 (Fl.decode s) w)):=yxz (cap:=cap) hs hb;clear hs hb
 go_enter func24,ntmps24
 go_wp2_with (first|(go_at_call 46;refine(zr6 _).mono ?_;rintro e w1 ⟨rfl,rfl⟩)|(refine Uu rfl 132 _ rfl (zs9 (.slice ao s.length cap)) (by kernel_rfl) ?_))
 refine(HC.out).mono ?_;clear HC;rintro e wz ⟨hB,cF,c0,c1,fz,a0,aQ⟩;have HB:=Zz hB;clear hB
 cases hr:(Fl.decode s).2.1 with
 |false=>
  obtain⟨q,rfl,hq,q0,q1⟩:=a0 hr;have b0:=Zz hr;clear a0 aQ hr
  go_wp2_with fail
  obtain⟨e0,e1,ek,es,eb⟩:=zlz Zq Zq c0 c1;exact bodyPost_ret (v:=.tuple #[.agg #[Zq,Zq],.iface 73 (Pq q)]) (by simp[results,results24,go_sem,e0,e1]) rfl
   ⟨eb _ _ HB (Nat.le_refl _),λ_=>⟨q,rfl,(Qc (w:=wz) (a:=(Aq q 0)) (ek q (by omega))).trans q0,(Qc (w:=wz) (a:=(Aq q 1)) (ek q (by omega))).trans q1⟩,λh=>by rw[b0.out]at h;cases h⟩
 |true=>
  obtain⟨la,n,lc,na,n',nc,rfl,d0,d1,cG⟩:=aQ hr;have b0:=Zz hr;have f0:=Zz cG;clear a0 aQ hr cG
  go_wp2_with fail
  obtain⟨e0,e1,ek,es,eb⟩:=zlz (.slice la n lc) (.slice na n' nc) c0 c1;exact bodyPost_ret (v:=.tuple #[.agg #[.slice la n lc,.slice na n' nc],.nilIface]) (by simp[results,results24,go_sem,e0,e1]) rfl
   ⟨eb _ _ HB (Nat.le_refl _),λh=>(by rw[b0.out]at h;cases h),λ_=>⟨la,n,lc,na,n',nc,rfl,λw'' hs''=>f0 w'' ⟨Nat.le_trans (Nat.le_of_eq es.symm) hs''.size,λk hk hlt=>(hs''.block k (by omega) (Qj hlt (Nat.le_of_eq es.symm))).trans (ek k (by omega))⟩⟩⟩
end Go.Proofs.YtfhpibppblbgcaaGreatDoor
