import Derived.Test.YtgmbnnpnefniiaaGreatDoorM13
import Derived.Test.YtgmbnnpnefniiaaGreatDoorM15
set_option linter.all false
set_option maxRecDepth 100000
set_option maxHeartbeats 40000000
namespace Go.Proofs.YtgmbnnpnefniiaaGreatDoor
open Go.RowKit Go.Proofs.Tryz List World Value Fl
variable{w:World}{ls:Is}{lv:Value}{ns:List ar}
def zqw(x:Int)(w:World):(convert 44 9 (Sq w.heap.size 0 1 1)).run prog (w.alloc (.cells #[.int .u8 x] 5))=.ok (.string ⟨#[UInt8.ofNat x.toNat]⟩) (w.alloc (.cells #[.int .u8 x] 5)):=by
 rw[run_convert_bytes_string _ _ _ _ _ _ _ underlying44 underlying5 underlying9];rw[run_bytesToString _ _ _ _ [x] (by simp[loadCells,loadCellsFrom,Addr.add])];rfl
def yjv(v:Nat)(t:L):(⟨#[UInt8.ofNat (v % 128)+128]⟩:ByteArray)++⟨t.toArray⟩=⟨(UInt8.ofNat (v % 128+128)::t).toArray⟩:=by
 have h:UInt8.ofNat (v % 128)+128=UInt8.ofNat (v % 128+128):=by rw[UInt8.ofNat_add];rfl
 rw[h];exact ByteArray.mk_append_mk [UInt8.ofNat (v % 128+128)] t
def yy2(v:Nat)(w:World)(hv:v<128):E 22 #[I v] w (Rw (.string ⟨#[UInt8.ofNat v]⟩) w):=by
 have a0:=zqw v w
 go_enter func22,ntmps22
 go_wp2;go_ret;exact⟨rfl,bA⟩
def yi0(v:Nat)(t:L)(w:World)(hv:¬v<128)(hm:v<2147483648)(ht:t.length<=100)
  (H:Y (∀w,E 22 #[I ((v:Int) / 128)] w (Rw (Tq t) w))):
  E 22 #[I v] w (Rw (.string ⟨(UInt8.ofNat (v % 128+128)::t).toArray⟩) w):=by
 have a0:=λw=>zqw ((v:Int) % 128+128) w
 go_enter func22,ntmps22
 go_wp2_with fail
 refine(H _).mono ?_;rintro e w1 ⟨rfl,hb⟩;have b0:=a0 w1;clear a0
 have c0:((⟨t.toArray⟩:ByteArray).size:Int)<=100:=by show ((t.toArray.size:Nat):Int)<=100;simp;omega
 go_wp2;go_ret;exact⟨zoy (yjv v t),hb.trans ((Below.refl _ _).alloc hb.size _)⟩
def yi1(f:Nat)(hf:f<=20):∀(v:Nat) (w:World),v<128 ^ (f+1)->v<2147483648->E 22 #[I v] w (Rw (.string ⟨(dd f v).toArray⟩) w):=by
 induction f with
 |zero=>intro v w hv _;exact yy2 v w (by simpa using hv)
 |succ f ih=>
  intro v w hv hm
  by_cases a0:v<128
  ·have:=yy2 v w a0
   simp only[dd,G a0];exact this
  simp only[dd,U a0];have hd:((v:Int) / 128)=((v / 128:Nat):Int):=(by omega);refine yi0 v _ w a0 hm (by have:=gB f (v / 128);omega) ?_;intro w2;rw[hd];exact ih (by omega) (v / 128) w2 (by rw[Nat.pow_succ]at hv;omega) (by omega)
def ye5(v:Nat)(w:World)(hm:v<2147483648):E 22 #[I v] w (Rw (.string ⟨(aG v).toArray⟩) w):=
 yi1 9 (by decide) v w (Qj hm (by decide)) hm
def Ul(v:Int)(w:World)(h0:0<=v)(h1:v<2147483648):E 22 #[I v] w (Rw (.string ⟨(aG v.toNat).toArray⟩) w):=by
 obtain⟨n,rfl⟩:=Int.eq_ofNat_of_zero_le h0;exact ye5 n w (by omega)
def ye6(k l a b c Wj:Int)(n:Nat)(ao:Option Addr)(cap:Nat)(w:World)(t0:0<=k)(u0:k<=7)(k0:0<=l)(l0:l<2147483648)(v0:0<=Wj)(x0:Wj<=3)
  (ha:0<=a/\a<2147483648) (hb:0<=b/\b<2147483648) (hc:0<=c/\c<2147483648)
  (H:Y (∀w,E 48 #[I k] w (Rq (I Wj) w))):
  E 23 #[.agg #[I k,I l,I a,I b,I c,A ao n cap]] w
   (Rw (.string ⟨(UInt8.ofNat k.toNat::(aG l.toNat++aR ([a,b,c].take Wj.toNat))).toArray⟩) w):=by
 obtain⟨m0,n0⟩:=ha;obtain⟨o0,p0⟩:=hb;obtain⟨q0,r0⟩:=hc;have g0:=λw=>zqw k w
 go_enter func23,ntmps23
 go_wp2_with fail
 refine(Ul l _ k0 l0).mono ?_;rintro e w1 ⟨rfl,d0⟩
 have y0:w.heap.size<w1.heap.size:=by have:=d0.size;simp at this;omega
 obtain⟨e0,f0⟩:=zj1 d0;have z0:=g0 w1;clear g0;have aL:=bH l.toNat;generalize hg:aG l.toNat=cl at*;have HG:=Z hg;clear hg
 go_wp2_with (go_at_call 48;refine(H _).mono ?_;rintro e w' ⟨rfl,rfl⟩)
 go_loopw [4,8] (λt i wr=>∃j:Nat,(j:Int)<=Wj/\i=I j/\t=.string ⟨(UInt8.ofNat k.toNat::(cl++aR ([a,b,c].take j))).toArray⟩/\Below ((w1.alloc (.cells #[.int .u8 k] 5)).alloc (.cells #[I a,I b,I c] 3)).heap.size ((w1.alloc (.cells #[.int .u8 k] 5)).alloc (.cells #[I a,I b,I c] 3)) wr) (λ_ i _=>Wj.toNat - (intOf i).toNat)
 case atStart=>exact⟨0,by omega,rfl,by rw[show (⟨#[UInt8.ofNat k.toNat]⟩:ByteArray)=⟨[UInt8.ofNat k.toNat].toArray⟩ from rfl,Uw];simp[aR],Below.refl _ _⟩
 case round=>
  obtain⟨j,hj,rfl,rfl,b0⟩:=hrel;have s0:=b0.size;simp at s0
  by_cases A0:(j:Int)<Wj
  ·rcases(show j=0\/j=1\/j=2 from by omega) with rfl|rfl|rfl
   ·have a0:M wr (w1.heap.size+1) 0 (I a):=cT b0 (by simp) (by simp)
    have hp:=dx ([a,b,c].take 0);have h0:([a,b,c].take 0).length<=3:=(by simp);generalize hq:aR ([a,b,c].take 0)=pre at*;have HP:=Z hq;clear hq;have i0:=bH a.toNat
    go_wp2_with fail
    refine(Ul a _ m0 n0).mono ?_;rintro e w2 ⟨rfl,c0⟩;have HB:Y (Below ((w1.alloc (.cells #[.int .u8 k] 5)).alloc (.cells #[I a,I b,I c] 3)).heap.size ((w1.alloc (.cells #[.int .u8 k] 5)).alloc (.cells #[I a,I b,I c] 3)) w2):=b0.trans (c0.mono (by simp;omega));generalize hq:aG a.toNat=cx at*;have HX:=Z hq;clear hq b0 c0 a0 e0 f0;go_wp2
    go_roundw
    case rel=>exact⟨1,by omega,by go_num,by rw[Uw,dT _ 0 (by simp),da,HP.out,<-HX.out];simp,HB⟩
    case measure=>simp[intOf];omega
   ·have a0:M wr (w1.heap.size+1) 1 (I b):=cT b0 (by simp) (by simp)
    have hp:=dx ([a,b,c].take 1);have h0:([a,b,c].take 1).length<=3:=(by simp);generalize hq:aR ([a,b,c].take 1)=pre at*;have HP:=Z hq;clear hq;have i0:=bH b.toNat
    go_wp2_with fail
    refine(Ul b _ o0 p0).mono ?_;rintro e w2 ⟨rfl,c0⟩;have HB:Y (Below ((w1.alloc (.cells #[.int .u8 k] 5)).alloc (.cells #[I a,I b,I c] 3)).heap.size ((w1.alloc (.cells #[.int .u8 k] 5)).alloc (.cells #[I a,I b,I c] 3)) w2):=b0.trans (c0.mono (by simp;omega));generalize hq:aG b.toNat=cx at*;have HX:=Z hq;clear hq b0 c0 a0 e0 f0;go_wp2
    go_roundw
    case rel=>exact⟨2,by omega,by go_num,by rw[Uw,dT _ 1 (by simp),da,HP.out,<-HX.out];simp,HB⟩
    case measure=>simp[intOf];omega
   have a0:M wr (w1.heap.size+1) 2 (I c):=cT b0 (by simp) (by simp);have hp:=dx ([a,b,c].take 2);have h0:([a,b,c].take 2).length<=3:=(by simp);generalize hq:aR ([a,b,c].take 2)=pre at*;have HP:=Z hq;clear hq;have i0:=bH c.toNat
   go_wp2_with fail
   refine(Ul c _ q0 r0).mono ?_;rintro e w2 ⟨rfl,c0⟩;have HB:Y (Below ((w1.alloc (.cells #[.int .u8 k] 5)).alloc (.cells #[I a,I b,I c] 3)).heap.size ((w1.alloc (.cells #[.int .u8 k] 5)).alloc (.cells #[I a,I b,I c] 3)) w2):=b0.trans (c0.mono (by simp;omega));generalize hq:aG c.toNat=cx at*;have HX:=Z hq;clear hq b0 c0 a0 e0 f0;go_wp2
   go_roundw
   case rel=>exact⟨3,by omega,by go_num,by rw[Uw,dT _ 2 (by simp),da,HP.out,<-HX.out];simp,HB⟩
   case measure=>simp[intOf];omega
  have j0:Wj.toNat=j:=(by omega);have HJ:=Z j0;clear j0;go_wp2;go_ret;exact⟨zoy (by rw[HJ.out]),((bA).trans (d0.mono (by simp))).trans ((((Below.refl _ _).alloc (by omega) _).alloc (by simp;omega) _).trans (b0.mono (by simp;omega)))⟩
def ye7(k l a b c:Int)(xs:Is)(n:Nat)(ao:Option Addr)(cap:Nat)(w:World)(C0:0<=k)(D0:k<=7)(o0:0<=l)(p0:l<2147483648)(hn:n<=16)(g0:xs.length=n)(aT:∀x∈xs,0<=x/\x<2147483648)
  (H:Y (∀w,E 48 #[I k] w (Rq (I (-1)) w)))
  (h0:xs≠[]->∃p q,ao=some (O p q)/\p<w.heap.size/\∀i,i<n->w.cell? (O p (q+i))=some (I (xs.getD i 0))):
  E 23 #[.agg #[I k,I l,I a,I b,I c,A ao n cap]] w
   (Rw (.string ⟨(UInt8.ofNat k.toNat::(aG l.toNat++(aG n++aR xs))).toArray⟩) w):=by
 have HX:=Z h0;have c0:=Z g0;have HA:=Z aT;clear h0 g0 aT;have i0:=λw=>zqw k w
 go_enter func23,ntmps23
 go_wp2_with fail
 refine(Ul l _ o0 p0).mono ?_;rintro e w1 ⟨rfl,a0⟩
 have E0:w.heap.size<w1.heap.size:=by have:=a0.size;simp at this;omega
 obtain⟨j0,q0⟩:=zj1 a0;have r0:=i0 w1;clear i0;have aL:=bH l.toNat;generalize hg:aG l.toNat=cl at*;have HG:=Z hg;clear hg
 have s0:(0:Int)<=(n:Int):=by omega
 have t0:(n:Int)<2147483648:=by omega
 have k0:=bH n;generalize hg:aG n=cn at*;have u0:=Z hg;clear hg
 go_wp2_with (first|(go_at_call 48;refine(H _).mono ?_;rintro e w' ⟨rfl,rfl⟩)|fail)
 refine(Ul n _ s0 t0).mono ?_;rintro e w2 ⟨rfl,b0⟩;rw[show ((n:Int)).toNat=n from by omega,u0.out]
 have F0:w1.heap.size+1<w2.heap.size:=by have:=b0.size;simp at this;omega
 have f0:w2.cell? (O w.heap.size 5)=some (A ao n cap):=by
  rw[b0.cell (p:=(O w.heap.size 5)) (by simp;omega),Qf _ _ _ (by simp;omega),Qf _ _ _ (by simp;omega),j0 _ _ (by simp)];simp
 have v0:Y (D w w2):=((bA).trans (a0.mono (by simp))).trans ((((Below.refl _ _).alloc (by omega) _).alloc (by simp;omega) _).trans (b0.mono (by simp;omega)));clear a0 b0 j0 q0 r0;go_wp2
 go_loopw [4,8] (λt i wr=>∃j:Nat,j<=n/\i=I j/\t=.string ⟨(UInt8.ofNat k.toNat::(cl++(cn++aR (xs.take j)))).toArray⟩/\D w wr) (λ_ i _=>n - (intOf i).toNat)
 case atStart=>exact⟨0,by omega,rfl,by rw[show (⟨#[UInt8.ofNat k.toNat]⟩:ByteArray)=⟨[UInt8.ofNat k.toNat].toArray⟩ from rfl,Uw,Uw];simp[aR],v0⟩
 case round=>
  obtain⟨j,hj,rfl,rfl,d0⟩:=hrel;have G0:=d0.size
  by_cases x0:j<n
  ·obtain⟨p,q,rfl,hp,hc⟩:=HX (by intro h;have:=c0.out;rw[h]at this;simp at this;omega)
   have l0:M wr p (q+j) (I (xs.getD j 0)):=cT d0 hp (hc j x0);have m0:=HA _ (mo (xs:=xs) (j:=j) (by have:=c0.out;omega));obtain⟨x,hx⟩:=J (xs.getD j 0);rw[<-hx]at l0 m0;have y0:=Z hx;obtain⟨z0,A0⟩:=m0;have H0:=dx (xs.take j);have B0:(xs.take j).length<=16:=(by have:=c0.out;simp;omega);generalize hq:aR (xs.take j)=pre at*;have HP:=Z hq;have I0:=bH x.toNat;clear hq hx hc HX f0;have J0:(j:Int)<(n:Int):=(by omega)
   go_wp2_with fail
   refine(Ul x _ z0 A0).mono ?_;rintro e w3 ⟨rfl,n0⟩;have HB:Y (D w w3):=d0.trans (n0.mono (by omega));generalize hq:aG x.toNat=cx at*;have HC:=Z hq;clear hq d0 n0 l0;go_wp2
   go_roundw
   case rel=>exact⟨j+1,by omega,by go_num,by rw[Uw,dT _ j (by have:=c0.out;omega),da,HP.out,<-y0.out,HC.out];simp,HB⟩
   case measure=>simp[intOf];omega
  have e0:xs.take j=xs:=take_of_length_le (by have:=c0.out;omega);have HJ:=Z e0;clear e0;go_wp2;go_ret;exact⟨zoy (by rw[HJ.out]),d0⟩
def yay(x:ar)(lv:Value)(B:Nat)(w:World)(hB:B<=w.heap.size)(hx:Zw B w lv x.ae)(hs:bT x=true):
  E 23 #[Vt x lv] w (Rw (.string ⟨(aC x).toArray⟩) w):=by
 obtain⟨k,l,a,b,c,xs⟩:=x;unfold Vt;simp only at hx⊢;simp only[bT,Qk,Qn]at hs;obtain⟨s1,s2,s3,s4,s5,s6,s7,s8⟩:=hs;have hk:=ot s1;have hl:=zj2.1 s2;obtain⟨ao,cap,rfl,_,hm,hc⟩:=hx
 by_cases hF:aP k<0
 ·have b0:=ynx hF s1
  have H:Y (∀w,E 48 #[I k] w (Rq (I (-1)) w)):=λw=>by have:=zs9 k w;rwa [b0]at this
  have he:aC ⟨k,l,a,b,c,xs⟩=UInt8.ofNat k.toNat::(aG l.toNat++(aG xs.length++aR xs)):=by
   simp only[aC,dL,G hF]
  rw[he];refine ye7 k l a b c xs xs.length ao cap w hk.1 hk.2 hl.1 hl.2 s3 rfl (λx hx=>zj2.1 (all_eq_true.1 s7 x hx)) H ?_;intro c0;obtain⟨p,q,ha,hp,a0⟩:=hc c0;exact⟨p,q,ha,by omega,a0⟩
 have H:Y (∀w,E 48 #[I k] w (Rq (I (aP k)) w)):=λw=>zs9 k w;have he:aC ⟨k,l,a,b,c,xs⟩=UInt8.ofNat k.toNat::(aG l.toNat++aR ([a,b,c].take (aP k).toNat)):=by
  simp only[aC,dL,U hF,nil_append]
 rw[he];exact ye6 k l a b c _ _ ao cap w hk.1 hk.2 hl.1 hl.2 (by omega) (eY k).2 (zl1 s4) (zl1 s5) (zl1 s6) H
def ye8(n m:Nat)(la na:Option Addr)(lcap ncap:Nat)(w:World)(hn:n<=9223372036854775807)(hm:m<=9223372036854775807)(h:4<n\/m=0\/200<m):
  E 9 #[.agg #[A la n lcap,A na m ncap]] w (Rw (.tuple #[.string ⟨#[]⟩,.bool false,I (-1)]) w):=by
 by_cases h1:4<n
 ·clear h
  go_enter func9,ntmps9
  go_wp2
  go_ret3
  exact⟨rfl,bA⟩
 by_cases h2:m=0
 ·have b2:((m:Int)==0)=true:=beq_iff_eq.2 (by omega)
  clear h h2
  go_enter func9,ntmps9
  go_wp2
  go_ret3
  exact⟨rfl,bA⟩
 have b2:=beq_eq_false_iff_ne.2 (by omega)
 have h3:200<m:=by omega
 clear h h2
 go_enter func9,ntmps9
 go_wp2
 go_ret3
 exact⟨rfl,bA⟩
def yax(ls:Is)(ns:List ar)(la na:Option Addr)(lcap ncap:Nat)(B:Nat)(w:World)(hB:B<=w.heap.size)(hl:Zw B w (A la ls.length lcap) ls)(hn:Zl B w (A na ns.length ncap) ns)
  (h1:ls.length<=4) (h2:ns.length≠0) (h3:ns.length<=200):
  E 9 #[.agg #[A la ls.length lcap,A na ns.length ncap]] w (Rw (.tuple #[.string ⟨(aH ls ns).1.toArray⟩,.bool (aH ls ns).2.1,I (aH ls ns).2.2]) w):=by
 have HL:=Z hl;have HN:=Z hn;have b2:((ns.length:Int)==0)=false:=beq_eq_false_iff_ne.2 (by omega)
 have H1:Y (¬(4<ls.length\/ns.length=0\/200<ns.length)):=by intro h;omega
 have h2':0<ns.length:=by omega
 clear hl hn h2;have K0:Below B w (w.alloc (.cells #[A la ls.length lcap,A na ns.length ncap] 30)):=(Below.refl _ _).alloc hB _;have i0:Y (D w (w.alloc (.cells #[A la ls.length lcap,A na ns.length ncap] 30))):=bA;clear K0
 go_enter func9,ntmps9
 go_wp2
 go_loop [5] (λi=>∃j:Nat,j<=ls.length/\i=I j/\∀t:Nat,t<j->cf (ls.getD t 0)=true) (λi=>ls.length - (intOf i).toNat)
 case atStart=>exact⟨0,by omega,rfl,λt ht=>by omega⟩
 case round=>
  obtain⟨j,hj,rfl,aT⟩:=hrel;have HA:=Z aT;clear aT
  by_cases y0:j<ls.length
  ·obtain⟨b,off,rfl,z0,m0⟩:=HL.at y0
   have d0:b<w.heap.size:=(by omega);obtain⟨x,hx⟩:=J (ls.getD j 0);rw[<-hx]at m0;have n0:=Z hx;have L0:(j:Int)<(ls.length:Int):=(by omega);clear hx
   by_cases o0:x<0\/2147483648<=x
   ·have j0:aH ls ns=([],false,-1):=by
     unfold aH;rw[U H1.out,G (zc0 y0 (by rw[<-n0.out];exact zdv o0))]
    have A0:=Z j0;clear j0
    by_cases M0:x<0
    ·clear o0
     go_wp2
     go_ret3
     exact⟨by rw[A0.out];rfl,i0⟩
    have N0:2147483648<=x:=(by omega);clear o0;go_wp2
    go_ret3
    exact⟨by rw[A0.out];rfl,i0⟩
   have M0:¬x<0:=(by omega);have N0:¬2147483648<=x:=(by omega);clear o0;go_wp2
   go_round
   case rel=>exact⟨j+1,by omega,by go_num,λt ht=>by
    by_cases h:t<j
    ·exact HA t h
    have:t=j:=by omega
    subst this;rw[<-n0.out];exact yw7 (by omega)⟩
   case measure=>simp[intOf];omega
  have e0:=yw8 (λt ht=>HA t (by omega));have p0:=Z e0;clear e0 HA;have B0:Y (E 21 #[A na ns.length ncap] (w.alloc (.cells #[A la ls.length lcap,A na ns.length ncap] 30)) λe w'=>e=.returned (I (aJ ns))/\Below (w.alloc (.cells #[A la ls.length lcap,A na ns.length ncap] 30)).heap.size (w.alloc (.cells #[A la ls.length lcap,A na ns.length ncap] 30)) w'):=zjy ns _ B _ (by simp;omega) (HN.below ((Below.refl _ _).alloc hB _))
  go_wp2_with fail
  refine(B0.out).mono ?_;rintro e w1 ⟨rfl,f0⟩;clear B0;obtain⟨sh,g0⟩:∃sh,aJ ns=sh:=⟨_,rfl⟩;rw[g0];have l0:=i0.trans (f0.mono (by simp))
  by_cases C0:0<=sh
  ·have b0:aH ls ns=([],false,sh):=by
    unfold aH;rw[U H1.out,U (by rw[p0.out];simp),g0,G C0]
   have HR:=Z b0;clear b0 g0;go_wp2
   go_ret3
   exact⟨by rw[HR.out];rfl,l0⟩
  have b0:aH ls ns=(dF ls ns++bj ns,true,-1):=by
   unfold aH;rw[U H1.out,U (by rw[p0.out];simp),g0,U C0]
  have HR:=Z b0;have q0:Y (∀k,k<ns.length->bT (nth ns k)=true):=λk hk=>ff (by rw[g0];omega) k hk;clear b0 g0;have V0:w.heap.size<w1.heap.size:=(by have:=f0.size;simp at this;omega);have k0:w1.cell? (O w.heap.size 0)=some (A la ls.length lcap):=(by rw[f0.cell (by simp)];simp)
  go_wp2_with fail
  refine(Ul ls.length _ (by omega) (by omega)).mono ?_;rintro e w2 ⟨rfl,D0⟩;rw[show ((ls.length:Int)).toNat=ls.length from by omega];have hb2':=f0.trans (D0.mono f0.size);have W0:=bH ls.length;generalize hq:aG ls.length=cl at*;have O0:=Z hq;clear hq f0 D0 l0 k0;go_wp2
  go_loopw [8,9] (λt i wr=>∃j:Nat,j<=ls.length/\i=I j/\t=.string ⟨([70,80,49]++(cl++aR (ls.take j))).toArray⟩/\Below (w.alloc (.cells #[A la ls.length lcap,A na ns.length ncap] 30)).heap.size (w.alloc (.cells #[A la ls.length lcap,A na ns.length ncap] 30)) wr) (λ_ i _=>ls.length - (intOf i).toNat)
  case atStart=>exact⟨0,by omega,rfl,by rw[show (⟨#[70,80,49]⟩:ByteArray)=⟨([70,80,49]:L).toArray⟩ from rfl,Uw];simp[aR],hb2'⟩
  case round=>
   clear hb2';obtain⟨j,hj,rfl,rfl,a0⟩:=hrel;have r0:=a0.size;simp only[size_alloc]at r0;have d0:=i0.trans (a0.mono (by simp));have k0:wr.cell? (O w.heap.size 0)=some (A la ls.length lcap):=(by rw[a0.cell (by simp)];simp);have k1:wr.cell? (O w.heap.size 1)=some (A na ns.length ncap):=(by rw[a0.cell (by simp)];simp);have X0:=dx (ls.take j);have P0:(ls.take j).length<=4:=(by simp;omega);generalize hq:aR (ls.take j)=pre at*;have HP:=Z hq;clear hq
   by_cases s0:j<ls.length
   ·obtain⟨b,off,rfl,z0,m0⟩:=(HL.below (d0.mono hB)).at s0
    have t0:=zj2.1 (all_eq_true.1 p0 _ (mo s0));obtain⟨x,hx⟩:=J (ls.getD j 0);rw[<-hx]at m0 t0;have n0:=Z hx;have E0:=Z t0;have L0:(j:Int)<(ls.length:Int):=(by omega);clear hx t0
    go_wp2_with fail
    refine(Ul x _ E0.1 E0.2).mono ?_;rintro e w3 ⟨rfl,F0⟩;have Q0:=Z (a0.trans (F0.mono (by simp;omega)));have Y0:=bH x.toNat;generalize hq:aG x.toNat=cx at*;have u0:=Z hq;clear hq a0 F0 m0 k0 k1 d0;go_wp2
    go_roundw
    case rel=>exact⟨j+1,by omega,by go_num,by rw[Uw,dT _ j s0,da,HP.out,<-n0.out,u0.out];simp,Q0⟩
    case measure=>simp[intOf];omega
   have aT:ls.take j=ls:=take_of_length_le (by omega);have v0:=Z aT;clear aT
   go_wp2_with fail
   refine(Ul ns.length _ (by omega) (by omega)).mono ?_;rintro e w4 ⟨rfl,G0⟩;rw[show ((ns.length:Int)).toNat=ns.length from by omega];have hb4':Below (w.alloc (.cells #[A la ls.length lcap,A na ns.length ncap] 30)).heap.size (w.alloc (.cells #[A la ls.length lcap,A na ns.length ncap] 30)) w4:=a0.trans (G0.mono (by simp;omega));have Z0:=bH ns.length;generalize hq:aG ns.length=cn at*;have R0:=Z hq;clear hq G0 a0 d0 k0 k1;go_wp2
   go_loopw [8,10] (λt i wr=>∃j:Nat,j<=ns.length/\i=I j/\t=.string ⟨([70,80,49]++(cl++(pre++(cn++bj (ns.take j))))).toArray⟩/\Below (w.alloc (.cells #[A la ls.length lcap,A na ns.length ncap] 30)).heap.size (w.alloc (.cells #[A la ls.length lcap,A na ns.length ncap] 30)) wr) (λ_ i _=>ns.length - (intOf i).toNat)
   case atStart=>exact⟨0,by omega,rfl,by rw[Uw];simp[bj],hb4'⟩
   case round=>
    clear hb4';obtain⟨i,hi,rfl,rfl,a0⟩:=hrel;have r0:=a0.size;simp only[size_alloc]at r0;have d0:D w wr:=i0.trans (a0.mono (by simp));have k1:wr.cell? (O w.heap.size 1)=some (A na ns.length ncap):=(by rw[a0.cell (p:=(O w.heap.size 1)) (by simp)];simp)
    have S0:=gm (ns.take i) (λx hx=>by
     obtain⟨j,hj,rfl⟩:=jL (mem_of_mem_take hx);exact q0 j hj)
    have T0:(ns.take i).length<=200:=(by simp;omega);generalize hq:bj (ns.take i)=pre2 at*;have H0:=Z hq;clear hq
    by_cases h0:i<ns.length
    ·obtain⟨b,off,rfl⟩:∃b off,na=some (O b off):=by
      obtain⟨ao',cap',hv',_,_,hx'⟩:=HN.out;obtain⟨b,off,ha,_⟩:=hx' (by intro h;rw[h]at h0;simp at h0);simp only[slice.injEq]at hv';exact⟨b,off,hv'.1.trans ha⟩
     obtain⟨z0,lv,c0,c1,c2,c3,c4,c5,c6⟩:=(HN.below (d0.mono hB)).at h0;have I0:Y (E 23 #[Vt (nth ns i) lv] wr (Rw (.string ⟨(aC (nth ns i)).toArray⟩) wr)):=yay _ _ B _ (by omega) c0 (q0 i h0);have a1:(i:Int)<(ns.length:Int):=(by omega);have b1:=fC (q0 i h0);clear c0
     go_wp2_with fail
     refine(I0.out).mono ?_;rintro e w5 ⟨rfl,J0⟩;have U0:Y (Below _ _ w5):=a0.trans (J0.mono (by simp;omega));generalize hq:aC (nth ns i)=cx at*;have u0:=Z hq;clear hq a0 J0 c1 c2 c3 c4 c5 c6 k1 d0 I0;go_wp2
     go_roundw
     case rel=>exact⟨i+1,by omega,by go_num,by rw[Uw,fp _ i h0,iZ,H0.out,u0.out];simp,U0⟩
     case measure=>simp[intOf];omega
    have aT:ns.take i=ns:=take_of_length_le (by omega);have x0:=Z aT;clear aT;go_wp2
    go_ret3
    refine⟨?_,d0⟩;rw[HR.out,dF,O0.out,R0.out];have e1:=HP.out;have e2:=H0.out;rw[v0.out]at e1;rw[x0.out]at e2;rw[e1,e2];simp
def zd3(ls:Is)(ns:List ar)(lv nv:Value)(B:Nat)(w:World)(hB:B<=w.heap.size)(hl:Zw B w lv ls)(hn:Zl B w nv ns):
  E 9 #[.agg #[lv,nv]] w (Rw (.tuple #[.string ⟨(aH ls ns).1.toArray⟩,.bool (aH ls ns).2.1,I (aH ls ns).2.2]) w):=by
 obtain⟨la,lcap,rfl,_,hm,_⟩:=id hl;obtain⟨na,ncap,rfl,_,hm',_⟩:=id hn;unfold maxLen at hm hm'
 by_cases h:4<ls.length\/ns.length=0\/200<ns.length
 ·have he:aH ls ns=([],false,-1):=by unfold aH;rw[G h]
  rw[he];exact ye8 _ _ la na lcap ncap w (by omega) (by omega) h
 exact yax ls ns la na lcap ncap B w hB hl hn (by omega) (by omega) (by omega)
def zg6(w:World)(ao:Option Addr)(c:Nat)(ty:TypeId){i:TypeInfo}(hi:prog.info? 3=some i):(Builtin.append_ #[27,27] ty #[.slice none 0 0,.slice ao 0 c]).run prog w=.ok (.slice none 0 0) w:=by
 cases ao with
 |none=>simp[Builtin.append_,run_underlying underlying27,sizeOf,typeInfo,hi,Builtin.lenOf,Builtin.firstCells]
 |some a=>simp[Builtin.append_,run_underlying underlying27,sizeOf,typeInfo,hi,Builtin.lenOf,Builtin.firstCells,loadCells,loadCellsFrom]
def zs1{ops:Array Oper}{rest:List Oper}{o:Oper}{a:Act}{Q:Exit->Act->World->Prop}(hgd:o.guard=none)(s x:Operand)
  (ho:o.op=.call {callee:=.builtin .append,args:=#[s,x],argTypes:=#[27,27]}) (hs:a.eval s=.slice none 0 0) (xv:Value) (hx:a.eval x=xv) (B:Nat) (xs:List Int) (hin:Zw B w xv xs) (aL:xs.length<=1000000) (base:Nat) (hbase:base<=w.heap.size)
  (h:∀v' w',w'.ownsRow base 3 1 v' xs.length (xs.map (int .i64))->Below w.heap.size w w'->wpList prog ops Q rest (a.put o.dst v') w'):wpList prog ops Q (o::rest) a w:=by
 obtain⟨i0,hi,hz0,hz1,hz2⟩:=info_parts Tryz.infoInt;obtain⟨ao,cap,rfl,hc,hm,hcell⟩:=hin
 by_cases hne:xs=[]
 ·subst hne
  have ed:=zg6 w ao cap o.type hi;refine wpList_plain hgd λWx hK=>?_;unfold Oper.wp;simp only[length_nil]at hx;simp[execOp,ho,resolve,invoke,builtin,hs,hx,ed,Result.andThen];exact hK _ _ (h _ _ (ownsRow_nil _ _ _ _) (Below.refl _ _))
 ·obtain⟨b,off,rfl,hbB,hcells⟩:=hcell hne
  refine wpList_append_own _ hgd s x 27 ho base 3 i0 (.int .i64 0) 1 8 underlying27 hi hz0 hz1 hz2 rfl (by decide) _ 0 [] hs (ownsRow_nil _ _ _ _) ⟨b,off,none⟩ xs.length cap (xs.map (int .i64)) hx (by simp) ?_ ?_ (by omega) (by omega) hbase ?_
  ·intro j u hj
   rw[getElem?_map]at hj;obtain⟨y,hy,rfl⟩:=Option.map_eq_some_iff.1 hj;have hjl:j<xs.length:=(List.getElem?_eq_some_iff.1 hy).1;have:=hcells j hjl;rw[getD_eq_getElem?_getD,hy]at this
   have h2:(⟨b,off,none⟩:Addr).add j=⟨b,off+j,none⟩:=by unfold Addr.add;split<;>simp_all
   rw[h2];simpa using this
  ·intro u hu;simp only[mem_map]at hu;obtain⟨y,_,rfl⟩:=hu;rfl
  ·intro v' w' hown hg _
   rw[Nat.zero_add,nil_append]at hown;exact h v' w' hown ((Below.refl _ _).grown hg (Nat.le_refl _) (λk hk=>by simp[ownBlock]at hk))
structure Jp(ls:Is)(WQ wr:World)(Wz Q:Nat)(lv nv:Value)(acc:List ar)(lvs:Vs):Prop where
 hl:lvs.length=acc.length
 hn:wr.ownsRow (Q+1) 73 6 nv acc.length (flat acc lvs)
 aT:∀p,p∈(lv,ls)::Yu acc lvs->Vw wr p.1 p.2 K nv/\(p.2≠[]->∀b,p.1.ownBlock=some b->Wz<=b/\b≠Q)
 c0:wr.cell? (O Q 0)=some lv
 c1:wr.cell? (O Q 1)=some nv
 fq:∀j,wr.frozen? (O Q j)=false
 hb:Below Q WQ wr
 hz:Q<wr.heap.size
 hL:Wz<=Q
section
variable{WQ wr W1 W2:World}{Wz Q:Nat}{nv nv' lvn:Value}{acc:List ar}{lvs:Vs}{nd:ar}
def Jp.below(h:Jp ls WQ wr Wz Q lv nv acc lvs)(hb:D wr W1):Jp ls WQ W1 Wz Q lv nv acc lvs:=by
 have q:∀o,W1.cell? (O Q o)=wr.cell? (O Q o):=λo=>hb.cell h.hz;have og:wr.grownBy W1 none:=⟨hb.os,hb.tape,hb.output,hb.size,λk hk _=>hb.block k hk⟩;exact⟨h.hl,h.hn.kept og (by cases nv.ownBlock<;>simp),λp hp=>⟨(h.aT p hp).1.below hb,(h.aT p hp).2⟩,(q _).trans h.c0,(q _).trans h.c1,λj=>(hb.frozen h.hz).trans (h.fq j),h.hb.trans (hb.mono (Nat.le_of_lt h.hz)),Qj h.hz hb.size,h.hL⟩
def Jp.ap(h:Jp ls WQ wr Wz Q lv nv acc lvs):Zw wr.heap.size wr lv ls:=(h.aT (lv,ls) (by simp)).1.1
def Jp.nodes(h:Jp ls WQ wr Wz Q lv nv acc lvs):Zl wr.heap.size wr nv acc:=
 Uy h.hn h.hl (λi hi=>(h.aT _ (by simp only[mem_cons];right;exact Vj acc lvs i h.hl hi)).1.1)
def Jp.push(h:Jp ls WQ wr Wz Q lv nv acc lvs)(hb:D wr W1)(hi:Zw W1.heap.size W1 lvn nd.ae)(hf:∀b,lvn.ownBlock=some b->wr.heap.size<=b)
  (ho:W2.ownsRow (Q+1) 73 6 nv' (acc.length+1) (flat acc lvs++Zc nd lvn)) (hg:W1.grownBy W2 nv.ownBlock) (hw:nv'.ownBlock=nv.ownBlock\/nv'.ownBlock=some W1.heap.size):
  Jp ls WQ (W2.setCell (O Q 1) nv') Wz Q lv nv' (acc++[nd]) (lvs++[lvn]):=by
 have h1:=h.below hb;have hz:=h.hz;have cD:=hb.size;have hsg:=hg.size
 have hs:(W2.setCell (O Q 1) nv').heap.size=W2.heap.size:=by simp[setCell]
 have hne:some Q≠nv.ownBlock:=λhh=>by have:=(h.hn.lt Q hh.symm).1;omega
 have c0:=hg.cell h1.c0 hne;have c1:=hg.cell h1.c1 hne;have fq:∀j,W2.frozen? (O Q j)=false:=λj=>(frozen?_of_block (hg.block Q (by omega) hne)).trans (h1.fq j);have hk:∀p,p∈(lv,ls)::Yu (acc++[nd]) (lvs++[lvn])->Vw W2 p.1 p.2 K nv'/\(p.2≠[]->∀b,p.1.ownBlock=some b->Wz<=b/\b≠Q):=by
  intro p hp;rw[Jw _ _ _ _ h.hl]at hp;simp only[mem_cons,mem_append,not_mem_nil,or_false]at hp;have fZ:p∈(lv,ls)::Yu acc lvs->Vw W2 p.1 p.2 K nv'/\(p.2≠[]->∀b,p.1.ownBlock=some b->Wz<=b/\b≠Q):=λhp=>⟨(h1.aT p hp).1.second hg hw,(h1.aT p hp).2⟩;rcases hp with hp|hp|hp
  ·exact fZ (by rw[hp];simp)
  ·exact fZ (by simp[hp])
  ·subst hp
   have hkn:Vw W1 lvn nd.ae K nv:=Vw.new (w:=wr) hi hf (λb hb=>by simp[ownBlock]at hb) (λb hb=>(h.hn.lt b hb).2);exact⟨hkn.second hg hw,λ_ b hh=>by have:=hf b hh;have:=h.hL;omega⟩
 refine⟨by simp[h.hl],?_,λp hp=>⟨(hk p hp).1.set (λhx hh=>((hk p hp).2 hx Q hh).2 rfl),(hk p hp).2⟩,(Jr (by decide)).trans c0,Uv c1,λj=>by rw[frozen?_setCell];exact fq j,?_,by omega,h.hL⟩
 ·rw[zwv _ _ _ _ h.hl,length_append];exact ownsRow_setCell_below ho (by simp) nv'
 ·exact(h1.hb.grown hg (by omega) (λk hk=>by have:=(h.hn.lt k hk).1;omega)).setCell (by simp) _
def Jp.new(hb:Below Q WQ wr)(hz:Q<wr.heap.size)(hi:Zw wr.heap.size wr lv ls)(hL:Wz<=Q)(hne:ls≠[]->∀b,lv.ownBlock=some b->Wz<=b/\b≠Q)(c0:wr.cell? (O Q 0)=some lv)(c1:wr.cell? (O Q 1)=some K)(fq:∀j,wr.frozen? (O Q j)=false):
  Jp ls WQ wr Wz Q lv K [] []:=by
 refine⟨rfl,ownsRow_nil _ _ _ _,λp hp=>?_,c0,c1,fq,hb,hz,hL⟩;simp only[Yu,mem_singleton]at hp;subst hp;refine⟨⟨hi,λhx=>?_⟩,hne⟩;obtain⟨b,hbb,_⟩:=zv0 hi hx;rw[hbb];simp[ownBlock]
def Jp.ret(h:Jp ls WQ wr Wz Q lv nv acc lvs){R:Nat}(hR:R<Wz)(u u':Value):
  Zw ((wr.setCell (O R 0) u).setCell (O R 1) u').heap.size ((wr.setCell (O R 0) u).setCell (O R 1) u') lv ls/\Zl ((wr.setCell (O R 0) u).setCell (O R 1) u').heap.size ((wr.setCell (O R 0) u).setCell (O R 1) u') nv acc:=by
 have hL:=h.hL
 have hk:∀p,p∈(lv,ls)::Yu acc lvs->Zw ((wr.setCell (O R 0) u).setCell (O R 1) u').heap.size ((wr.setCell (O R 0) u).setCell (O R 1) u') p.1 p.2:=λp hp=>by
  have hne:p.2≠[]->p.1.ownBlock≠some R:=λhx hh=>by have:=((h.aT p hp).2 hx R hh).1;omega
  exact Xf (Xf (h.aT p hp).1.1 hne) hne
 refine⟨hk (lv,ls) (by simp),Uy (ownsRow_setCell_below (ownsRow_setCell_below h.hn (by simp only;omega) u) (by simp only;omega) u') h.hl (λi hi=>hk _ (by simp only[mem_cons];right;exact Vj acc lvs i h.hl hi))⟩
end
def yi2(ls:Is)(ns:List ar)(la na:Option Addr)(lc nc B:Nat)(w:World)(hB:B<=w.heap.size)(hl:Zw B w (A la ls.length lc) ls)(hn:Zl B w (A na ns.length nc) ns)(h1:ls.length<=1000000)(h2:ns.length<=1000000)(h3:∀k,k<ns.length->(nth ns k).ae.length<=1000000):
  E 24 #[.agg #[A la ls.length lc,A na ns.length nc]] w λe w'=>∃lv nv,e=.returned (.agg #[lv,nv])/\Zw w'.heap.size w' lv ls/\Zl w'.heap.size w' nv ns/\D w w':=by
 obtain⟨i1,I0,J0,K0,L0⟩:=info_parts Tryz.infoNode;have HL:=Z hl;have HN:=Z hn;have H3:=Z h3;clear hl hn h3
 go_enter func24,ntmps24
 go_wp2_with (at_builtin;refine zs1 rfl _ _ rfl (by exact rfl) _ (by exact rfl) B ls ?a1 h1 (w.heap.size+2) ?a2 ?_)
 case a1=>exact HL.below (((Below.refl _ _).alloc hB _).alloc (by simp;omega) _)
 case a2=>simp
 intro v' w1 g0 b0;obtain⟨vao,vcap,rfl⟩:=Yh g0
 have z0:w.heap.size+2<=w1.heap.size:=by have:=b0.size;simp only[size_alloc]at this;omega
 have p1:M w1 w.heap.size 1 (A na ns.length nc):=cT b0 (by omega) ((Qf _ _ _ (by simp)).trans (by simp));have d0:w1.heap[w.heap.size+1]?=some (.cells #[K,K] 30 (0,0)):=by
  rw[b0.block (w.heap.size+1) (by omega)];have:=heap_alloc_new (w.alloc (.cells #[A la ls.length lc,A na ns.length nc] 30)) (.cells #[K,K] 30)
  rwa [size_alloc]at this
 have o0:=Z d0;have p0:Y (D w w1):=by
  refine Below.trans ?_ (b0.mono ?_)
  ·exact Below.alloc (Below.alloc (Below.refl _ _) lE _) (by simp) _
  omega
 have A0:Y (Zw w1.heap.size w1 (A vao ls.length vcap) ls/\∀b,(A vao ls.length vcap).ownBlock=some b->w.heap.size+2<=b/\b<w1.heap.size):=⟨Zw.dp g0,λb hb=>g0.lt b hb⟩;clear g0 b0 d0
 go_wp2_with fail
 obtain⟨Q,hQ⟩:=J (w1.heap.size);have B0:Y (Jp ls w1 (w1.alloc (.cells #[A vao ls.length vcap,K] 30)) (w.heap.size+2) Q (A vao ls.length vcap) K [] []):=by
  subst hQ;refine Jp.new (bA) (by simp) ((A0.1.below (bA)).mono (by simp)) z0 (λh0 b hh=>?_) (by simp) (by simp) (λj=>by rw[frozen?,heap_alloc_new];simp);have:=A0.2 b hh;omega
 have M0:=Z p1;rw[<-hQ]
 have N0:w.heap.size<Q:=by omega
 have r0:w.heap.size+1<Q:=by omega
 have HQ:=Z hQ;clear p1 hQ z0
 go_loopw [4] (λi wr=>∃(j:Nat) (nv:Value) (lvs:Vs),i=I j/\j<=ns.length/\Jp ls w1 wr (w.heap.size+2) Q (A vao ls.length vcap) nv (ns.take j) lvs) (λi _=>ns.length - (intOf i).toNat)
 case atStart=>exact⟨0,K,[],rfl,by omega,by rw[take_zero];exact B0.out⟩
 case round=>
  clear B0;obtain⟨j,nv,lvs,rfl,hj,hg⟩:=hrel;have HG:=Z hg;obtain⟨nao,ncap,rfl⟩:=Yh hg.hn;have u0:(ns.take j).length=j:=(by simp;omega);rw[u0]at HG;have hz:=hg.hz;have r1:M wr w.heap.size 1 (A na ns.length nc):=cT hg.hb N0 M0.out;have q0:=hg.c0;have q1:=hg.c1;have qf:=hg.fq;rw[u0]at q1;clear hg
  by_cases e0:j<ns.length
  ·obtain⟨b,off,rfl⟩:∃b off,na=some (O b off):=by
    obtain⟨ao',cap',hv',_,_,hx'⟩:=HN.out;obtain⟨b,off,ha,_⟩:=hx' (by intro h;rw[h]at e0;simp at e0);simp only[slice.injEq]at hv';exact⟨b,off,hv'.1.trans ha⟩
   have C0:D w wr:=p0.trans (HG.hb.mono (by omega));obtain⟨T0,xv,i0,c0,c1,c2,c3,c4,c5⟩:=(HN.below (C0.mono hB)).at e0;obtain⟨xao,xcap,rfl,_⟩:=id i0;obtain⟨nd,j0⟩:=J (nth ns j);rw[<-j0]at i0 c0 c1 c2 c3 c4 c5;have O0:=Z j0;have P0:=Z i0;have Q0:nd.ae.length<=1000000:=(by rw[j0];exact H3 j e0);have U0:(j:Int)<(ns.length:Int):=(by omega);clear j0 i0 C0
   go_wp2_with (at_builtin;refine zs1 rfl _ _ rfl (by exact rfl) _ (by exact rfl) B nd.ae ?b1 Q0 (wr.heap.size+1) ?b2 ?_)
   case b1=>exact P0.below ((Below.refl _ _).alloc (by have:=p0.size;omega) _)
   case b2=>simp
   intro v2 w2 v0 f0;obtain⟨yao,ycap,rfl⟩:=Yh v0;have hN:wr.heap.size<w2.heap.size:=(by have:=f0.size;simp only[size_alloc]at this;omega);have xx:∀i,w2.cell? (O wr.heap.size i)=#[int IntKind.i64 nd.kind,int IntKind.i64 nd.ak,int IntKind.i64 nd.a,int IntKind.i64 nd.b,int IntKind.i64 nd.c,A xao nd.ae.length xcap][i]?:=λi=>cT f0 (by simp) (cell?_alloc_new _ _ _ _);have x0:=xx 0;have x1:=xx 1;have x2:=xx 2;have x3:=xx 3;have x4:=xx 4;have x5:=xx 5;simp at x0 x1 x2 x3 x4 x5;have xf:∀i,w2.frozen? (O wr.heap.size i)=false:=λi=>(f0.frozen (p:=(O wr.heap.size i)) (by simp)).trans (by rw[frozen?,heap_alloc_new];simp);have k0:D wr w2:=Below.trans (bA) (f0.mono (by omega));have y1:M w2 Q 1 (A nao j ncap):=cT k0 hz q1;have yf:∀i,w2.frozen? (O Q i)=false:=λi=>(k0.frozen (p:=(O Q i)) hz).trans (qf i);have V0:Q≠wr.heap.size:=(by omega);have l0:=Z v0;have D0:=Z k0;clear xx c0 c1 c2 c3 c4 c5 r1 q0 q1 qf v0 f0 k0
   have m0:Y (D wr ((w2.setCell (O wr.heap.size 5) (A yao nd.ae.length ycap)).alloc (.cells #[I nd.kind,I nd.ak,I nd.a,I nd.b,I nd.c,A yao nd.ae.length ycap] 73))):=
    (D0.setCell (by simp) _).alloc (by simp[setCell];omega) _
   go_wp2_with (at_builtin;refine Jd _ rfl (.tmp 27) (.tmp 29) 28 rfl (Q+1) 73 i1 (.agg #[I 0,I 0,I 0,I 0,I 0,K]) 6 64 underlying28 I0 J0 K0 L0 rfl (by decide) _ _ _ rfl (HG.below m0).hn (O _ 0) 1 1 (Zc nd (A yao nd.ae.length ycap)) rfl rfl (by decide) ?n1 ?n2 ?n3 ?n4 ?n5 ?_)
   case n1=>
    intro i u hi;have h:=zkv (w:=w2.setCell (O wr.heap.size 5) (A yao nd.ae.length ycap)) (e:=73) (Zc nd (A yao nd.ae.length ycap)) i u hi;rw[show (w2.setCell (O wr.heap.size 5) (A yao nd.ae.length ycap)).heap.size=w2.heap.size from by simp[setCell]]at h;exact h
   case n2=>intro u hu;simp only[Zc,mem_cons,not_mem_nil,or_false]at hu;rcases hu with rfl|rfl|rfl|rfl|rfl|rfl<;>rfl
   case n3=>unfold maxLen;omega
   case n4=>omega
   case n5=>simp[setCell];omega
   intro v3 w3 y0 n0 E0;have F0:((w2.setCell (O wr.heap.size 5) (A yao nd.ae.length ycap)).alloc (.cells #[I nd.kind,I nd.ak,I nd.a,I nd.b,I nd.c,A yao nd.ae.length ycap] 73)).heap.size=w2.heap.size+1:=(by simp[setCell])
   have h0:some Q≠(A nao j ncap).ownBlock:=λhh=>by have:=(HG.hn.lt Q hh.symm).1;omega
   have GA:=HG.below m0.out;have z1:M w3 Q 1 (A nao j ncap):=n0.cell GA.c1 h0;have zf:∀i,w3.frozen? (O Q i)=false:=λi=>(Qd (n0.block Q GA.hz h0)).trans (GA.fq i)
   have G0:Zw ((w2.setCell (O wr.heap.size 5) (A yao nd.ae.length ycap)).alloc (.cells #[I nd.kind,I nd.ak,I nd.a,I nd.b,I nd.c,A yao nd.ae.length ycap] 73)).heap.size ((w2.setCell (O wr.heap.size 5) (A yao nd.ae.length ycap)).alloc (.cells #[I nd.kind,I nd.ak,I nd.a,I nd.b,I nd.c,A yao nd.ae.length ycap] 73)) (A yao nd.ae.length ycap) nd.ae:=
    zf1 (Xf (Zw.dp l0) (λ_ hh=>by have h9:wr.heap.size+1<=wr.heap.size:=(l0.lt _ hh).1;omega)) _
   have R0:Y (Jp ls w1 (w3.setCell (O Q 1) v3) (w.heap.size+2) Q (A vao ls.length vcap) v3 (ns.take (j+1)) (lvs++[A yao nd.ae.length ycap])):=by
    show Jp _ _ _ _ _ _ _ _ _;rw[fp ns j e0,<-O0.out];exact HG.push m0 G0 (λb hb=>by have:=(l0.lt b hb).1;omega) (by rw[u0];exact y0) n0 (by rw[F0];exact E0)
   obtain⟨zao,zcap,rfl⟩:=Yh y0;clear y0 n0 E0 GA G0 F0 h0 x0 x1 x2 x3 x4 x5 xf y1 yf m0 l0 D0;go_wp2
   go_roundw
   case rel=>exact⟨j+1,_,_,by go_num,by omega,R0⟩
   case measure=>simp[intOf];omega
  have S0:j=ns.length:=(by omega);have H0:Y (Jp ls w1 wr (w.heap.size+2) Q (A vao ls.length vcap) (A nao ns.length ncap) ns lvs):=by
   show Jp _ _ _ _ _ _ _ _ _;have:=HG.out;rw[take_of_length_le (by omega),S0]at this;exact this
  have a0:wr.heap[w.heap.size+1]?=some (.cells #[K,K] 30 (0,0)):=(HG.hb.block _ r0).trans o0.out;have s0:M wr (w.heap.size+1) 0 K:=(cell_of_row _ _ _ _ _ _ a0).trans rfl;have s1:M wr (w.heap.size+1) 1 K:=(cell_of_row _ _ _ _ _ _ a0).trans rfl
  have sf:∀i,wr.frozen? (O (w.heap.size+1) i)=false:=λi=>by rw[frozen?,a0];simp
  clear a0;go_wp2;obtain⟨t0,t1⟩:=zuw (w1:=wr) (B:=w.heap.size+1) (A vao ls.length vcap) (A nao ns.length ncap) s0 s1;exact bodyPost_ret (v:=.agg #[A vao ls.length vcap,A nao ns.length ncap]) (by simp[results,results24,go_sem,t0,t1]) rfl ⟨_,_,rfl,(H0.ret (by omega) _ _).1,(H0.ret (by omega) _ _).2,((p0.trans (HG.hb.mono (by omega))).setCell (by simp) _).setCell (by simp) _⟩
def zd4(pl:Int)(w:World)(e:Ending)(w':World):Prop:=
 D w w'/\(pl<0->e=.returned (.tuple #[K,.iface 23 (I 8)]))/\(0<=pl->∃q,e=.returned (.tuple #[K,.iface 124 (F q)])/\w'.cell? (O q 0)=some (I 8)/\w'.cell? (O q 1)=some (I pl))
def ye9(h:(decide (ls.length<=4) && (ls.all cf && (decide (1<=ns.length) && decide (ns.length<=200))))=false):aH ls ns=([],false,-1):=by
 unfold aH
 by_cases h1:4<ls.length\/ns.length=0\/200<ns.length
 ·rw[G h1]
 rw[U h1];have ha:ls.all cf=false:=by
  have e1:decide (ls.length<=4)=true:=(by simp;omega);have e2:decide (1<=ns.length)=true:=(by simp;omega);have e3:decide (ns.length<=200)=true:=(by simp;omega);rw[e1,e2,e3]at h;simpa using h
 rw[G ha]
def enc_fit(h:(decide (ls.length<=4) && (ls.all cf && (decide (1<=ns.length) && decide (ns.length<=200))))=true):ls.length<=4/\ls.all cf=true/\1<=ns.length/\ns.length<=200/\aH ls ns=if 0<=aJ ns then([],false,aJ ns) else(dF ls ns++bj ns,true,-1):=by
 simp only[Qk,Qn]at h;refine⟨h.1,h.2.1,h.2.2.1,h.2.2.2,?_⟩;unfold aH;rw[U (by omega),U (by rw[h.2.1];simp)]
def yi3(ls:Is)(ns:List ar)(la na:Option Addr)(lc nc:Nat)(w:World)(hl:Zw w.heap.size w (A la ls.length lc) ls)(hn:Zl w.heap.size w (A na ns.length nc) ns)(hr:(aH ls ns).2.1=false):
  E 63 #[.agg #[A la ls.length lc,A na ns.length nc]] w (zd4 (aH ls ns).2.2 w):=by
 have HL:=Z hl;have HN:=Z hn;have y0:=Z hr;clear hl hn hr
 go_enter func63,ntmps63
 go_wp2_with fail
 obtain⟨W1,e0⟩:=J (w.alloc (.cells #[A la ls.length lc,A na ns.length nc] 30));rw[<-e0]
 have k0:D w W1:=by rw[e0];exact bA
 have D0:W1.heap.size=w.heap.size+1:=by rw[e0];simp
 have hp:∀i,W1.cell? (O w.heap.size i)=#[A la ls.length lc,A na ns.length nc][i]?:=λi=>by rw[e0];exact cell?_alloc_new _ _ _ _
 have HP:=Z hp;have z0:=Z k0
 have q0:Y (E 81 #[.agg #[A la ls.length lc,A na ns.length nc]] W1 (Rw (.bool (decide (ls.length<=4) && (ls.all cf && (decide (1<=ns.length) && decide (ns.length<=200))))) W1)):=
  yt4 ls ns la na lc nc w.heap.size W1 (HL.below k0) (HN.below k0) (by omega)
 clear e0 k0 hp;refine(q0.out).mono ?_;rintro e w2 ⟨rfl,f0⟩;have t0:=Z f0;have a0:=Z (z0.trans (f0.mono (by omega)));have p0:=cT f0 (by omega) (HP 0);have p1:=cT f0 (by omega) (HP 1);clear f0 q0
 cases b0:(decide (ls.length<=4) && (ls.all cf && (decide (1<=ns.length) && decide (ns.length<=200)))) with
 |false=>
  have HE:=Z (ye9 b0);clear b0;go_wp2
  go_ret2
  refine⟨a0,λ_=>rfl,λh=>?_⟩;rw[HE.out]at h;simp at h
 |true=>
  obtain⟨h4,aT,h1,A0,g0⟩:=enc_fit b0;have HE:=Z g0;have u0:=Z (zcw ns _ w2 ((HN.below a0).mono a0.size) (by omega));have v0:=ji ns;clear b0 g0 aT
  go_wp2_with fail
  refine(u0.out).mono ?_;rintro e w3 ⟨rfl,h0⟩;have i0:=Z (a0.trans (h0.mono a0.size));have l0:w.heap.size<w2.heap.size:=(by have:=t0.size;omega);have r0:=cT h0 l0 p0;have r1:=cT h0 l0 p1;have m0:=Qj l0 h0.size;clear h0 u0 p0 p1 t0 a0
  by_cases c0:0<=bZ ns
  ·have d0:Y (aH ls ns=([],false,bZ ns)):=by
    show aH ls ns=_;rw[HE.out,jP ns c0,G c0]
   obtain⟨x,hx⟩:=J (bZ ns);rw[<-hx]at c0 v0 d0⊢;clear hx;have hb':¬x<0:=(by omega);go_wp2
   go_ret2
   refine⟨i0.alloc (by omega) _,λh=>?_,λ_=>⟨w3.heap.size,rfl,by simp,?_⟩⟩
   ·rw[d0.out]at h;simp only at h;omega
   rw[d0.out];simp
  have n0:bZ ns<0:=(by omega);have aS:=gG ns n0;have o0:=Z (kV ns n0)
  have x0:Y (E 83 #[A na ns.length nc] w3 (Rw (I (cz ns)) w3)):=
   zq8 ns _ w3 ((HN.below i0).mono i0.size) (by omega) (λi hi=>(eT (aS i hi).1).2) (λi hi p hp=>by have:=iC (aS i hi) hp;omega)
  obtain⟨x,hx⟩:=J (bZ ns);rw[<-hx]at n0 v0⊢;clear aS c0 hx
  go_wp2_with fail
  refine(x0.out).mono ?_;rintro e w4 ⟨rfl,j0⟩;have B0:=Z (i0.trans (j0.mono i0.size));have s0:=cT j0 m0 r0;have s1:=cT j0 m0 r1;have E0:=Qj m0 j0.size;clear j0 x0 r0 r1;obtain⟨y,hy⟩:=J (cz ns);rw[<-hy]at o0⊢;clear hy;have C0:0<=y:=by
   by_cases h:0<=y
   ·exact h
   have h9:=y0.out;rw[HE.out,o0.out,U h]at h9
   cases h9
  have d0:Y (aH ls ns=([],false,y)):=by
   show aH ls ns=_;rw[HE.out,o0.out,G C0]
  go_wp2
  go_ret2
  refine⟨B0.alloc (by omega) _,λh=>?_,λ_=>⟨w4.heap.size,rfl,by simp,?_⟩⟩
  ·rw[d0.out]at h;simp only at h;omega
  rw[d0.out];simp
def enc_neg(ls:Is)(ns:List ar)(h:(aH ls ns).2.2<0):(aH ls ns).2.2= -1:=by
 unfold aH at*
 split at h
 ·rename_i hc;rw[G hc]
 rename_i hc;rw[U hc]
 split at h
 ·rename_i hd;rw[G hd]
 rename_i hd;rw[U hd]
 split at h
 ·rename_i he;simp only at h;omega
 rename_i he;rw[U he]
def yez(ls:Is)(ns:List ar)(la na:Option Addr)(lc nc:Nat)(w:World)(hl:Zw w.heap.size w (A la ls.length lc) ls)(hn:Zl w.heap.size w (A na ns.length nc) ns)(hr:(aH ls ns).2.1=false):
  E 49 #[.agg #[A la ls.length lc,A na ns.length nc]] w (zd4 (aH ls ns).2.2 w):=by
 have HC:Y (∀w1:World,D w w1->E 63 #[.agg #[A la ls.length lc,A na ns.length nc]] w1 (zd4 (aH ls ns).2.2 w1)):=λw1 hw=>yi3 ls ns la na lc nc w1 ((hl.below hw).mono hw.size) ((hn.below hw).mono hw.size) hr;generalize (aH ls ns).2.2=pl at*;clear hl hn hr
 go_enter func49,ntmps49
 go_wp2_with fail
 have a0:D w (w.alloc (.cells #[A la ls.length lc,A na ns.length nc] 30)):=(Below.refl _ w).alloc lE _;refine(HC _ a0).mono ?_;rintro e wz ⟨hB,h1,h2⟩;have HB:=Z (a0.trans (hB.mono (by simp)));have HA:=Z (And.intro h1 h2);obtain⟨v,rfl⟩:∃v,e=.returned (.tuple #[K,v]):=by
  by_cases h0:pl<0
  ·exact⟨_,h1 h0⟩
  obtain⟨q,h,-⟩:=h2 (by omega);exact⟨_,h⟩
 clear hB a0 HC h1 h2;go_wp2
 go_ret2
 exact⟨HB,HA⟩
def yey(ls:Is)(ns:List ar)(la na:Option Addr)(lc nc:Nat)(w:World)(hE:Vd w)(hl:Zw w.heap.size w (A la ls.length lc) ls)(hn:Zl w.heap.size w (A na ns.length nc) ns)(hr:(aH ls ns).2.1=false):
  E 25 #[.agg #[A la ls.length lc,A na ns.length nc]] w (Rw (.tuple #[K,I 8,I (aH ls ns).2.2]) w):=by
 have HC:Y (∀w1:World,D w w1->E 49 #[.agg #[A la ls.length lc,A na ns.length nc]] w1 (zd4 (aH ls ns).2.2 w1)):=λw1 hw=>yez ls ns la na lc nc w1 ((hl.below hw).mono hw.size) ((hn.below hw).mono hw.size) hr;have d0:Y (∀o,D w o->Vd o):=λo ho=>(ho.cell (Qe w _ hE)).trans hE;have e0:=Z (enc_neg ls ns);generalize (aH ls ns).2.2=pl at*;clear hl hn hE hr
 go_enter func25,ntmps25
 go_wp2_with fail
 have b0:D w (w.alloc (.cells #[A la ls.length lc,A na ns.length nc] 30)):=(Below.refl _ w).alloc lE _;refine(HC _ b0).mono ?_;rintro e wz ⟨hB,h1,h2⟩;have HB:=Z (b0.trans (hB.mono (by simp)))
 have cD:w.heap.size+1<=wz.heap.size:=by have:=hB.size;simpa using this
 clear hB b0 HC
 by_cases h0:pl<0
 ·obtain rfl:=h1 h0
  have H0:=Z (e0 h0);clear h1 h2 h0
  go_wp2_with fail
  refine(ze7 8 _ (d0 _ HB)).mono ?_;rintro e w2 ⟨rfl,a0⟩;have c0:=Z (HB.trans (a0.mono (by omega)));clear a0;go_wp2
  go_ret3
  exact⟨by rw[H0.out];rfl,c0⟩
 obtain⟨q,rfl,q0,q1⟩:=h2 (by omega);clear h1 h2 h0
 go_wp2_with fail
 refine(yo4 q 0 8 pl _ (d0 _ HB) q0 q1).mono ?_;rintro e w2 ⟨rfl,a0⟩;have c0:=Z (HB.trans (a0.mono (by omega)));clear a0 q0 q1;go_wp2
 go_ret3
 exact⟨rfl,c0⟩
def yaw(xs ys:Is)(v v':Value)(B:Nat)(w:World)(hx:Zw B w v xs)(hy:Zw B w v' ys):
  E 50 #[v,v'] w (Rw (.bool (xs==ys)) w):=by
 obtain⟨ao,cap,rfl,_,hm,_⟩:=id hx;obtain⟨ao',cap',rfl,_,hm',_⟩:=id hy;unfold maxLen at hm hm';have HX:=Z hx;have HY:=Z hy;clear hx hy
 by_cases aL:xs.length=ys.length
 ·have b0:((xs.length:Int) !=(ys.length:Int))=false:=by rw[aL];simp
  have HL:=Z aL;clear aL
  go_enter func50,ntmps50
  go_wp2
  go_loopw [5] (λi wr=>∃j m:Nat,j<=xs.length/\i=I j/\wr=w.drewN m/\∀t,t<j->xs.getD t 0=ys.getD t 0) (λi _=>xs.length - (intOf i).toNat)
  case atStart=>exact⟨0,0,by omega,rfl,rfl,λt ht=>by omega⟩
  case round=>
   obtain⟨j,m,hj,rfl,rfl,a0⟩:=hrel;have HS:=Z a0;clear a0
   by_cases f0:j<xs.length
   ·obtain⟨b,off,rfl,h0,g0⟩:=HX.at f0
    obtain⟨b',off',rfl,hbB',hcj'⟩:=HY.at (show j<ys.length from by have:=HL.out;omega);obtain⟨x,hx⟩:=J (xs.getD j 0);obtain⟨y,hy⟩:=J (ys.getD j 0);rw[<-hx]at g0;rw[<-hy]at hcj';have d0:=Z hx;have e0:=Z hy;have i0:(j:Int)<(xs.length:Int):=(by omega);have hji':(j:Int)<(ys.length:Int):=(by have:=HL.out;omega);clear hx hy
    go_wp2_with fail
    go_quiet (fail)
    go_wp2
    ·have c0:(x !=y)=true:=by assumption
     go_ret;refine⟨Zr ?_,by repeat (first|exact Below.refl _ _|apply Below.cE)⟩;rw[eq_comm,Qh];intro hh;rw[bne_iff_ne]at c0;apply c0;rw[d0.out,e0.out,hh]
    have c0:(x !=y)=false:=(by assumption)
    go_roundw
    case rel=>exact⟨j+1,_,by omega,by go_num,rfl,λt ht=>by
     by_cases h:t<j
     ·exact HS t h
     have:t=j:=by omega
     subst this;rw[<-d0.out,<-e0.out];simpa using c0⟩
    case measure=>simp[intOf];omega
   have aT:xs=ys:=by
    apply ext_getElem HL.out
    intro i hi hi';have:=HS i (by omega);simpa [Qa,hi,hi'] using this
   have HE:=Z aT;clear aT;go_wp2;go_ret;exact⟨Zr (by rw[HE.out];simp),Below.cE (Below.refl _ _) _⟩
 have b0:((xs.length:Int) !=(ys.length:Int))=true:=by rw[bne_iff_ne];omega
 have HE:Y ((xs==ys)=false):=by show (xs==ys)=false;rw[Qh];intro hh;exact aL (by rw[hh])
 clear aL
 go_enter func50,ntmps50
 go_wp2;go_ret;exact⟨Zr HE.symm,Below.refl _ _⟩
def Vk(a b:List ar):Bool:=decide (a.length=b.length) && (range a.length).all (λi=>bS (nth a i) (nth b i))
def zi6(a b:List ar):Vk a b=true ↔ a=b:=by
 unfold Vk;rw[Qk,Qn,all_eq_true]
 constructor
 ·rintro⟨hl,h⟩
  apply ext_getElem hl
  intro i hi hi';have:=(dG _ _).1 (h i (by simpa using hi));simpa [nth,Qa,hi,hi'] using this
 rintro rfl;exact⟨rfl,λi _=>(dG _ _).2 rfl⟩
def yi4(ls ls2:Is)(ns ns2:List ar)(lv nv lv2 nv2:Value)(B:Nat)(w:World)(hB:B<=w.heap.size)(hl:Zw B w lv ls)(hn:Zl B w nv ns)(l0:Zw B w lv2 ls2)(n0:Zl B w nv2 ns2):
  E 26 #[.agg #[lv,nv],.agg #[lv2,nv2]] w (Rw (.bool ((ls==ls2) && Vk ns ns2)) w):=by
 obtain⟨la,lc,rfl,_,t0,_⟩:=id hl;obtain⟨lb,ld,rfl,_,u0,_⟩:=id l0;obtain⟨na,nc,rfl,_,v0,_⟩:=id hn;obtain⟨nb,nd,rfl,_,x0,_⟩:=id n0;unfold maxLen at t0 u0 v0 x0;have HL:=Z hl;have D0:=Z l0;have HN:=Z hn;have q0:=Z n0;have o0:∀o o',Below B w ((w.alloc o).alloc o'):=λo o'=>((Below.refl _ _).alloc hB _).alloc (by simp;omega) _;have HI:Y (∀o o',E 50 #[A la ls.length lc,A lb ls2.length ld] ((w.alloc o).alloc o') λe w'=>e=.returned (.bool (ls==ls2))/\Below ((w.alloc o).alloc o').heap.size ((w.alloc o).alloc o') w'):=λo o'=>yaw ls ls2 _ _ B _ (hl.below (o0 o o')) (l0.below (o0 o o'));clear hl l0 hn n0 o0
 go_enter func26,ntmps26
 go_wp2_with fail
 refine(HI _ _).mono ?_;rintro e w1 ⟨rfl,d0⟩
 have e0:w.heap.size+1<w1.heap.size:=by have:=d0.size;simp at this;omega
 have hz1':w.heap.size<w1.heap.size:=by omega
 have k1:w1.cell? (O w.heap.size 1)=some (A na ns.length nc):=by rw[d0.cell (p:=(O w.heap.size 1)) (by simp<;>omega)];simp
 have k2:w1.cell? (O (w.heap.size+1) 1)=some (A nb ns2.length nd):=by rw[d0.cell (p:=(O (w.heap.size+1) 1)) (by simp)];simp
 have p0:Y (D w w1):=((bA).alloc (by simp) _).trans (d0.mono (by simp;omega));clear d0
 by_cases f0:ls=ls2
 ·have hle':(ls==ls2)=true:=by rw[f0];simp
  rw[hle'];have y0:=Z f0;clear f0 hle'
  by_cases g0:ns.length=ns2.length
  ·have b1:((ns.length:Int) !=(ns2.length:Int))=false:=by rw[g0];simp
   have m0:=Z g0;clear g0;go_wp2
   go_loopw [6] (λi wr=>∃j:Nat,j<=ns.length/\i=I j/\(∀t,t<j->bS (nth ns t) (nth ns2 t)=true)/\D w wr/\M wr w.heap.size 1 (A na ns.length nc)/\M wr (w.heap.size+1) 1 (A nb ns2.length nd)/\w.heap.size+1<wr.heap.size) (λi _=>ns.length - (intOf i).toNat)
   case atStart=>exact⟨0,by omega,rfl,λt ht=>by omega,p0,k1,k2,e0⟩
   case round=>
    clear k1 k2 e0 hz1';obtain⟨j,hj,rfl,aT,r0,k1,k2,e0⟩:=hrel;have HA:=Z aT;have c0:=Z r0;clear aT r0
    by_cases h0:j<ns.length
    ·obtain⟨b,off,rfl⟩:∃b off,na=some (O b off):=by
      obtain⟨ao',cap',hv',_,_,hx'⟩:=HN.out;obtain⟨b,off,ha,_⟩:=hx' (by intro h;rw[h]at h0;simp at h0);simp only[slice.injEq]at hv';exact⟨b,off,hv'.1.trans ha⟩
     obtain⟨b',off',rfl⟩:∃b off,nb=some (O b off):=by
      obtain⟨ao',cap',hv',_,_,hx'⟩:=q0.out;obtain⟨b,off,ha,_⟩:=hx' (by intro h;have:=m0.out;rw[h]at this;simp at this;rw[this]at h0;simp at h0);simp only[slice.injEq]at hv';exact⟨b,off,hv'.1.trans ha⟩
     obtain⟨_,li,i0,i1,i2,i3,i4,i5,i6⟩:=(HN.below (c0.mono hB)).at h0;obtain⟨_,lk,j0,j1,j2,j3,j4,j5,j6⟩:=(q0.below (c0.mono hB)).at (show j<ns2.length from by have:=m0.out;omega);have s0:=c0.size
     have HE:Y (∀wz,Below B wr wz->E 47 #[Vt (nth ns j) li,Vt (nth ns2 j) lk] wz (Rw (.bool (bS (nth ns j) (nth ns2 j))) wz)):=
      λwz hz=>zl5 _ _ _ _ B _ (by have:=hz.size;omega) (i0.below hz) (j0.below hz)
     clear i0 j0;have E0:(j:Int)<(ns.length:Int):=(by omega);have z0:(j:Int)<(ns2.length:Int):=(by have:=m0.out;omega)
     by_cases a0:bS (nth ns j) (nth ns2 j)=true
     ·rw[a0]at HE
      have A0:=Z a0;clear a0
      go_wp2_with fail
      go_region_with (go_at_call 47;refine(HE _ dA).mono ?_;rintro e w4 ⟨rfl,b0⟩)
      all_goals
       have B0:=b0.size;have q1:M w4 w.heap.size 1 (Sq b off ns.length nc):=cT b0 (show w.heap.size<wr.heap.size from by omega) k1;have q2:M w4 (w.heap.size+1) 1 (Sq b' off' ns2.length nd):=cT b0 e0 k2;have C0:Y (D w w4):=c0.trans (dA.trans (b0.mono s0));have hz4':w.heap.size+1<w4.heap.size:=Qj e0 B0;clear b0 k1 k2 i1 i2 i3 i4 i5 i6 j1 j2 j3 j4 j5 j6;go_wp2
       go_roundw
       case rel=>exact⟨j+1,by omega,by go_num,λt ht=>by
        by_cases h:t<j
        ·exact HA t h
        have:t=j:=by omega
        subst this;exact A0.out,C0.out,q1,q2,hz4'⟩
       case measure=>simp[intOf];omega
     have heq':bS (nth ns j) (nth ns2 j)=false:=(by simpa using a0);rw[heq']at HE;have HF:Y (((ls==ls2) && Vk ns ns2)=false):=by
      have:Vk ns ns2=false:=by
       rw[Bool.eq_false_iff];intro hh;rw[zi6]at hh;rw[hh]at a0;exact a0 ((dG _ _).2 rfl)
      show ((ls==ls2) && Vk ns ns2)=false;rw[this];simp
     clear a0 heq'
     go_wp2_with fail
     go_region_with (go_at_call 47;refine(HE _ dA).mono ?_;rintro e w4 ⟨rfl,b0⟩)
     all_goals
      go_wp2;go_ret;exact⟨Zr HF.symm,c0.trans (dA.trans (b0.mono s0))⟩
    have k0:((ls==ls2) && Vk ns ns2)=true:=by
     have h2:Vk ns ns2=true:=by
      unfold Vk;rw[decide_eq_true m0.out,Bool.true_and,all_eq_true];intro i hi;exact HA i (by simp at hi;omega)
     rw[h2,y0.out];simp
    have HF:=Z k0;clear k0;go_wp2;go_ret;exact⟨Zr HF.symm,c0⟩
  have b1:((ns.length:Int) !=(ns2.length:Int))=true:=(by rw[bne_iff_ne];omega);have HF:Y (((ls==ls2) && Vk ns ns2)=false):=by
   have h2:Vk ns ns2=false:=(by unfold Vk;rw[decide_eq_false g0];rfl);show ((ls==ls2) && Vk ns ns2)=false;rw[h2];simp
  clear g0;go_wp2;go_ret;exact⟨Zr HF.symm,p0⟩
 have hle':(ls==ls2)=false:=by rw[Qh];exact f0
 rw[hle']
 have HF:Y (((ls==ls2) && Vk ns ns2)=false):=by show ((ls==ls2) && Vk ns ns2)=false;rw[hle'];rfl
 clear f0 hle';go_wp2;go_ret;exact⟨Zr HF.symm,p0⟩
def yp5(ls:Is)(ns:List ar)(la na:Option Addr)(lc nc:Nat)(w:World)(hE:Vd w)(hl:Zw w.heap.size w (A la ls.length lc) ls)(hn:Zl w.heap.size w (A na ns.length nc) ns)(h1:ls.length<=1000000)(h2:ns.length<=1000000)(h3:∀k,k<ns.length->(nth ns k).ae.length<=1000000)(hr:(aH ls ns).2.1=false):
  E 10 #[.agg #[A la ls.length lc,A na ns.length nc]] w (Rw (.tuple #[K,.bool true]) w):=by
 have HL:=Z hl;have HN:=Z hn;have H3:=Z h3;have HE:Y (∀o,D w o->Vd o):=λo ho=>(ho.cell (p:=⟨0,0,none⟩) (Qe w _ hE)).trans hE;have r0:=Z hr;clear hl hn h3 hE hr
 go_enter func10,ntmps10
 go_wp2_with fail
 obtain⟨W1,h0⟩:=J (w.alloc (.cells #[A la ls.length lc,A na ns.length nc] 30));rw[<-h0]
 have k0:D w W1:=by rw[h0];exact bA
 have I0:W1.heap.size=w.heap.size+1:=by rw[h0];simp
 have HP:Y (∀i,W1.cell? (O w.heap.size i)=#[A la ls.length lc,A na ns.length nc][i]?):=λi=>by rw[h0];exact cell?_alloc_new _ _ _ _
 have F0:=Z k0
 have v0:Y (E 24 #[.agg #[A la ls.length lc,A na ns.length nc]] W1 λe w'=>∃lv nv,e=.returned (.agg #[lv,nv])/\Zw w'.heap.size w' lv ls/\Zl w'.heap.size w' nv ns/\D W1 w'):=
  yi2 ls ns la na lc nc w.heap.size W1 (by omega) (HL.below k0) (HN.below k0) h1 h2 H3.out
 clear h0 k0;refine(v0.out).mono ?_;rintro e w2 ⟨lv,nv,rfl,d0,e0,i0⟩;obtain⟨lb,ld,rfl,_⟩:=id d0;obtain⟨nb,nd,rfl,_⟩:=id e0;have x0:=Z d0;have y0:=Z e0;have G0:Y (D w w2):=F0.trans (i0.mono (by omega))
 have z0:w.heap.size<w2.heap.size:=by have:=i0.size;omega
 have p0:M w2 w.heap.size 0 (A la ls.length lc):=cT i0 (by omega) (HP 0);have p1:M w2 w.heap.size 1 (A na ns.length nc):=cT i0 (by omega) (HP 1);clear d0 e0 i0 v0 HP
 go_wp2_with fail
 obtain⟨Q,hQ⟩:=J (w2.heap.size);obtain⟨W3,j0⟩:=J (w2.alloc (.cells #[A lb ls.length ld,A nb ns.length nd] 30));rw[<-j0,<-hQ]
 have b0:D w2 W3:=by rw[j0];exact bA
 have J0:W3.heap.size=Q+1:=by rw[j0,hQ];simp
 have HQ:Y (∀i,W3.cell? (O Q i)=#[A lb ls.length ld,A nb ns.length nd][i]?):=λi=>by rw[j0,hQ];exact cell?_alloc_new _ _ _ _
 have f0:Y (D w W3):=G0.trans (b0.mono (by omega));have m0:Y (Zw W3.heap.size W3 (A lb ls.length ld) ls/\Zl W3.heap.size W3 (A nb ns.length nd) ns):=⟨(x0.below b0).mono b0.size,(y0.below b0).mono b0.size⟩;have n0:Y (M W3 w.heap.size 0 (A la ls.length lc)/\M W3 w.heap.size 1 (A na ns.length nc)):=⟨cT b0 z0 p0,cT b0 z0 p1⟩
 have A0:Y (E 25 #[.agg #[A la ls.length lc,A na ns.length nc]] W3 (Rw (.tuple #[K,I 8,I (aH ls ns).2.2]) W3)):=
  yey ls ns la na lc nc W3 (HE _ f0) ((HL.below f0).mono f0.size) ((HN.below f0).mono f0.size) r0.out
 have K0:w.heap.size<Q:=by omega
 clear j0 hQ b0 p0 p1 x0 y0;refine(A0.out).mono ?_;rintro e w4 ⟨rfl,a0⟩;have g0:Y (D w w4):=f0.trans (a0.mono f0.size);have l0:Y (Zw w4.heap.size w4 (A lb ls.length ld) ls/\Zl w4.heap.size w4 (A nb ns.length nd) ns):=⟨(m0.1.below a0).mono a0.size,(m0.2.below a0).mono a0.size⟩;have s0:M w4 w.heap.size 0 (A la ls.length lc):=cT a0 (by omega) n0.1;have s1:M w4 w.heap.size 1 (A na ns.length nc):=cT a0 (by omega) n0.2;have t0:M w4 Q 0 (A lb ls.length ld):=cT a0 (by omega) (HQ 0);have t1:M w4 Q 1 (A nb ns.length nd):=cT a0 (by omega) (HQ 1)
 have L0:Q+1<=w4.heap.size:=by have:=a0.size;omega
 have B0:Y (E 26 #[.agg #[A la ls.length lc,A na ns.length nc],.agg #[A lb ls.length ld,A nb ns.length nd]] w4 (Rw (.bool true) w4)):=by
  have:=yi4 ls ls ns ns (A la ls.length lc) (A na ns.length nc) (A lb ls.length ld) (A nb ns.length nd) w4.heap.size w4 lE ((HL.below g0).mono g0.size) ((HN.below g0).mono g0.size) l0.1 l0.2;rw[show ((ls==ls) && Vk ns ns)=true from by rw[(zi6 ns ns).2 rfl];simp]at this;exact this
 clear a0 A0 m0 n0 HQ;obtain⟨pl,o0⟩:=J ((aH ls ns).2.2);rw[<-o0];have q0:=Z o0;clear o0
 go_wp2_with fail
 refine(B0.out).mono ?_;rintro e w5 ⟨rfl,c0⟩;have C0:Y (D w w5):=g0.trans (c0.mono g0.size);have u0:M w5 Q 0 (A lb ls.length ld):=cT c0 (by omega) t0;have u1:M w5 Q 1 (A nb ns.length nd):=cT c0 (by omega) t1;have D0:Y (E 9 #[.agg #[A lb ls.length ld,A nb ns.length nd]] w5 (Rw (.tuple #[.string ⟨(aH ls ns).1.toArray⟩,.bool false,I pl]) w5)):=by
  have:=zd3 ls ns _ _ w5.heap.size w5 lE ((l0.1.below c0).mono c0.size) ((l0.2.below c0).mono c0.size);rw[r0.out,<-q0.out]at this;exact this
 clear c0 B0 s0 s1 t0 t1
 go_wp2_with fail
 refine(D0.out).mono ?_;rintro e w6 ⟨rfl,E0⟩;have H0:Y (D w w6):=C0.trans (E0.mono C0.size);clear E0 D0 u0 u1;go_wp2
 go_ret2
 exact⟨rfl,H0⟩
section
variable{Pb Lq:Nat}{rb:Nat->Nat}{aB hv bv nv:Value}{p:aY}{x:List ar}
def gAcc(one:Bool)(Wq:Nat->Bool):Nat->Bool
 |0=>one
 |i+1=>gAcc one Wq i && Wq i
def ykw{k:Int}(h:0<=k/\k<=7):decide (cC k=2)=(k==7):=by
 unfold cC
 by_cases h1:k<=2
 ·rw[G h1];symm;simp;omega
 by_cases h2:k<=6
 ·rw[U h1,G h2];symm;simp;omega
 rw[U h1,U h2];symm;simp;omega
def zpv(n:ar)(i:Nat):Int:=if i=0 then n.b else n.c
def zyy(p:aY)(x:List ar)(lvl lA:Nat)(q:Int):Bool:=(Fl.nd x q).kind==7 && p.leq lvl (Fl.nd x q).ak.toNat && p.leq lA (Fl.nd x q).ak.toNat
def zk3{n:ar}{q:Int}{lvl lA:Nat}{one:Bool}(h1:decide (cC (Fl.nd x n.a).kind=0)=one)(h2:(Fl.nd x n.a).ak=(lA:Int))(h3:n.ak=(lvl:Int))(hq:POk p x q):dw p x n q=(one && zyy p x lvl lA q):=by
 unfold dw zyy aO;rw[h1,h2,h3,ykw hq.2.2.2.2];simp only[Qm]
 cases one<;>cases (Fl.nd x q).kind==7<;>cases p.leq lvl (Fl.nd x q).ak.toNat<;>cases p.leq lA (Fl.nd x q).ak.toNat<;>rfl
def zo0{m:Nat}(h:zz6 w Pb Lq rb aB hv bv lv nv p ls x)(k:Nat)(hk:k<x.length)(ho:zt1 p x (nth x k))(N0:∀y∈vars p ls,0<=y/\y<p.n)(O0:∀y∈p.ai,y<p.n)(i0:(nth x k).ak<p.n)(P0:(nth x k).a<2147483648)(E0:(nth x k).kind=5/\m=2\/(nth x k).kind=6/\m=1):
  E 38 #[F Pb,.agg #[lv,nv],I k] w (Rw (.bool (follows p ls x (nth x k))) w):=by
 obtain⟨b,off,cap,lvl,la,ln,lcp,lc,hf⟩:=h.fw k hk ho.lv i0;obtain⟨rfl,rfl,hz,⟨q0,h0,j1⟩,⟨hbz,c0,c1,c2,c3,c4,c5,Q0⟩,r0,R0,F0⟩:=hf;have p0:=h.p0;have p1:=h.p1;have q1:=h.lq.c lvl q0
 have k1:(p.n:Int)<=6:=by have:=h.n6;omega
 have l1:(k:Int)<(x.length:Int):=by omega
 rw[<-h0]at c1;have S0:=F0 lvl q0;obtain⟨G0,l0⟩:=ho.k5 (by omega);obtain⟨Qz,lA,lnA,lcA,eA,hA,r1,eNA,eLA,x1,T0,⟨-,d0,d1,d2,d3,d4,d5,-⟩,dq,dr,dz⟩:=h.cd r0 G0;obtain⟨one,h1⟩:∃v,v=decide ((nth x Qz).kind<=2):=⟨_,rfl⟩;have HE:Y (follows p ls x (nth x k)=gAcc one (λi=>zyy p x lvl lA (zpv (nth x k) i)) m):=by
  show _=_;have g1:decide (cC (Fl.nd x (nth x k).a).kind=0)=one:=(by rw[eNA,zrx,h1]);have g2:(Fl.nd x (nth x k).a).ak=(lA:Int):=(by rw[eNA,eLA]);unfold follows bP;rw[decide_eq_true i0];rcases E0 with⟨e0,rfl⟩|⟨e0,rfl⟩
  ·rw[U (by omega),U (by omega),U (by omega),U (by omega),U (by omega),G e0,zk3 g1 g2 h0.symm l0,zk3 g1 g2 h0.symm (ho.k6 e0)]
   show _=(one && zyy p x lvl lA (nth x k).b && zyy p x lvl lA (nth x k).c)
   cases one<;>cases zyy p x lvl lA (nth x k).b<;>cases zyy p x lvl lA (nth x k).c<;>rfl
  rw[U (by omega),U (by omega),U (by omega),U (by omega),U (by omega),U (by omega),G e0,zk3 g1 g2 h0.symm l0];show _=(one && zyy p x lvl lA (nth x k).b);simp
 obtain⟨Wq,hG⟩:=J (λi=>zyy p x lvl lA (zpv (nth x k) i));obtain⟨bk,s0⟩:=J (zpv (nth x k))
 have HN:Y (∀i,i<m->∃(j l:Nat) (ln:Option Addr) (lc:Nat) (nj:ar) (v1 v2:Bool),bk i=(j:Int)/\(j:Int)<(x.length:Int)/\l<p.n/\At w [((O b (off+j*6)),I nj.kind),((O b (off+j*6+1)),I (l:Int)),((O b (off+j*6+2)),I nj.a),((O b (off+j*6+3)),I nj.b),((O b (off+j*6+4)),I nj.c),((O b (off+j*6+5)),A ln nj.ae.length lc),((O (rb lvl) l),.bool v1),((O (rb lA) l),.bool v2)]/\Wq i=(nj.kind==7 && v1 && v2)):=λi hi=>by
  rw[s0,hG];have hp:POk p x (zpv (nth x k) i):=by
   unfold zpv
   split
   ·exact l0
   exact ho.k6 (by omega)
  obtain⟨j,l,ln,lc,e1,e2,e3,e4,e5,e6,e7,⟨hb,t0,t1,t2,t3,t4,t5,-⟩,-,-,-⟩:=h.cd r0 hp;rw[e5]at t1;refine⟨j,l,ln,lc,nth x j,p.leq lvl l,p.leq lA l,e1,e3,e6,⟨⟨hb,t0⟩,⟨hb,t1⟩,⟨hb,t2⟩,⟨hb,t3⟩,⟨hb,t4⟩,⟨hb,t5⟩,⟨S0,h.lq.r _ _ q0 e6⟩,⟨dz,dr _ e6⟩,trivial⟩,?_⟩;show zyy _ _ _ _ _=_;unfold zyy;rw[e4,e5,Qm]
 rw[eA]at c2;have HL:=Z h0;have HA:=Z eA.symm;rw[eLA]at d1;obtain⟨aX,j0⟩:=J (follows p ls x (nth x k));rw[<-j0]at HE⊢
 have u0:Y (bk 0=(nth x k).b/\bk 1=(nth x k).c):=by rw[s0];exact⟨rfl,rfl⟩
 rw[<-hG]at HE;clear r0 h ho N0 O0 i0 Q0 F0 h0 j0 P0 G0 l0 eA eNA eLA dr hG s0;generalize nth x k=n at*;generalize nth x Qz=nA at*;rcases E0 with⟨e0,hm⟩|⟨e0,hm⟩
 all_goals
  have HK:=Z e0;have HM:=Z hm;rw[e0]at c0;clear e0 hm
  go_enter func38,ntmps38
  go_wp2_with fail
  refine Zf [] (by kernel_rfl) (by kernel_rfl) rfl (λops hG=>?_);clear hG
  iterate 7 still_step
  refine wpStill_nil ?_
  go_wp2_with fail
  refine Zf [] (by kernel_rfl) (by kernel_rfl) rfl (λops hG=>?_);clear hG
  iterate 9 still_step
  refine wpStill_nil ?_
  go_upto_region 29 with fail
  first
   |obtain⟨W0,k0⟩:=J (((w.alloc (.cells #[A la ls.length lcp,Sq b off x.length cap] 30)).alloc (.cells #[I 5,I (lvl:Int),I (Qz:Int),I n.b,I n.c,A ln n.ae.length lc] 73)).drew.drew)
    rw[<-k0]
   |obtain⟨W0,k0⟩:=J (((w.alloc (.cells #[A la ls.length lcp,Sq b off x.length cap] 30)).alloc (.cells #[I 6,I (lvl:Int),I (Qz:Int),I n.b,I n.c,A ln n.ae.length lc] 73)).drew.drew)
    rw[<-k0]
  have HF:Y (zyz w W0 (A la ls.length lcp) (Sq b off x.length cap) (A ln n.ae.length lc) n):=by
   have h9:=zyz.new w (A la ls.length lcp) (Sq b off x.length cap) (A ln n.ae.length lc) n;rw[HK.out,<-HL.out,<-HA.out,<-k0]at h9;exact h9
  have H0:Y (At W0 [((O Pb 1),Sq Lq 0 p.n p.n),((O Lq lA),Sq (rb lA) 0 p.n p.n),((O w.heap.size 1),Sq b off x.length cap),((O (w.heap.size+1) 0),I _),((O (w.heap.size+1) 3),I n.b),((O (w.heap.size+1) 4),I n.c)]):=
   ⟨⟨by have:=HF.sz.1;show Pb<_;omega,cT HF.be hz p1⟩,⟨by have:=HF.sz.1;show Lq<_;omega,cT HF.be R0 dq⟩,⟨HF.sz.1,HF.s1⟩,⟨HF.sz.2,HK.out ▸ HF.t0⟩,⟨HF.sz.2,HF.t3⟩,⟨HF.sz.2,HF.t4⟩,trivial⟩
  have f0:=HF.be;have D0x:=cT f0 hbz d0;have D1x:=cT f0 hbz d1;have D2x:=cT f0 hbz d2;have D3x:=cT f0 hbz d3;have D4x:=cT f0 hbz d4;have D5x:=cT f0 hbz d5;obtain⟨s1,T2⟩:_/\_:=⟨HF.s1,HF.t2⟩;rw[<-HA.out]at T2;have U0:=HF.sz.1;have V0:=HF.sz.2;have v0:b<W0.heap.size:=(by omega);have x0:=Z f0;clear p0 p1 c0 c1 c2 c3 c4 c5 q1 k0 d0 d1 d2 d3 d4 d5 dq f0 HF hbz HA HL HK;have y0:=Z (H0.node nA.kind lA nA.a nA.b nA.c (A lnA nA.ae.length lcA) 73 W0.heap.size rfl);have z0:Y (∀o1,D w (W0.alloc o1)):=λo1=>x0.alloc x0.size _;obtain⟨Jb,hM⟩:=J (W0.heap.size)
  go_wp2_with fail
  rw[<-hM]at y0⊢;refine(zx8 _ _ _ _ _ _ _ _ _).mono ?_;rintro e w1 ⟨rfl,o0⟩;have A0:=Z (y0.below o0);have B0:=Z ((z0 _).trans (o0.mono (z0 _).size));rw[<-h1];obtain⟨-,-,-,-,-,-,-,-,-,⟨-,v4⟩,⟨-,v5⟩,⟨-,v6⟩,-⟩:=A0.out;have X0:w.heap.size+1<w1.heap.size:=(by have:=o0.size;rw[size_alloc]at this;omega);clear h1 o0 D0x D1x D2x D3x D4x D5x s1 T2 y0 z0 H0 x0 hM U0 V0 v0
  go_wp2_with fail
  obtain⟨W3,g0⟩:=J (w1.alloc (.cells #[I n.b,I n.c] 3));obtain⟨N,hN⟩:=J (w1.heap.size);have C0:Y (D w1 W3):=(by show Below _ _ _;rw[g0];exact bA);have I0:=Z (B0.trans (C0.mono B0.size));have J0:Y (At W3 [((O Jb 1),I (lA:Int)),((O Pb 1),Sq Lq 0 p.n p.n),((O Lq lA),Sq (rb lA) 0 p.n p.n),((O w.heap.size 1),Sq b off x.length cap),((O N 0),I (bk 0)),((O N 1),I (bk 1))]):=by
   obtain⟨-,u1,-,-,-,-,u2,u3,u4,-⟩:=A0.below C0.out;refine⟨u1,u2,u3,u4,⟨by rw[g0,hN];simp,by rw[g0,hN,u0.1];simp⟩,⟨by rw[g0,hN];simp,by rw[g0,hN,u0.2];simp⟩,trivial⟩
  rw[<-g0,<-hN];clear g0 hN C0 B0 A0 v4 v5 v6 X0 u0
  go_loopw [18,20] (λo i wr=>D w wr/\At wr [((O Jb 1),I (lA:Int)),((O Pb 1),Sq Lq 0 p.n p.n),((O Lq lA),Sq (rb lA) 0 p.n p.n),((O w.heap.size 1),Sq b off x.length cap),((O N 0),I (bk 0)),((O N 1),I (bk 1))]/\∃j:Nat,j<=m/\i=I j/\o=.bool (gAcc one Wq j)) (λ_ i _=>m - (intOf i).toNat)
  case atStart=>exact⟨I0,J0,0,by omega,rfl,rfl⟩
  case round=>
   obtain⟨hB,K0,i,hi,rfl,rfl⟩:=hrel;have HB:=Z hB;have D0:=Z K0;clear hB K0 I0 J0
   by_cases i0:i<m
   ·obtain⟨j,l,lnj,lcj,nj,v1,v2,hq,y1,hl,L0,hg⟩:=HN i i0
    have HG:Y (gAcc one Wq (i+1)=(gAcc one Wq i && (nj.kind==7 && v1 && v2))):=(by show (_ && _)=_;rw[hg]);obtain⟨⟨m0,m1⟩,⟨b2,m2⟩,⟨b3,m3⟩,⟨m5,m4⟩,⟨n0,n1⟩,⟨-,n2⟩,-⟩:=D0.out;have z1:(l:Int)<(p.n:Int):=(by omega);have M0:=HB.out;obtain⟨⟨b0,a0⟩,⟨-,a1⟩,⟨-,a2⟩,⟨-,a3⟩,⟨-,a4⟩,⟨-,a5⟩,⟨b6,a6⟩,⟨b7,a7⟩,-⟩:=L0.below M0;have cq:wr.cell? (O N i)=some (I (j:Int)):=by
     rw[<-hq];rcases(show i=0\/i=1 by have:=HM.out;omega) with rfl|rfl
     ·exact n1
     exact n2
    have hm:=HM.out
    first
     |have Y0:(i:Int)<1:=by omega
     |have Y0:(i:Int)<2:=by omega
    clear hm;have hM:=m0;have Z0:=m5;have A1:=b2;have b1:=n0;have hbz:=b0;have B1:=b3;have C1:=b6;have D1:=b7;generalize gAcc one Wq i=oi at*;clear hq hg L0 n1 n2 M0 m0 m5 b2 b3 b6 b7 n0 b0;have HS:Y (∀W,D wr W->At W [((O w.heap.size 1),Sq b off x.length cap),((O N i),I (j:Int)),((O b (off+j*6)),I nj.kind),((O b (off+j*6+1)),I (l:Int)),((O b (off+j*6+2)),I nj.a),((O b (off+j*6+3)),I nj.b),((O b (off+j*6+4)),I nj.c),((O b (off+j*6+5)),A lnj nj.ae.length lcj)]):=λW hW=>At.below hW ⟨⟨Z0,m4⟩,⟨b1,cq⟩,⟨hbz,a0⟩,⟨hbz,a1⟩,⟨hbz,a2⟩,⟨hbz,a3⟩,⟨hbz,a4⟩,⟨hbz,a5⟩,trivial⟩;have f1:Y (∀o,D w (wr.alloc o).drew.drew):=λo=>(HB.alloc HB.size _).drew.drew;have i1:Y (∀o,At (wr.alloc o).drew.drew _):=λo=>D0.below (((Below.refl _ _).alloc lE o).drew.drew)
    go_wp2_with fail
    refine Zk HS (dA) [8] [9] [] (by kernel_rfl) (λ_ _ _ _ h=>h) (λops hG=>?_);clear hG
    iterate 8 refine Zv rfl (by rintro _ ⟨⟨-,_⟩,⟨-,_⟩,⟨-,_⟩,⟨-,_⟩,⟨-,_⟩,⟨-,_⟩,⟨-,_⟩,⟨-,_⟩,-⟩;go_simp<;>rfl) (by go_simp<;>rfl) ?_
    refine Zm ?_
    go_wp2_with fail
    refine⟨HS _ (bA).drew,?_⟩;refine Xx ?_
    go_wp2_with fail
    refine Zs ?_
    go_wp2_with fail
    have hc:oi=false\/(oi=true/\(nj.kind==7)=false)\/(oi=true/\(nj.kind==7)=true/\v1=false)\/(oi=true/\(nj.kind==7)=true/\v1=true):=by
     cases oi<;>cases nj.kind==7<;>cases v1<;>simp
    clear HB D0 cq a0 a1 a2 a3 a4 a5 m4 HS;rcases hc with rfl|⟨rfl,h7⟩|⟨rfl,h7,rfl⟩|⟨rfl,h7,rfl⟩
    all_goals
     refine Zf [(1,221),(6,226),(13,233)] (by kernel_rfl) (by kernel_rfl) rfl (λops hG=>?_);have g1:=hG (1,221) (by simp);have g2:=hG (6,226) (by simp);have g3:=hG (13,233) (by simp);simp only at g1 g2 g3;clear hG
     iterate 28 still_step
     refine wpStill_nil ?_;go_wp2
     go_roundw
     case rel=>exact⟨f1 _,i1 _,i+1,by omega,by go_num,congrArg Value.bool (by rw[HG.out];first|simp;done|simp[h7])⟩
     case measure=>simp[intOf];omega
   obtain rfl:i=m:=by omega
   obtain rfl:=HM.out;rw[<-HE.out];go_wp2;go_ret;exact⟨rfl,HB⟩
end
end Go.Proofs.YtgmbnnpnefniiaaGreatDoor
