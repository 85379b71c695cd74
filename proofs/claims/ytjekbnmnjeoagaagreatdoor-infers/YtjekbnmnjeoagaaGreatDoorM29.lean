import Derived.Test.YtjekbnmnjeoagaaGreatDoorM18
set_option linter.all false
set_option maxRecDepth 100000
set_option maxHeartbeats 40000000
namespace Go.Proofs.YtjekbnmnjeoagaaGreatDoor
open Go.RowKit Go.Proofs.Tryz
def zs1(x:Int)(w:World):(convert 44 9 (.slice (some (Aq w.heap.size 0)) 1 1)).run prog (w.alloc (.cells #[.int .u8 x] 5))=.ok (.string ⟨#[UInt8.ofNat x.toNat]⟩) (w.alloc (.cells #[.int .u8 x] 5)):=by
 rw[run_convert_bytes_string _ _ _ _ _ _ _ underlying44 underlying5 underlying9];rw[run_bytesToString _ _ _ _ [x] (by simp[loadCells,loadCellsFrom,Addr.add])];rfl
def yr1(v:Nat)(t:List UInt8):(⟨#[UInt8.ofNat (v % 128)+128]⟩:ByteArray)++⟨t.toArray⟩=⟨(UInt8.ofNat (v % 128+128)::t).toArray⟩:=by
 have h:UInt8.ofNat (v % 128)+128=UInt8.ofNat (v % 128+128):=by rw[UInt8.ofNat_add];rfl
 rw[h];exact ByteArray.mk_append_mk [UInt8.ofNat (v % 128+128)] t
def ze4(v:Nat)(w:World)(hv:v<128):Cq 33 #[Iq v] w λe w'=>e=.returned (.string ⟨#[UInt8.ofNat v]⟩)/\Bq w w':=by
 have a0:=zs1 v w
 go_enter func33,ntmps33
 go_wp2;go_ret;exact⟨rfl,bA⟩
def yr2(v:Nat)(t:List UInt8)(w:World)(hv:¬v<128)(hm:v<2147483648)(ht:t.length<=100)
  (H:Hid (∀w,Cq 33 #[Iq ((v:Int) / 128)] w λe w'=>e=.returned (.string ⟨t.toArray⟩)/\Bq w w')):
  Cq 33 #[Iq v] w λe w'=>e=.returned (.string ⟨(UInt8.ofNat (v % 128+128)::t).toArray⟩)/\Bq w w':=by
 have a0:=λw=>zs1 ((v:Int) % 128+128) w
 go_enter func33,ntmps33
 go_wp2_with fail
 refine(H.out _).mono ?_;rintro e w1 ⟨rfl,hb⟩;have b0:=a0 w1;clear a0
 have c0:((⟨t.toArray⟩:ByteArray).size:Int)<=100:=by show ((t.toArray.size:Nat):Int)<=100;simp;omega
 go_wp2;go_ret;exact⟨zrv (yr1 v t),hb.trans ((Below.refl _ _).alloc hb.size _)⟩
def yr3(f:Nat)(hf:f<=20):∀(v:Nat) (w:World),v<128 ^ (f+1)->v<2147483648->Cq 33 #[Iq v] w λe w'=>e=.returned (.string ⟨(Fl.codedF f v).toArray⟩)/\Bq w w':=by
 induction f with
 |zero=>intro v w hv _;exact ze4 v w (by simpa using hv)
 |succ f ih=>
  intro v w hv hm
  by_cases a0:v<128
  ·have:=ze4 v w a0
   simp only[Fl.codedF,if_pos a0];exact this
  simp only[Fl.codedF,if_neg a0];have hd:((v:Int) / 128)=((v / 128:Nat):Int):=(by omega);refine yr2 v _ w a0 hm (by have:=Fl.codedF_len f (v / 128);omega) ?_;intro w2;rw[hd];exact ih (by omega) (v / 128) w2 (by rw[Nat.pow_succ]at hv;omega) (by omega)
def yn7(v:Nat)(w:World)(hm:v<2147483648):Cq 33 #[Iq v] w λe w'=>e=.returned (.string ⟨(Fl.coded v).toArray⟩)/\Bq w w':=
 yr3 9 (by decide) v w (Qj hm (by decide)) hm
def Ut(v:Int)(w:World)(h0:0<=v)(h1:v<2147483648):Cq 33 #[Iq v] w λe w'=>e=.returned (.string ⟨(Fl.coded v.toNat).toArray⟩)/\Bq w w':=by
 obtain⟨n,rfl⟩:=Int.eq_ofNat_of_zero_le h0;exact yn7 n w (by omega)
def yn8(k l a b c F:Int)(n:Nat)(ao:Option Addr)(cap:Nat)(w:World)(t0:0<=k)(u0:k<=7)(k0:0<=l)(l0:l<2147483648)(v0:0<=F)(x0:F<=3)
  (ha:0<=a/\a<2147483648) (hb:0<=b/\b<2147483648) (hc:0<=c/\c<2147483648)
  (H:Hid (∀w,Cq 66 #[Iq k] w λe w'=>e=.returned (Iq F)/\w'=w)):
  Cq 34 #[.agg #[Iq k,Iq l,Iq a,Iq b,Iq c,.slice ao n cap]] w
   λe w'=>e=.returned (.string ⟨(UInt8.ofNat k.toNat::(Fl.coded l.toNat++Fl.codedAll ([a,b,c].take F.toNat))).toArray⟩)/\Bq w w':=by
 obtain⟨m0,n0⟩:=ha;obtain⟨o0,p0⟩:=hb;obtain⟨q0,r0⟩:=hc;have g0:=λw=>zs1 k w
 go_enter func34,ntmps34
 go_wp2_with fail
 refine(Ut l _ k0 l0).mono ?_;rintro e w1 ⟨rfl,d0⟩
 have y0:w.heap.size<w1.heap.size:=by have:=d0.size;simp at this;omega
 obtain⟨e0,f0⟩:=bcell d0;have z0:=g0 w1;clear g0;have hlen:=Fl.coded_len l.toNat;generalize hg:Fl.coded l.toNat=cl at*;have HG:=Zz hg;clear hg
 go_wp2_with (go_at_call 66;refine(H.out _).mono ?_;rintro e w' ⟨rfl,rfl⟩)
 go_loopw [4,8] (λt i wr=>∃j:Nat,(j:Int)<=F/\i=Iq j/\t=.string ⟨(UInt8.ofNat k.toNat::(cl++Fl.codedAll ([a,b,c].take j))).toArray⟩/\Below ((w1.alloc (.cells #[.int .u8 k] 5)).alloc (.cells #[Iq a,Iq b,Iq c] 3)).heap.size ((w1.alloc (.cells #[.int .u8 k] 5)).alloc (.cells #[Iq a,Iq b,Iq c] 3)) wr) (λ_ i _=>F.toNat - (intOf i).toNat)
 case atStart=>exact⟨0,by omega,rfl,by rw[show (⟨#[UInt8.ofNat k.toNat]⟩:ByteArray)=⟨[UInt8.ofNat k.toNat].toArray⟩ from rfl,Vf];simp[Fl.codedAll],Below.refl _ _⟩
 case round=>
  obtain⟨j,hj,rfl,rfl,b0⟩:=hrel;have s0:=b0.size;simp at s0
  by_cases A0:(j:Int)<F
  ·rcases(show j=0\/j=1\/j=2 from by omega) with rfl|rfl|rfl
   ·have a0:wr.cell? (Aq (w1.heap.size+1) 0)=some (Iq a):=(b0.cell (p:=(Aq (w1.heap.size+1) 0)) (by simp)).trans (by simp)
    have hp:=Fl.codedAll_len ([a,b,c].take 0);have h0:([a,b,c].take 0).length<=3:=(by simp);generalize hq:Fl.codedAll ([a,b,c].take 0)=pre at*;have HP:=Zz hq;clear hq;have i0:=Fl.coded_len a.toNat
    go_wp2_with fail
    refine(Ut a _ m0 n0).mono ?_;rintro e w2 ⟨rfl,c0⟩;have HB:Hid (Below ((w1.alloc (.cells #[.int .u8 k] 5)).alloc (.cells #[Iq a,Iq b,Iq c] 3)).heap.size ((w1.alloc (.cells #[.int .u8 k] 5)).alloc (.cells #[Iq a,Iq b,Iq c] 3)) w2):=b0.trans (c0.mono (by simp;omega));generalize hq:Fl.coded a.toNat=cx at*;have HX:=Zz hq;clear hq b0 c0 a0 e0 f0;go_wp2
    go_roundw
    case rel=>exact⟨1,by omega,by go_num,by rw[Vf,Fl.take_snocI _ 0 (by simp),Fl.codedAll_snoc,HP.out,<-HX.out];simp,HB.out⟩
    case measure=>simp[intOf];omega
   ·have a0:wr.cell? (Aq (w1.heap.size+1) 1)=some (Iq b):=(b0.cell (p:=(Aq (w1.heap.size+1) 1)) (by simp)).trans (by simp)
    have hp:=Fl.codedAll_len ([a,b,c].take 1);have h0:([a,b,c].take 1).length<=3:=(by simp);generalize hq:Fl.codedAll ([a,b,c].take 1)=pre at*;have HP:=Zz hq;clear hq;have i0:=Fl.coded_len b.toNat
    go_wp2_with fail
    refine(Ut b _ o0 p0).mono ?_;rintro e w2 ⟨rfl,c0⟩;have HB:Hid (Below ((w1.alloc (.cells #[.int .u8 k] 5)).alloc (.cells #[Iq a,Iq b,Iq c] 3)).heap.size ((w1.alloc (.cells #[.int .u8 k] 5)).alloc (.cells #[Iq a,Iq b,Iq c] 3)) w2):=b0.trans (c0.mono (by simp;omega));generalize hq:Fl.coded b.toNat=cx at*;have HX:=Zz hq;clear hq b0 c0 a0 e0 f0;go_wp2
    go_roundw
    case rel=>exact⟨2,by omega,by go_num,by rw[Vf,Fl.take_snocI _ 1 (by simp),Fl.codedAll_snoc,HP.out,<-HX.out];simp,HB.out⟩
    case measure=>simp[intOf];omega
   have a0:wr.cell? (Aq (w1.heap.size+1) 2)=some (Iq c):=(b0.cell (p:=(Aq (w1.heap.size+1) 2)) (by simp)).trans (by simp);have hp:=Fl.codedAll_len ([a,b,c].take 2);have h0:([a,b,c].take 2).length<=3:=(by simp);generalize hq:Fl.codedAll ([a,b,c].take 2)=pre at*;have HP:=Zz hq;clear hq;have i0:=Fl.coded_len c.toNat
   go_wp2_with fail
   refine(Ut c _ q0 r0).mono ?_;rintro e w2 ⟨rfl,c0⟩;have HB:Hid (Below ((w1.alloc (.cells #[.int .u8 k] 5)).alloc (.cells #[Iq a,Iq b,Iq c] 3)).heap.size ((w1.alloc (.cells #[.int .u8 k] 5)).alloc (.cells #[Iq a,Iq b,Iq c] 3)) w2):=b0.trans (c0.mono (by simp;omega));generalize hq:Fl.coded c.toNat=cx at*;have HX:=Zz hq;clear hq b0 c0 a0 e0 f0;go_wp2
   go_roundw
   case rel=>exact⟨3,by omega,by go_num,by rw[Vf,Fl.take_snocI _ 2 (by simp),Fl.codedAll_snoc,HP.out,<-HX.out];simp,HB.out⟩
   case measure=>simp[intOf];omega
  have j0:F.toNat=j:=(by omega);have HJ:=Zz j0;clear j0;go_wp2;go_ret;exact⟨zrv (by rw[HJ.out,HG.out]),((bA).trans (d0.mono (by simp))).trans ((((Below.refl _ _).alloc (by omega) _).alloc (by simp;omega) _).trans (b0.mono (by simp;omega)))⟩
def yn9(k l a b c:Int)(xs:List Int)(n:Nat)(ao:Option Addr)(cap:Nat)(w:World)(C0:0<=k)(D0:k<=7)(p0:0<=l)(q0:l<2147483648)(hn:n<=16)(g0:xs.length=n)(hall:∀x∈xs,0<=x/\x<2147483648)
  (H:Hid (∀w,Cq 66 #[Iq k] w λe w'=>e=.returned (Iq (-1))/\w'=w))
  (h0:xs≠[]->∃p q,ao=some (Aq p q)/\p<w.heap.size/\∀i,i<n->w.cell? (Aq p (q+i))=some (Iq (xs.getD i 0))):
  Cq 34 #[.agg #[Iq k,Iq l,Iq a,Iq b,Iq c,.slice ao n cap]] w
   λe w'=>e=.returned (.string ⟨(UInt8.ofNat k.toNat::(Fl.coded l.toNat++(Fl.coded n++Fl.codedAll xs))).toArray⟩)/\Bq w w':=by
 have HX:=Zz h0;have c0:=Zz g0;have HA:=Zz hall;clear h0 g0 hall;have i0:=λw=>zs1 k w
 go_enter func34,ntmps34
 go_wp2_with fail
 refine(Ut l _ p0 q0).mono ?_;rintro e w1 ⟨rfl,a0⟩
 have E0:w.heap.size<w1.heap.size:=by have:=a0.size;simp at this;omega
 obtain⟨j0,r0⟩:=bcell a0;have s0:=i0 w1;clear i0;have hlen:=Fl.coded_len l.toNat;generalize hg:Fl.coded l.toNat=cl at*;have HG:=Zz hg;clear hg
 have t0:(0:Int)<=(n:Int):=by omega
 have u0:(n:Int)<2147483648:=by omega
 have k0:=Fl.coded_len n;generalize hg:Fl.coded n=cn at*;have l0:=Zz hg;clear hg
 go_wp2_with (first|(go_at_call 66;refine(H.out _).mono ?_;rintro e w' ⟨rfl,rfl⟩)|fail)
 refine(Ut n _ t0 u0).mono ?_;rintro e w2 ⟨rfl,b0⟩;rw[show ((n:Int)).toNat=n from by omega,l0.out]
 have F0:w1.heap.size+1<w2.heap.size:=by have:=b0.size;simp at this;omega
 have f0:w2.cell? (Aq w.heap.size 5)=some (.slice ao n cap):=by
  rw[b0.cell (p:=(Aq w.heap.size 5)) (by simp;omega),Qf _ _ _ (by simp;omega),Qf _ _ _ (by simp;omega),j0 _ _ (by simp)];simp
 have v0:Hid (Bq w w2):=((bA).trans (a0.mono (by simp))).trans ((((Below.refl _ _).alloc (by omega) _).alloc (by simp;omega) _).trans (b0.mono (by simp;omega)));clear a0 b0 j0 r0 s0;go_wp2
 go_loopw [4,8] (λt i wr=>∃j:Nat,j<=n/\i=Iq j/\t=.string ⟨(UInt8.ofNat k.toNat::(cl++(cn++Fl.codedAll (xs.take j)))).toArray⟩/\Bq w wr) (λ_ i _=>n - (intOf i).toNat)
 case atStart=>exact⟨0,by omega,rfl,by rw[show (⟨#[UInt8.ofNat k.toNat]⟩:ByteArray)=⟨[UInt8.ofNat k.toNat].toArray⟩ from rfl,Vf,Vf];simp[Fl.codedAll],v0.out⟩
 case round=>
  obtain⟨j,hj,rfl,rfl,d0⟩:=hrel;have G0:=d0.size
  by_cases x0:j<n
  ·obtain⟨p,q,rfl,hp,hc⟩:=HX.out (by intro h;have:=c0.out;rw[h]at this;simp at this;omega)
   have m0:wr.cell? (Aq p (q+j))=some (Iq (xs.getD j 0)):=(d0.cell (p:=(Aq p (q+j))) hp).trans (hc j x0);have n0:=HA.out _ (Ur (xs:=xs) (j:=j) (by have:=c0.out;omega));obtain⟨x,hx⟩:=nmE (xs.getD j 0);rw[<-hx]at m0 n0;have y0:=Zz hx;obtain⟨z0,A0⟩:=n0;have H0:=Fl.codedAll_len (xs.take j);have B0:(xs.take j).length<=16:=(by have:=c0.out;simp;omega);generalize hq:Fl.codedAll (xs.take j)=pre at*;have HP:=Zz hq;have I0:=Fl.coded_len x.toNat;clear hq hx hc HX f0;have J0:(j:Int)<(n:Int):=(by omega)
   go_wp2_with fail
   refine(Ut x _ z0 A0).mono ?_;rintro e w3 ⟨rfl,o0⟩;have HB:Hid (Bq w w3):=d0.trans (o0.mono (by omega));generalize hq:Fl.coded x.toNat=cx at*;have HC:=Zz hq;clear hq d0 o0 m0;go_wp2
   go_roundw
   case rel=>exact⟨j+1,by omega,by go_num,by rw[Vf,Fl.take_snocI _ j (by have:=c0.out;omega),Fl.codedAll_snoc,HP.out,<-y0.out,HC.out];simp,HB.out⟩
   case measure=>simp[intOf];omega
  have e0:xs.take j=xs:=List.take_of_length_le (by have:=c0.out;omega);have HJ:=Zz e0;clear e0;go_wp2;go_ret;exact⟨zrv (by rw[HJ.out,HG.out,l0.out]),d0⟩
def yk7(x:Fl.Node)(lv:Value)(B:Nat)(w:World)(hB:B<=w.heap.size)(hx:Zw B w lv x.list)(hs:Fl.sound x=true):
  Cq 34 #[Ju x lv] w λe w'=>e=.returned (.string ⟨(Fl.nodeBytes x).toArray⟩)/\Bq w w':=by
 obtain⟨k,l,a,b,c,xs⟩:=x;unfold Ju;simp only at hx⊢;simp only[Fl.sound,Bool.and_eq_true,decide_eq_true_eq]at hs;obtain⟨s1,s2,s3,s4,s5,s6,s7,s8⟩:=hs;have hk:=zm2 s1;have hl:=zn7.1 s2;obtain⟨ao,cap,rfl,_,hm,hc⟩:=hx
 by_cases hF:Fl.fields k<0
 ·have b0:=yvz hF s1
  have H:Hid (∀w,Cq 66 #[Iq k] w λe w'=>e=.returned (Iq (-1))/\w'=w):=λw=>by have:=zry k w;rwa [b0]at this
  have he:Fl.nodeBytes ⟨k,l,a,b,c,xs⟩=UInt8.ofNat k.toNat::(Fl.coded l.toNat++(Fl.coded xs.length++Fl.codedAll xs)):=by
   simp only[Fl.nodeBytes,Fl.nodeNums,if_pos hF]
  rw[he];refine yn9 k l a b c xs xs.length ao cap w hk.1 hk.2 hl.1 hl.2 s3 rfl (λx hx=>zn7.1 (List.all_eq_true.1 s7 x hx)) H ?_;intro c0;obtain⟨p,q,ha,hp,a0⟩:=hc c0;exact⟨p,q,ha,by omega,a0⟩
 have H:Hid (∀w,Cq 66 #[Iq k] w λe w'=>e=.returned (Iq (Fl.fields k))/\w'=w):=λw=>zry k w;have he:Fl.nodeBytes ⟨k,l,a,b,c,xs⟩=UInt8.ofNat k.toNat::(Fl.coded l.toNat++Fl.codedAll ([a,b,c].take (Fl.fields k).toNat)):=by
  simp only[Fl.nodeBytes,Fl.nodeNums,if_neg hF,List.nil_append]
 rw[he];exact yn8 k l a b c _ _ ao cap w hk.1 hk.2 hl.1 hl.2 (by omega) (Fl.fields_lt k).2 (zo3 s4) (zo3 s5) (zo3 s6) H
def ret_sbi{r:List UInt8×Bool×Int}{a:ByteArray}{b:Bool}{c:Int}(h1:a=⟨r.1.toArray⟩)(h2:b=r.2.1)(h3:c=r.2.2):Ending.returned (.tuple #[.string a,.bool b,Iq c])=.returned (.tuple #[.string ⟨r.1.toArray⟩,.bool r.2.1,Iq r.2.2]):=by
 rw[h1,h2,h3]
def ynz(n m:Nat)(la na:Option Addr)(lcap ncap:Nat)(w:World)(hn:n<=9223372036854775807)(hm:m<=9223372036854775807)(h:4<n\/m=0\/200<m):
  Cq 13 #[.agg #[.slice la n lcap,.slice na m ncap]] w λe w'=>e=.returned (.tuple #[.string ⟨#[]⟩,.bool false,Iq (-1)])/\Bq w w':=by
 by_cases h1:4<n
 ·clear h
  go_enter func13,ntmps13
  go_wp2
  go_ret3
  exact⟨rfl,bA⟩
 by_cases h2:m=0
 ·have b2:((m:Int)==0)=true:=beq_iff_eq.2 (by omega)
  clear h h2
  go_enter func13,ntmps13
  go_wp2
  go_ret3
  exact⟨rfl,bA⟩
 have b2:((m:Int)==0)=false:=beq_eq_false_iff_ne.2 (by omega)
 have h3:200<m:=by omega
 clear h h2
 go_enter func13,ntmps13
 go_wp2
 go_ret3
 exact⟨rfl,bA⟩
def yk8(ls:List Int)(ns:List Fl.Node)(la na:Option Addr)(lcap ncap:Nat)(B:Nat)(w:World)(hB:B<=w.heap.size)(hl:Zw B w (.slice la ls.length lcap) ls)(hn:Yu B w (.slice na ns.length ncap) ns)
  (h1:ls.length<=4) (h2:ns.length≠0) (h3:ns.length<=200):
  Cq 13 #[.agg #[.slice la ls.length lcap,.slice na ns.length ncap]] w λe w'=>e=.returned (.tuple #[.string ⟨(Fl.encode ls ns).1.toArray⟩,.bool (Fl.encode ls ns).2.1,Iq (Fl.encode ls ns).2.2])/\Bq w w':=by
 have HL:=Zz hl;have HN:=Zz hn;have b2:((ns.length:Int)==0)=false:=beq_eq_false_iff_ne.2 (by omega)
 have H1:Hid (¬(4<ls.length\/ns.length=0\/200<ns.length)):=by intro h;omega
 have h2':0<ns.length:=by omega
 clear hl hn h2;have K0:Below B w (w.alloc (.cells #[.slice la ls.length lcap,.slice na ns.length ncap] 30)):=(Below.refl _ _).alloc hB _;have i0:Hid (Bq w (w.alloc (.cells #[.slice la ls.length lcap,.slice na ns.length ncap] 30))):=bA;clear K0
 go_enter func13,ntmps13
 go_wp2
 go_loop [5] (λi=>∃j:Nat,j<=ls.length/\i=Iq j/\∀t:Nat,t<j->Fl.inR (ls.getD t 0)=true) (λi=>ls.length - (intOf i).toNat)
 case atStart=>exact⟨0,by omega,rfl,λt ht=>by omega⟩
 case round=>
  obtain⟨j,hj,rfl,hall⟩:=hrel;have HA:=Zz hall;clear hall
  by_cases y0:j<ls.length
  ·obtain⟨b,off,rfl,z0,m0⟩:=HL.out.at y0
   have d0:b<w.heap.size:=(by omega);obtain⟨x,hx⟩:=nmE (ls.getD j 0);rw[<-hx]at m0;have n0:=Zz hx;have L0:(j:Int)<(ls.length:Int):=(by omega);clear hx
   by_cases o0:x<0\/2147483648<=x
   ·have j0:Fl.encode ls ns=([],false,-1):=by
     unfold Fl.encode;rw[if_neg H1.out,if_pos (zh0 (j:=j) y0 (by rw[<-n0.out];exact ziv o0))]
    have A0:=Zz j0;clear j0
    by_cases M0:x<0
    ·clear o0
     go_wp2
     go_ret3
     exact⟨by rw[A0.out];rfl,i0.out⟩
    have N0:2147483648<=x:=(by omega);clear o0;go_wp2
    go_ret3
    exact⟨by rw[A0.out];rfl,i0.out⟩
   have M0:¬x<0:=(by omega);have N0:¬2147483648<=x:=(by omega);clear o0;go_wp2
   go_round
   case rel=>exact⟨j+1,by omega,by go_num,λt ht=>by
    by_cases h:t<j
    ·exact HA.out t h
    have:t=j:=by omega
    subst this;rw[<-n0.out];exact zc3 (by omega)⟩
   case measure=>simp[intOf];omega
  have e0:ls.all Fl.inR=true:=zc4 (λt ht=>HA.out t (by omega));have p0:=Zz e0;clear e0 HA;have B0:Hid (Cq 32 #[.slice na ns.length ncap] (w.alloc (.cells #[.slice la ls.length lcap,.slice na ns.length ncap] 30)) λe w'=>e=.returned (Iq (Fl.shaped ns))/\Below (w.alloc (.cells #[.slice la ls.length lcap,.slice na ns.length ncap] 30)).heap.size (w.alloc (.cells #[.slice la ls.length lcap,.slice na ns.length ncap] 30)) w'):=yy2 ns _ B _ (by simp;omega) (HN.out.below ((Below.refl _ _).alloc hB _))
  go_wp2_with fail
  refine(B0.out).mono ?_;rintro e w1 ⟨rfl,f0⟩;clear B0;obtain⟨sh,g0⟩:∃sh,Fl.shaped ns=sh:=⟨_,rfl⟩;rw[g0];have l0:Bq w w1:=i0.out.trans (f0.mono (by simp))
  by_cases C0:0<=sh
  ·have b0:Fl.encode ls ns=([],false,sh):=by
    unfold Fl.encode;rw[if_neg H1.out,if_neg (by rw[p0.out];simp),g0,if_pos C0]
   have HR:=Zz b0;clear b0 g0;go_wp2
   go_ret3
   exact⟨by rw[HR.out];rfl,l0⟩
  have b0:Fl.encode ls ns=(Fl.headBytes ls ns++Fl.allBytes ns,true,-1):=by
   unfold Fl.encode;rw[if_neg H1.out,if_neg (by rw[p0.out];simp),g0,if_neg C0]
  have HR:=Zz b0;have q0:Hid (∀k,k<ns.length->Fl.sound (Fl.nth ns k)=true):=λk hk=>Fl.sound_of_shaped (by rw[g0];omega) k hk;clear b0 g0;have V0:w.heap.size<w1.heap.size:=(by have:=f0.size;simp at this;omega);have k0:w1.cell? (Aq w.heap.size 0)=some (.slice la ls.length lcap):=(by rw[f0.cell (p:=(Aq w.heap.size 0)) (by simp)];simp)
  go_wp2_with fail
  refine(Ut ls.length _ (by omega) (by omega)).mono ?_;rintro e w2 ⟨rfl,D0⟩;rw[show ((ls.length:Int)).toNat=ls.length from by omega];have hb2':Below (w.alloc (.cells #[.slice la ls.length lcap,.slice na ns.length ncap] 30)).heap.size (w.alloc (.cells #[.slice la ls.length lcap,.slice na ns.length ncap] 30)) w2:=f0.trans (D0.mono f0.size);have W0:=Fl.coded_len ls.length;generalize hq:Fl.coded ls.length=cl at*;have O0:=Zz hq;clear hq f0 D0 l0 k0;go_wp2
  go_loopw [8,9] (λt i wr=>∃j:Nat,j<=ls.length/\i=Iq j/\t=.string ⟨([70,80,49]++(cl++Fl.codedAll (ls.take j))).toArray⟩/\Below (w.alloc (.cells #[.slice la ls.length lcap,.slice na ns.length ncap] 30)).heap.size (w.alloc (.cells #[.slice la ls.length lcap,.slice na ns.length ncap] 30)) wr) (λ_ i _=>ls.length - (intOf i).toNat)
  case atStart=>exact⟨0,by omega,rfl,by rw[show (⟨#[70,80,49]⟩:ByteArray)=⟨([70,80,49]:List UInt8).toArray⟩ from rfl,Vf];simp[Fl.codedAll],hb2'⟩
  case round=>
   clear hb2';obtain⟨j,hj,rfl,rfl,a0⟩:=hrel;have r0:=a0.size;simp only[World.size_alloc]at r0;have d0:Bq w wr:=i0.out.trans (a0.mono (by simp));have k0:wr.cell? (Aq w.heap.size 0)=some (.slice la ls.length lcap):=(by rw[a0.cell (p:=(Aq w.heap.size 0)) (by simp)];simp);have k1:wr.cell? (Aq w.heap.size 1)=some (.slice na ns.length ncap):=(by rw[a0.cell (p:=(Aq w.heap.size 1)) (by simp)];simp);have X0:=Fl.codedAll_len (ls.take j);have P0:(ls.take j).length<=4:=(by simp;omega);generalize hq:Fl.codedAll (ls.take j)=pre at*;have HP:=Zz hq;clear hq
   by_cases s0:j<ls.length
   ·obtain⟨b,off,rfl,z0,m0⟩:=(HL.out.below (d0.mono hB)).at s0
    have t0:=zn7.1 (List.all_eq_true.1 p0.out _ (Ur s0));obtain⟨x,hx⟩:=nmE (ls.getD j 0);rw[<-hx]at m0 t0;have n0:=Zz hx;have E0:=Zz t0;have L0:(j:Int)<(ls.length:Int):=(by omega);clear hx t0
    go_wp2_with fail
    refine(Ut x _ E0.out.1 E0.out.2).mono ?_;rintro e w3 ⟨rfl,F0⟩;have Q0:Hid (Below _ _ w3):=a0.trans (F0.mono (by simp;omega));have Y0:=Fl.coded_len x.toNat;generalize hq:Fl.coded x.toNat=cx at*;have u0:=Zz hq;clear hq a0 F0 m0 k0 k1 d0;go_wp2
    go_roundw
    case rel=>exact⟨j+1,by omega,by go_num,by rw[Vf,Fl.take_snocI _ j s0,Fl.codedAll_snoc,HP.out,<-n0.out,u0.out];simp,Q0.out⟩
    case measure=>simp[intOf];omega
   have hall:ls.take j=ls:=List.take_of_length_le (by omega);have v0:=Zz hall;clear hall
   go_wp2_with fail
   refine(Ut ns.length _ (by omega) (by omega)).mono ?_;rintro e w4 ⟨rfl,G0⟩;rw[show ((ns.length:Int)).toNat=ns.length from by omega];have hb4':Below (w.alloc (.cells #[.slice la ls.length lcap,.slice na ns.length ncap] 30)).heap.size (w.alloc (.cells #[.slice la ls.length lcap,.slice na ns.length ncap] 30)) w4:=a0.trans (G0.mono (by simp;omega));have Z0:=Fl.coded_len ns.length;generalize hq:Fl.coded ns.length=cn at*;have R0:=Zz hq;clear hq G0 a0 d0 k0 k1;go_wp2
   go_loopw [8,10] (λt i wr=>∃j:Nat,j<=ns.length/\i=Iq j/\t=.string ⟨([70,80,49]++(cl++(pre++(cn++Fl.allBytes (ns.take j))))).toArray⟩/\Below (w.alloc (.cells #[.slice la ls.length lcap,.slice na ns.length ncap] 30)).heap.size (w.alloc (.cells #[.slice la ls.length lcap,.slice na ns.length ncap] 30)) wr) (λ_ i _=>ns.length - (intOf i).toNat)
   case atStart=>exact⟨0,by omega,rfl,by rw[Vf];simp[Fl.allBytes],hb4'⟩
   case round=>
    clear hb4';obtain⟨i,hi,rfl,rfl,a0⟩:=hrel;have r0:=a0.size;simp only[World.size_alloc]at r0;have d0:Bq w wr:=i0.out.trans (a0.mono (by simp));have k1:wr.cell? (Aq w.heap.size 1)=some (.slice na ns.length ncap):=(by rw[a0.cell (p:=(Aq w.heap.size 1)) (by simp)];simp)
    have S0:=Fl.allBytes_len (ns.take i) (λx hx=>by
     obtain⟨j,hj,rfl⟩:=Fl.mem_nth (List.mem_of_mem_take hx);exact q0.out j hj)
    have T0:(ns.take i).length<=200:=(by simp;omega);generalize hq:Fl.allBytes (ns.take i)=pre2 at*;have H0:=Zz hq;clear hq
    by_cases h0:i<ns.length
    ·obtain⟨b,off,rfl⟩:∃b off,na=some (Aq b off):=by
      obtain⟨ao',cap',hv',_,_,hx'⟩:=HN.out;obtain⟨b,off,ha,_⟩:=hx' (by intro h;rw[h]at h0;simp at h0);simp only[Value.slice.injEq]at hv';exact⟨b,off,hv'.1.trans ha⟩
     obtain⟨z0,lv,c0,c1,c2,c3,c4,c5,c6⟩:=(HN.out.below (d0.mono hB)).at h0;have I0:Hid (Cq 34 #[Ju (Fl.nth ns i) lv] wr λe w'=>e=.returned (.string ⟨(Fl.nodeBytes (Fl.nth ns i)).toArray⟩)/\Bq wr w'):=yk7 _ _ B _ (by omega) c0 (q0.out i h0);have a1:(i:Int)<(ns.length:Int):=(by omega);have b1:=Fl.nodeBytes_len (q0.out i h0);clear c0
     go_wp2_with fail
     refine(I0.out).mono ?_;rintro e w5 ⟨rfl,J0⟩;have U0:Hid (Below _ _ w5):=a0.trans (J0.mono (by simp;omega));generalize hq:Fl.nodeBytes (Fl.nth ns i)=cx at*;have u0:=Zz hq;clear hq a0 J0 c1 c2 c3 c4 c5 c6 k1 d0 I0;go_wp2
     go_roundw
     case rel=>exact⟨i+1,by omega,by go_num,by rw[Vf,Fl.take_snocN _ i h0,Fl.allBytes_snoc,H0.out,u0.out];simp,U0.out⟩
     case measure=>simp[intOf];omega
    have hall:ns.take i=ns:=List.take_of_length_le (by omega);have x0:=Zz hall;clear hall;go_wp2
    go_ret3
    refine⟨?_,d0⟩;rw[HR.out,Fl.headBytes,O0.out,R0.out];have e1:=HP.out;have e2:=H0.out;rw[v0.out]at e1;rw[x0.out]at e2;rw[e1,e2];simp
def yr4(ls:List Int)(ns:List Fl.Node)(lv nv:Value)(B:Nat)(w:World)(hB:B<=w.heap.size)(hl:Zw B w lv ls)(hn:Yu B w nv ns):
  Cq 13 #[.agg #[lv,nv]] w λe w'=>e=.returned (.tuple #[.string ⟨(Fl.encode ls ns).1.toArray⟩,.bool (Fl.encode ls ns).2.1,Iq (Fl.encode ls ns).2.2])/\Bq w w':=by
 obtain⟨la,lcap,rfl,_,hm,_⟩:=id hl;obtain⟨na,ncap,rfl,_,hm',_⟩:=id hn;unfold maxLen at hm hm'
 by_cases h:4<ls.length\/ns.length=0\/200<ns.length
 ·have he:Fl.encode ls ns=([],false,-1):=by unfold Fl.encode;rw[if_pos h]
  rw[he];exact ynz _ _ la na lcap ncap w (by omega) (by omega) h
 exact yk8 ls ns la na lcap ncap B w hB hl hn (by omega) (by omega) (by omega)
end Go.Proofs.YtjekbnmnjeoagaaGreatDoor
