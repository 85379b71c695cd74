import Derived.Test.YtaaejabalinojaaGreatDoorM04
import Derived.Test.YtaaejabalinojaaGreatDoorM38
import Derived.Laws.BitsAllLaws
set_option linter.all false
set_option maxRecDepth 100000
set_option maxHeartbeats 40000000
namespace Go.Proofs.YtaaejabalinojaaGreatDoor
open Go.RowKit Go.Proofs.Tryz
def zg7(r:(List Int×List Fl.Node)×Bool×Int)(w:World)(e:Ending)(w':World):Prop:=
 Below w.heap.size w w'/\∃la n lc na n' nc,e=.returned (.tuple #[.agg #[.slice la n lc,.slice na n' nc],.bool r.2.1,.int .i64 r.2.2])/\(r.2.1=true->Zv w'.heap.size w' (.slice la n lc) r.1.1/\Yv w'.heap.size w' (.slice na n' nc) r.1.2)
def Uo{w w':World}{la na:Option Addr}{n lc n' nc:Nat}{b:Int}{r:(List Int×List Fl.Node)×Bool×Int}{e:Ending}(hr:r=(([],[]),false,b))(he:e=.returned (.tuple #[.agg #[.slice la n lc,.slice na n' nc],.bool false,.int .i64 b]))(hb:Below w.heap.size w w'):zg7 r w e w':=by
 subst hr;exact⟨hb,la,n,lc,na,n',nc,he,λh=>by simp at h⟩
def zs6(s:ByteArray)(i:Nat)(hi:i<3)(h:∀j,j<i->Fl.headOk s.toList j=true)(hb:Fl.headOk s.toList i=false):Fl.headAt s.toList=i:=by
 unfold Fl.headAt;rcases(show i=0\/i=1\/i=2 from by omega) with rfl|rfl|rfl
 ·rw[if_pos hb]
 ·rw[if_neg (by rw[h 0 (by omega)];simp),if_pos hb]
 rw[if_neg (by rw[h 0 (by omega)];simp),if_neg (by rw[h 1 (by omega)];simp),if_pos hb]
def yq3(s:ByteArray)(h:∀j,j<3->Fl.headOk s.toList j=true):Fl.headAt s.toList=3/\3<=s.size:=by
 have h2:=h 2 (by omega)
 constructor
 ·unfold Fl.headAt;rw[if_neg (by rw[h 0 (by omega)];simp),if_neg (by rw[h 1 (by omega)];simp),if_neg (by rw[h2];simp)]
 unfold Fl.headOk at h2;rw[Bool.and_eq_true,decide_eq_true_eq]at h2;have:=zx3 s;omega
def yw9(s:ByteArray)(i:Nat)(h:¬i<s.size):Fl.headOk s.toList i=false:=by
 unfold Fl.headOk;rw[decide_eq_false (by rw[zx3];exact h)];rfl
def zn2(s:ByteArray)(i:Nat)(h:i<s.size):Fl.headOk s.toList i=(s[i]==([70,80,49]:List UInt8).getD i 0):=by
 unfold Fl.headOk;rw[decide_eq_true (by rw[zx3];exact h),zm8 s i h];rfl
def zg8{x c:UInt8}(h:((x.toNat:Int) !=(c.toNat:Int))=true):(x==c)=false:=by
 rw[bne_iff_ne]at h;rw[Qh];intro hh;exact h (by rw[hh])
def zg9{x c:UInt8}(h:((x.toNat:Int) !=(c.toNat:Int))=false):(x==c)=true:=by
 rw[beq_iff_eq];apply UInt8.toNat_inj.1;have:(x.toNat:Int)=(c.toNat:Int):=by simpa using h
 omega
def yq4(w:World)(m:Nat):(w.drewN m).heap.size=w.heap.size:=by
 induction m with
 |zero=>rfl
 |succ m ih=>exact ih
def yq5(w:World)(m:Nat)(a:Addr):(w.drewN m).cell? a=w.cell? a:=by
 induction m with
 |zero=>rfl
 |succ m ih=>exact ih
def yzw(w:World)(m:Nat)(a:Addr):(w.drewN m).frozen? a=w.frozen? a:=by
 induction m with
 |zero=>rfl
 |succ m ih=>exact ih
def zty{w1:World}{B:Nat}(v0 v1:Value){o0 o1:Value}(h0:w1.cell? ⟨B,0,none⟩=some o0)(h1:w1.cell? ⟨B,1,none⟩=some o1):
  (w1.setCell ⟨B,0,none⟩ v0).cell? ⟨B,0,none⟩=some v0/\((w1.setCell ⟨B,0,none⟩ v0).setCell ⟨B,1,none⟩ v1).cell? ⟨B,1,none⟩=some v1:=
 ⟨Ye h0,Ye (o:=o1) ((Zl (by decide)).trans h1)⟩
def Jo{B:Nat}{w w1:World}{v0 v1:Value}(h:Below B w w1):Below B w ((w1.setCell ⟨B,0,none⟩ v0).setCell ⟨B,1,none⟩ v1):=(h.setCell (Nat.le_refl _) _).setCell (Nat.le_refl _) _
def zc3{w:World}{o:Obj}{e:TypeId}{x:Value}:∀j u,[x][j]?=some u->((w.alloc o).alloc (.cells #[x] e)).cell? ((⟨w.heap.size+1,0,none⟩:Addr).add j)=some u:=by
 intro j u hj;have:=zw9 (w:=w.alloc o) (e:=e) j u hj
 rwa [World.size_alloc]at this
def Tryz.infoNode:(Tryz.prog.info? 59).map (λi=>(i.zero,i.size,i.bytes))=some (some (.agg #[.int .i64 0,.int .i64 0,.int .i64 0,.int .i64 0,.int .i64 0,.slice none 0 0]),6,64):=by kernel_rfl
def ywz(s:ByteArray)(w:World)(hs:s.size<=4611686018427387904):
  Calls prog 7 #[.string s] w λe w'=>zg7 (Fl.decode s.toList) w e w':=by
 obtain⟨i0,hi,M1,N1,O1⟩:=info_parts Tryz.infoInt;obtain⟨i1,P1,Q1,R1,S1⟩:=info_parts Tryz.infoNode
 go_enter func7,ntmps7
 go_wp2
 go_loopw [7] (λi wr=>∃j m:Nat,j<=3/\i=.int .i64 j/\(∀t,t<j->Fl.headOk s.toList t=true)/\wr=((w.alloc (.cells #[.slice none 0 0,.slice none 0 0] 33)).alloc (.cells #[.slice none 0 0,.slice none 0 0] 33)).drewN m) (λi _=>3 - (intOf i).toNat)
 case atStart=>exact⟨0,0,by omega,rfl,λt ht=>by omega,rfl⟩
 case round=>
  obtain⟨j,m,hj,rfl,hall,rfl⟩:=hrel;have HA:=Zz hall;clear hall
  by_cases I0:j<3
  ·by_cases J0:j<s.size
   ·have K0:decide ((s.size:Int)<=(j:Int))=false:=by simp;omega
    have S0:(j:Int)<(s.size:Int):=(by omega);rcases(show j=0\/j=1\/j=2 from by omega) with rfl|rfl|rfl
    ·have t1:decide ((s.size:Int)<=0)=false:=decide_eq_false (by omega)
     have m0:decide (s.size=0)=false:=decide_eq_false (by omega);have t2:decide (s.size<=0)=false:=decide_eq_false (by omega);have T0:¬s.size=0:=(by omega);have u2:0<s.size:=(by omega);have u1:(0:Int)<(s.size:Int):=(by omega);have h0:=zn2 s 0 J0;have k0:=Zz h0;clear h0 K0 S0
     go_wp2_with fail
     go_quiet (fail)
     go_wp2
     ·have l0:((s[0].toNat:Int) !=(((⟨#[70,80,49]⟩:ByteArray)[0]'(by decide)).toNat:Int))=true:=by assumption
      have t0:Fl.decode s.toList=(([],[]),false,((0:Nat):Int)):=by
       have:=zs6 s 0 I0 HA.out (k0.out.trans (zg8 l0));unfold Fl.decode;rw[if_pos (by omega),this]
      exact bodyPost_ret (v:=.tuple #[.agg #[.slice none 0 0,.slice none 0 0],.bool false,.int .i64 ((0:Nat):Int)]) (by simp[results,results7,go_sem]) rfl (Uo t0 rfl (by repeat (first|exact(bA).alloc (by simp) _|apply Below.drewN_of|(refine Below.setCell ?_ (by simp) _))))
     have l0:((s[0].toNat:Int) !=(((⟨#[70,80,49]⟩:ByteArray)[0]'(by decide)).toNat:Int))=false:=(by assumption)
     go_roundw
     case rel=>exact⟨1,_,by omega,rfl,λt ht=>by
      by_cases h:t<0
      ·exact HA.out t h
      have:t=0:=by omega
      subst this;exact k0.out.trans (zg9 l0),rfl⟩
     case measure=>simp[intOf]
    ·have t1:decide ((s.size:Int)<=1)=false:=decide_eq_false (by omega)
     have u1:(1:Int)<(s.size:Int):=(by omega);have h0:=zn2 s 1 J0;have k0:=Zz h0;clear h0 K0 S0
     go_wp2_with fail
     go_quiet (fail)
     go_wp2
     ·have l0:((s[1].toNat:Int) !=(((⟨#[70,80,49]⟩:ByteArray)[1]'(by decide)).toNat:Int))=true:=by assumption
      have t0:Fl.decode s.toList=(([],[]),false,((1:Nat):Int)):=by
       have:=zs6 s 1 I0 HA.out (k0.out.trans (zg8 l0));unfold Fl.decode;rw[if_pos (by omega),this]
      exact bodyPost_ret (v:=.tuple #[.agg #[.slice none 0 0,.slice none 0 0],.bool false,.int .i64 ((1:Nat):Int)]) (by simp[results,results7,go_sem]) rfl (Uo t0 rfl (by repeat (first|exact(bA).alloc (by simp) _|apply Below.drewN_of|(refine Below.setCell ?_ (by simp) _))))
     have l0:((s[1].toNat:Int) !=(((⟨#[70,80,49]⟩:ByteArray)[1]'(by decide)).toNat:Int))=false:=(by assumption)
     go_roundw
     case rel=>exact⟨2,_,by omega,rfl,λt ht=>by
      by_cases h:t<1
      ·exact HA.out t h
      have:t=1:=by omega
      subst this;exact k0.out.trans (zg9 l0),rfl⟩
     case measure=>simp[intOf]
    have t1:decide ((s.size:Int)<=2)=false:=decide_eq_false (by omega);have u1:(2:Int)<(s.size:Int):=(by omega);have h0:=zn2 s 2 J0;have k0:=Zz h0;clear h0 K0 S0
    go_wp2_with fail
    go_quiet (fail)
    go_wp2
    ·have l0:((s[2].toNat:Int) !=(((⟨#[70,80,49]⟩:ByteArray)[2]'(by decide)).toNat:Int))=true:=by assumption
     have t0:Fl.decode s.toList=(([],[]),false,((2:Nat):Int)):=by
      have:=zs6 s 2 I0 HA.out (k0.out.trans (zg8 l0));unfold Fl.decode;rw[if_pos (by omega),this]
     exact bodyPost_ret (v:=.tuple #[.agg #[.slice none 0 0,.slice none 0 0],.bool false,.int .i64 ((2:Nat):Int)]) (by simp[results,results7,go_sem]) rfl (Uo t0 rfl (by repeat (first|exact(bA).alloc (by simp) _|apply Below.drewN_of|(refine Below.setCell ?_ (by simp) _))))
    have l0:((s[2].toNat:Int) !=(((⟨#[70,80,49]⟩:ByteArray)[2]'(by decide)).toNat:Int))=false:=(by assumption)
    go_roundw
    case rel=>exact⟨3,_,by omega,rfl,λt ht=>by
     by_cases h:t<2
     ·exact HA.out t h
     have:t=2:=by omega
     subst this;exact k0.out.trans (zg9 l0),rfl⟩
    case measure=>simp[intOf]
   have K0:decide ((s.size:Int)<=(j:Int))=true:=(by simp;omega);have t0:Fl.decode s.toList=(([],[]),false,(j:Int)):=by
    have:=zs6 s j I0 HA.out (yw9 s j J0);unfold Fl.decode;rw[if_pos (by omega),this]
   have HD:=Zz t0;clear t0
   go_wp2_with fail
   go_quiet (fail)
   go_wp2;exact bodyPost_ret (v:=.tuple #[.agg #[.slice none 0 0,.slice none 0 0],.bool false,.int .i64 j]) (by simp[results,results7,go_sem]) rfl (Uo HD.out rfl (by repeat (first|exact(bA).alloc (by simp) _|apply Below.drewN_of|(refine Below.setCell ?_ (by simp) _))))
  obtain⟨v1,v2⟩:=yq3 s (λt ht=>HA.out t (by omega));have hlen:=zx3 s;obtain⟨n,t3,b,hv⟩:∃v m b,Fl.num s.toList 3=(v,m,b):=⟨_,_,_,rfl⟩;have h0:=Fl.num_ok s.toList 3 (by omega);rw[hv,hlen]at h0;simp only at h0;have k0:=Zz h0;have H1:Hid (∀w,Calls prog 15 #[.string s,.int .i64 3] w λe w'=>e=.returned (.tuple #[.int .i64 n,.int .i64 t3,.int .i64 b])/\w'=w):=λw=>zcw s 3 w hs (by omega) (by omega) n t3 b (by simpa using hv);have HV:=Zz hv;have z0:=Zz v1;have a0:=Zz hlen;clear hv h0 v1 hlen HA
  by_cases h1:t3<0
  ·have HD:Hid (Fl.decode s.toList=(([],[]),false,b)):=by unfold Fl.decode;rw[if_neg (by have:=z0.out;omega)];simp only[HV.out];rw[if_pos h1];rfl
   go_wp2_with (go_at_call 15;refine(H1.out _).mono ?_;rintro e w' ⟨rfl,rfl⟩)
   exact bodyPost_ret (v:=.tuple #[.agg #[.slice none 0 0,.slice none 0 0],.bool false,.int .i64 b]) (by simp[results,results7,go_sem]) rfl (Uo HD.out rfl (by repeat (first|exact(bA).alloc (by simp) _|apply Below.drewN_of|(refine Below.setCell ?_ (by simp) _))))
  have T1:((3:Nat):Int)<t3/\t3<=(s.size:Int)/\0<=n:=(by have:=k0.out;omega);obtain⟨U1,U0,V1⟩:=T1
  by_cases h2:4<n
  ·have HD:Hid (Fl.decode s.toList=(([],[]),false,3)):=by unfold Fl.decode;rw[if_neg (by have:=z0.out;omega)];simp only[HV.out];rw[if_neg h1,if_pos h2];rfl
   go_wp2_with (go_at_call 15;refine(H1.out _).mono ?_;rintro e w' ⟨rfl,rfl⟩)
   exact bodyPost_ret (v:=.tuple #[.agg #[.slice none 0 0,.slice none 0 0],.bool false,.int .i64 3]) (by simp[results,results7,go_sem]) rfl (Uo HD.out rfl (by repeat (first|exact(bA).alloc (by simp) _|apply Below.drewN_of|(refine Below.setCell ?_ (by simp) _))))
  obtain⟨l,t4,b4,L0⟩:∃l m b,Fl.nums s.toList t3.toNat n.toNat=(l,m,b):=⟨_,_,_,rfl⟩;have n0:=Fl.nums_ok s.toList t3.toNat n.toNat (by have:=a0.out;omega);rw[L0,a0.out]at n0;simp only at n0;have B0:=Zz n0;have H2:Hid (∀w,Calls prog 16 #[.string s,.int .i64 t3,.int .i64 n] w λe w'=>∃v,e=.returned (.tuple #[v,.int .i64 t4,.int .i64 b4])/\w'.ownsRow w.heap.size 3 1 v l.length (l.map (Value.int .i64))/\Below w.heap.size w w'):=λw=>yzx s t3 n w hs (by omega) U0 V1 (by omega) l t4 b4 L0;have M0:=Zz L0;clear L0 n0
  go_wp2_with (go_at_call 15;refine(H1.out _).mono ?_;rintro e w' ⟨rfl,rfl⟩)
  refine(H2.out _).mono ?_;rintro e w1 ⟨lv,rfl,j0,A0⟩;have V0:(((w.alloc (.cells #[.slice none 0 0,.slice none 0 0] 33)).alloc (.cells #[.slice none 0 0,.slice none 0 0] 33)).drewN m).heap.size=w.heap.size+2:=(by rw[yq4];simp);rw[V0]at j0 A0;have y2:w.heap.size+1<w1.heap.size:=(by have:=A0.size;rw[V0]at this;omega);have C0:∀b o,b<w.heap.size+2->w1.cell? ⟨b,o,none⟩=((w.alloc (.cells #[.slice none 0 0,.slice none 0 0] 33)).alloc (.cells #[.slice none 0 0,.slice none 0 0] 33)).cell? ⟨b,o,none⟩:=λb o h=>(A0.cell (p:=⟨b,o,none⟩) h).trans (yq5 _ _ _);have W0:∀b o,b<w.heap.size+2->w1.frozen? ⟨b,o,none⟩=((w.alloc (.cells #[.slice none 0 0,.slice none 0 0] 33)).alloc (.cells #[.slice none 0 0,.slice none 0 0] 33)).frozen? ⟨b,o,none⟩:=λb o h=>(A0.frozen (p:=⟨b,o,none⟩) h).trans (yzw _ _ _);have y0:Below w.heap.size w w1:=(Below.drewN_of ((bA).alloc (by simp) _) m).trans (A0.mono (by omega));have c0:w1.cell? ⟨w.heap.size+1,0,none⟩=some (.slice none 0 0):=(by rw[C0 _ _ (by omega)];simp);have c1:w1.cell? ⟨w.heap.size+1,1,none⟩=some (.slice none 0 0):=(by rw[C0 _ _ (by omega)];simp);have d0:w1.cell? ⟨w.heap.size,0,none⟩=some (.slice none 0 0):=(by rw[C0 _ _ (by omega)];simp);have d1:w1.cell? ⟨w.heap.size,1,none⟩=some (.slice none 0 0):=(by rw[C0 _ _ (by omega)];simp)
  have f0:∀j,w1.frozen? ⟨w.heap.size,j,none⟩=false:=λj=>by rw[W0 _ _ (by omega)];simp
  have f1:∀j,w1.frozen? ⟨w.heap.size+1,j,none⟩=false:=λj=>by rw[W0 _ _ (by omega)];simp
  clear C0 W0 A0 V0 H1 H2
  by_cases h4:t4<0
  ·have HD:Hid (Fl.decode s.toList=(([],[]),false,b4)):=by unfold Fl.decode;rw[if_neg (by have:=z0.out;omega)];simp only[HV.out];rw[if_neg (by omega),if_neg (by omega)];simp only[M0.out];rw[if_pos h4];rfl
   obtain⟨q0,q1⟩:=zty (w1:=w1) (B:=w.heap.size) (.slice none 0 0) (.slice none 0 0) d0 d1;go_wp2;exact bodyPost_ret (v:=.tuple #[.agg #[.slice none 0 0,.slice none 0 0],.bool false,.int .i64 b4]) (by simp[results,results7,go_sem,q0,q1]) rfl (Uo HD.out rfl (Jo y0))
  have W1:t3<=t4/\t4<=(s.size:Int)/\l.length<=4:=(by have:=B0.out;omega);obtain⟨X1,X0,z2⟩:=W1;obtain⟨M,t5,b5,N0⟩:∃v m b,Fl.num s.toList t4.toNat=(v,m,b):=⟨_,_,_,rfl⟩;have o0:=Fl.num_ok s.toList t4.toNat (by have:=a0.out;omega);rw[N0,a0.out]at o0;simp only at o0;have D0:=Zz o0;have H3:Hid (∀w,Calls prog 15 #[.string s,.int .i64 t4] w λe w'=>e=.returned (.tuple #[.int .i64 M,.int .i64 t5,.int .i64 b5])/\w'=w):=λw=>zcw s t4 w hs (by omega) X0 M t5 b5 N0;have Y0:=Zz N0;clear N0 o0;obtain⟨lao,lcap,rfl⟩:=zd0 j0;have hF:Fam w (w1.setCell ⟨w.heap.size+1,0,none⟩ (.slice lao l.length lcap)) (.slice lao l.length lcap) (.slice none 0 0) [(.slice lao l.length lcap,l)] (.slice none 0 0) (.slice none 0 0) 0 0 [] []:=by
   have A2:(w1.setCell ⟨w.heap.size+1,0,none⟩ (.slice lao l.length lcap)).heap.size=w1.heap.size:=(by simp[World.setCell]);refine⟨World.ownsRow_nil _ _ _ _,World.ownsRow_nil _ _ _ _,λp hp=>?_,Ye c0,(Zl (by decide)).trans c1,?_,?_,λj=>by rw[World.frozen?_setCell];exact f0 j,λj=>by rw[World.frozen?_setCell];exact f1 j,y0.setCell (by simp) _,by omega⟩
   ·simp only[List.mem_singleton]at hp;subst hp
    have hlo:∀b,(Value.slice lao l.length lcap).ownBlock=some b->w.heap.size+2<=b:=λb hb=>(j0.lt b hb).1;refine⟨⟨Uy (Zv.of_own j0) (λ_ hh=>by have h9:w.heap.size+2<=w.heap.size+1:=hlo _ hh;omega),λhx=>?_⟩,λ_=>hlo⟩;obtain⟨b,hb,_⟩:=zww (Zv.of_own j0) hx;rw[hb];simp[Value.ownBlock]
   ·have h9:(w1.setCell ⟨w.heap.size+1,0,none⟩ (.slice lao l.length lcap)).cell? ⟨w.heap.size,0,none⟩=w1.cell? ⟨w.heap.size,0,none⟩:=by apply Qg;intro hh;injection hh with h2;omega
    rw[h9];exact d0
   have h9:(w1.setCell ⟨w.heap.size+1,0,none⟩ (.slice lao l.length lcap)).cell? ⟨w.heap.size,1,none⟩=w1.cell? ⟨w.heap.size,1,none⟩:=(by apply Qg;intro hh;injection hh with h2;omega);rw[h9];exact d1
  have HF:=Zz hF;have e0:=hF.c0;have e1:=hF.c1;have g0:=hF.f0;obtain⟨q0,q1⟩:=zty (w1:=(w1.setCell ⟨w.heap.size+1,0,none⟩ (.slice lao l.length lcap))) (B:=w.heap.size) (.slice lao l.length lcap) (.slice none 0 0) hF.d0 hF.d1;have O0:=Zz hF.hb;clear hF j0 y0
  by_cases h5:t5<0
  ·have HD:Hid (Fl.decode s.toList=(([],[]),false,b5)):=by unfold Fl.decode;rw[if_neg (by have:=z0.out;omega)];simp only[HV.out];rw[if_neg (by omega),if_neg (by omega)];simp only[M0.out];rw[if_neg (by omega)];simp only[Y0.out];rw[if_pos h5];rfl
   go_wp2_with (go_at_call 15;refine(H3.out _).mono ?_;rintro e w' ⟨rfl,rfl⟩)
   exact bodyPost_ret (v:=.tuple #[.agg #[.slice lao l.length lcap,.slice none 0 0],.bool false,.int .i64 b5]) (by simp[results,results7,go_sem,q0,q1]) rfl (Uo HD.out rfl (Jo O0.out))
  have Y1:t4<t5/\t5<=(s.size:Int)/\0<=M:=(by have:=D0.out;omega);obtain⟨Z1,a2,b2⟩:=Y1
  by_cases h6:M<1\/200<M
  ·have HD:Hid (Fl.decode s.toList=(([],[]),false,t4)):=by unfold Fl.decode;rw[if_neg (by have:=z0.out;omega)];simp only[HV.out];rw[if_neg (by omega),if_neg (by omega)];simp only[M0.out];rw[if_neg (by omega)];simp only[Y0.out];rw[if_neg (by omega),if_pos h6];rfl
   by_cases h7:M<1
   ·clear h6
    go_wp2_with (go_at_call 15;refine(H3.out _).mono ?_;rintro e w' ⟨rfl,rfl⟩)
    exact bodyPost_ret (v:=.tuple #[.agg #[.slice lao l.length lcap,.slice none 0 0],.bool false,.int .i64 t4]) (by simp[results,results7,go_sem,q0,q1]) rfl (Uo HD.out rfl (Jo O0.out))
   have h8:200<M:=(by omega);clear h6
   go_wp2_with (go_at_call 15;refine(H3.out _).mono ?_;rintro e w' ⟨rfl,rfl⟩)
   exact bodyPost_ret (v:=.tuple #[.agg #[.slice lao l.length lcap,.slice none 0 0],.bool false,.int .i64 t4]) (by simp[results,results7,go_sem,q0,q1]) rfl (Uo HD.out rfl (Jo O0.out))
  have h7:¬M<1:=(by omega);have h8:¬200<M:=(by omega);obtain⟨Mn,rfl⟩:=Int.eq_ofNat_of_zero_le b2;obtain⟨p0,rfl⟩:=Int.eq_ofNat_of_zero_le (show 0<=t5 from by omega)
  have Z0:Hid (Fl.decode s.toList=(if 0<=(Fl.nodesA s.toList Mn 0 p0 [] []).2.2.2 then(([],[]),false,(Fl.nodesA s.toList Mn 0 p0 [] []).2.2.2) else
    if(Fl.nodesA s.toList Mn 0 p0 [] []).2.2.1<s.size then(([],[]),false,(Fl.nodesA s.toList Mn 0 p0 [] []).2.2.1) else
    if 0<=Fl.shaped (Fl.nodesA s.toList Mn 0 p0 [] []).1 then(([],[]),false,(Fl.nodesA s.toList Mn 0 p0 [] []).2.1.getD (Fl.shaped (Fl.nodesA s.toList Mn 0 p0 [] []).1).toNat 0) else((l,(Fl.nodesA s.toList Mn 0 p0 [] []).1),true,0))):=by
   unfold Fl.decode;rw[if_neg (by have:=z0.out;omega)];simp only[HV.out];rw[if_neg (by omega),if_neg (by omega)];simp only[M0.out];rw[if_neg (by omega)];simp only[Y0.out];rw[if_neg (by omega),if_neg (by omega)];rw[a0.out];rfl
  clear h6 k0 B0 D0
  go_wp2_with (go_at_call 15;refine(H3.out _).mono ?_;rintro e w' ⟨rfl,rfl⟩)
  go_loopw [12,13,14] (λnx sv kk wr=>∃(k q:Nat) (nv:Value) (st:List Int) (acc:List Fl.Node) (lvs:List Value),zyv s.toList Mn p0 w (.slice lao l.length lcap) l wr k q sv nv st acc lvs/\nx=.int .i64 q/\kk=.int .i64 k) (λ_ _ kk _=>Mn - (intOf kk).toNat)
  case atStart=>exact⟨0,p0,.slice none 0 0,[],[],[],⟨by omega,by have:=a0.out;omega,rfl,rfl,rfl,by simp,HF.out⟩,rfl,rfl⟩
  case round=>
   clear e0 e1 g0 q0 q1 c0 c1 d0 d1 f0 f1 HF O0;obtain⟨k,q,nv,st,acc,lvs,hR,rfl,rfl⟩:=hrel;have HR:=Zz hR;have B2:=hR.hk;have d2:q<=s.size:=(by have:=hR.hq;have:=a0.out;omega);have C2:=hR.hf.hz;obtain⟨nao,ncap,rfl⟩:=Vy hR.hf.hn;obtain⟨sao,scap,rfl⟩:=Vy hR.hf.hs;clear hR
   by_cases f2:k<Mn
   ·obtain⟨nd,af,fb,ho⟩:∃n a b,Fl.one s.toList q k=(n,a,b):=⟨_,_,_,rfl⟩
    have HO:Hid (Calls prog 17 #[.string s,.int .i64 q,.int .i64 k] wr λe w'=>Uz (nd,af,fb) wr e w'):=(by have:=one_any s q k wr hs d2;rw[ho]at this;exact this);have s0:=Fl.one_ok s.toList q k HR.out.hq;rw[ho,a0.out]at s0;simp only at s0;have y1:=Zz ho;have E0:=Zz s0;have i2:(k:Int)<(Mn:Int):=(by omega);clear ho s0
    go_wp2_with fail
    refine(HO.out).mono ?_;rintro e w2 ⟨F0,xv,rfl,⟨nd',xao,xn,xcap,a1⟩,hgood⟩;have D2:w.heap.size+1<w2.heap.size:=(by have:=F0.size;omega);have hz2':w.heap.size<w2.heap.size:=(by omega);simp only at hgood⊢
    by_cases j2:af<0
    ·have HD:Hid (Fl.decode s.toList=(([],[]),false,fb)):=by
      have P0:Fl.nodesA s.toList Mn 0 p0 [] []=(acc,st,(q:Int),fb):=by
       rw[HR.out.hrun,show Mn - k=(Mn - (k+1))+1 from by omega];simp only[Fl.nodesA,y1.out];rw[if_pos j2]
      rw[Z0.out,P0];simp only;rw[if_pos (by have:=E0.out;omega)];rfl
     rw[a1];unfold Vr;have F2:=HR.out.hf.below F0;have e0:=F2.c0;have e1:=F2.c1;have g0:=F2.f0;have d0:=F2.d0;have d1:=F2.d1;obtain⟨q0,q1⟩:=zty (w1:=w2) (B:=w.heap.size) (.slice lao l.length lcap) (.slice nao k ncap) F2.d0 F2.d1;have b1:=Zz F2.hb
     have r0:∀o,(((w2.setCell ⟨w.heap.size,0,none⟩ (.slice lao l.length lcap)).setCell ⟨w.heap.size,1,none⟩ (.slice nao k ncap)).alloc o).cell? ⟨w.heap.size,0,none⟩=some (.slice lao l.length lcap):=λo=>by rw[Qf _ _ _ (by simp[World.setCell];omega),Zl (by decide)];exact q0
     have r1:∀o,(((w2.setCell ⟨w.heap.size,0,none⟩ (.slice lao l.length lcap)).setCell ⟨w.heap.size,1,none⟩ (.slice nao k ncap)).alloc o).cell? ⟨w.heap.size,1,none⟩=some (.slice nao k ncap):=λo=>by rw[Qf _ _ _ (by simp[World.setCell];omega)];exact q1
     clear F2 F0 hgood a1;go_wp2;exact bodyPost_ret (v:=.tuple #[.agg #[(.slice lao l.length lcap),.slice nao k ncap],.bool false,.int .i64 fb]) (by simp[results,results7,go_sem,q0,q1,r0,r1]) rfl (Uo HD.out rfl (by repeat (first|exact Jo b1.out|refine Below.alloc ?_ (by simp[World.setCell];omega) _)))
    obtain⟨lvn,z1,A1,k2⟩:=hgood (by omega);have g1:=A1;obtain⟨vao,vcap,l2,_⟩:=g1;subst l2;rw[z1];unfold Vr;clear a1 z1 hgood;have F2:=(HR.out.hf.below F0).add (N:=wr.heap.size) A1 k2 (λb hb=>(HR.out.hf.hs.lt b hb).2) (λb hb=>(HR.out.hf.hn.lt b hb).2) (by omega);have B1:=Zz F2;have E2:=F0.size;have hst:=HR.out.hst
    have b0:Hid (some w2.heap.size≠(Value.slice sao k scap).ownBlock):=λhh=>by have:=(HR.out.hf.hs.lt _ hh.symm).2;omega
    clear F2
    go_wp2_with (at_builtin;refine Zj _ rfl (.tmp 103) (.tmp 105) 30 rfl (w.heap.size+2) 3 i0 (.int .i64 0) 1 8 underlying30 hi M1 N1 O1 rfl (by decide) _ _ _ rfl ((B1.out.alloc _).alloc _).hs ⟨_,0,none⟩ 1 1 [.int .i64 q] rfl rfl (by decide) zc3 ?c2 ?c3 ?c4 ?c5 ?_)
    case c2=>first|rfl|(intro u hu;simp at hu;subst hu;rfl)
    case c3=>unfold maxLen;omega
    case c4=>omega
    case c5=>first|omega|(simp;omega)
    intro sv' w3 u0 m0 C1;have F3:=((B1.out.alloc _).alloc _).first u0 m0 (by simp only[World.size_alloc];exact C1);have x0:w3.cell? ⟨w2.heap.size,0,none⟩=some (.int .i64 nd.kind):=m0.cell (by rw[Qf _ _ _ (by simp),World.cell?_alloc_new];rfl) b0.out;have x1:w3.cell? ⟨w2.heap.size,1,none⟩=some (.int .i64 nd.level):=m0.cell (by rw[Qf _ _ _ (by simp),World.cell?_alloc_new];rfl) b0.out;have x2:w3.cell? ⟨w2.heap.size,2,none⟩=some (.int .i64 nd.a):=m0.cell (by rw[Qf _ _ _ (by simp),World.cell?_alloc_new];rfl) b0.out;have x3:w3.cell? ⟨w2.heap.size,3,none⟩=some (.int .i64 nd.b):=m0.cell (by rw[Qf _ _ _ (by simp),World.cell?_alloc_new];rfl) b0.out;have x4:w3.cell? ⟨w2.heap.size,4,none⟩=some (.int .i64 nd.c):=m0.cell (by rw[Qf _ _ _ (by simp),World.cell?_alloc_new];rfl) b0.out;have x5:w3.cell? ⟨w2.heap.size,5,none⟩=some (.slice vao nd.list.length vcap):=m0.cell (by rw[Qf _ _ _ (by simp),World.cell?_alloc_new];rfl) b0.out;have G2:w2.heap.size+1<w3.heap.size:=(by have:=m0.size;simp at this;omega);have hz3':w2.heap.size<w3.heap.size:=(by omega);have m2:w.heap.size+1<w3.heap.size:=(by omega);have e1:=F3.c1;obtain⟨sao',scap',rfl⟩:=Vy F3.hs;have D1:=Zz F3;clear F3 u0 m0 C1 b0
    go_wp2_with (at_builtin;refine Zj _ rfl (.tmp 108) (.tmp 110) 31 rfl (w.heap.size+2) 59 i1 (.agg #[.int .i64 0,.int .i64 0,.int .i64 0,.int .i64 0,.int .i64 0,.slice none 0 0]) 6 64 underlying31 P1 Q1 R1 S1 rfl (by decide) _ _ _ rfl (D1.out.alloc _).hn ⟨_,0,none⟩ 1 1 (Yb nd (.slice vao nd.list.length vcap)) rfl rfl (by decide) (zh4 (Yb nd (.slice vao nd.list.length vcap))) ?n2 ?n3 ?n4 ?n5 ?_)
    case n2=>intro u hu;simp[Yb]at hu;rcases hu with rfl|rfl|rfl|rfl|rfl|rfl<;>rfl
    case n3=>unfold maxLen;omega
    case n4=>omega
    case n5=>first|omega|(simp;omega)
    intro nv' w4 v0 T0 E1;have F4:=(D1.out.alloc _).second v0 T0 (by simp only[World.size_alloc];exact E1);obtain⟨nao',ncap',rfl⟩:=Vy F4.hn;have e2:=F4.c1;have g2:=F4.f1;have o2:=Zz F4;clear F4 v0 T0 E1 x0 x1 x2 x3 x4 x5 e1;have j1:(q:Int)<af/\af<=(s.size:Int):=(by have:=E0.out;omega);obtain⟨p2,k1⟩:=j1;go_wp2
    go_roundw
    case rel=>exact⟨k+1,af.toNat,_,_,_,_,HR.out.step f2 y1.out (by omega) (by rw[a0.out];exact k1) (o2.out.store _),by rw[Int.toNat_of_nonneg (by omega)],by go_num⟩
    case measure=>simp[intOf];omega
   have P0:Fl.nodesA s.toList Mn 0 p0 [] []=(acc,st,(q:Int),-1):=by
    rw[HR.out.hrun,show Mn - k=0 from by omega];rfl
   have G0:=Z0.out;rw[P0]at G0;simp only at G0;rw[if_neg (by omega)]at G0;have l1:=Zz G0;have e0:=HR.out.hf.c0;have e1:=HR.out.hf.c1;have g0:=HR.out.hf.f0;have d0:=HR.out.hf.d0;have d1:=HR.out.hf.d1;have i2:¬(k:Int)<(Mn:Int):=(by omega);clear P0 G0 Z0
   by_cases I2:q<s.size
   ·have HD:Hid (Fl.decode s.toList=(([],[]),false,(q:Int))):=by rw[l1.out,if_pos (by omega)];rfl
    obtain⟨q0,q1⟩:=zty (w1:=wr) (B:=w.heap.size) (.slice lao l.length lcap) (.slice nao k ncap) d0 d1;have b1:=Zz HR.out.hf.hb;have F1:(q:Int)<(s.size:Int):=(by omega);go_wp2;exact bodyPost_ret (v:=.tuple #[.agg #[(.slice lao l.length lcap),.slice nao k ncap],.bool false,.int .i64 q]) (by simp[results,results7,go_sem,q0,q1]) rfl (Uo HD.out rfl (Jo b1.out))
   have F1:¬(q:Int)<(s.size:Int):=(by omega);have m1:Hid (Calls prog 18 #[.slice nao k ncap] wr λe w'=>e=.returned (.int .i64 (Fl.shaped acc))/\Below wr.heap.size wr w'):=yw8 acc _ _ _ (Nat.le_refl _) HR.out.nodes;obtain⟨sh,Q0⟩:∃sh,Fl.shaped acc=sh:=⟨_,rfl⟩;rw[Q0]at m1;have n1:=Fl.shaped_lt acc;rw[Q0,HR.out.hacc]at n1;have R0:Hid (Fl.decode s.toList=if 0<=sh then(([],[]),false,st.getD sh.toNat 0) else((l,acc),true,0)):=(by rw[l1.out,if_neg F1,Q0];rfl);clear Q0 l1
   go_wp2_with fail
   refine(m1.out).mono ?_;rintro e w5 ⟨rfl,o1⟩;have F5:=HR.out.hf.below o1;have e0':=F5.c0;have e1':=F5.c1;have g0':=F5.f0;have d0':=F5.d0;have d1':=F5.d1;obtain⟨q0,q1⟩:=zty (w1:=w5) (B:=w.heap.size) (.slice lao l.length lcap) (.slice nao k ncap) F5.d0 F5.d1;have G1:=Zz F5.hb;have p1:=F5.hs;have q2:=Zz o1;clear F5 o1 m1 e0 e1 g0 d0 d1
   by_cases I1:0<=sh
   ·obtain⟨sn,rfl⟩:=Int.eq_ofNat_of_zero_le I1
    have s1:sn<k:=(by omega);obtain⟨g,gcap,J1,J2,K2,K1⟩:=zqx p1 (by omega);simp only[Value.slice.injEq]at J1;obtain⟨rfl,_,_⟩:=J1;have r2:=K1 sn (.int .i64 (st.getD sn 0)) (by simp[Qa,HR.out.hst,s1]);have H0:Hid (Fl.decode s.toList=(([],[]),false,st.getD sn 0)):=(by rw[R0.out,if_pos (by omega)];simp[Hid]);obtain⟨xs,L1⟩:∃x,x=st.getD sn 0:=⟨_,rfl⟩;rw[<-L1]at r2 H0;have L2:(sn:Int)<(k:Int):=(by omega);clear K1 L1 p1 R0
    have s2:∀(W:World) (o:Nat) (u:Value) (j:Nat),(W.setCell ⟨w.heap.size,o,none⟩ u).cell? ⟨g,j,none⟩=W.cell? ⟨g,j,none⟩:=λW o u j=>by apply Qg;intro hh;injection hh with h2;omega
    go_wp2_with fail
    go_region
    all_goals
     go_wp2;exact bodyPost_ret (v:=.tuple #[.agg #[(.slice lao l.length lcap),.slice nao k ncap],.bool false,.int .i64 xs]) (by simp[results,results7,go_sem,q0,q1]) rfl (Uo H0.out rfl (by repeat (first|exact Jo G1.out|apply Below.drew)))
   have H0:Hid (Fl.decode s.toList=((l,acc),true,0)):=(by rw[R0.out,if_neg I1];rfl);clear p1 R0;go_wp2;exact bodyPost_ret (v:=.tuple #[.agg #[(.slice lao l.length lcap),.slice nao k ncap],.bool true,.int .i64 0]) (by simp[results,results7,go_sem,q0,q1]) rfl ⟨Jo G1.out,_,_,_,_,_,_,by rw[H0.out],λ_=>by rw[H0.out];exact HR.out.ends q2.out _ _⟩
def zk4(s:List UInt8)(k:Nat)(h:k<s.length):s.drop k=s.getD k 0::s.drop (k+1):=by
 rw[List.drop_eq_getElem_cons h,Qa,Qb h];rfl
def zx8(s:List UInt8)(p i a:Nat):Prop:=i<=4/\p+i<=s.length/\a<128 ^ i/\Fl.num s p=Fl.numG p s.length i a (128 ^ i) (s.drop (p+i))
def zx8.start(s:List UInt8)(p:Nat)(h:p<=s.length):zx8 s p 0 0:=⟨by omega,by omega,by simp,by simp[Fl.num]⟩
def zx8.small{s:List UInt8}{p i a:Nat}(h:zx8 s p i a):a<268435456/\128 ^ i<=268435456:=by
 have h1:128 ^ i<=128 ^ 4:=Nat.pow_le_pow_right (by omega) h.1
 have h2:(128:Nat) ^ 4=268435456:=by decide
 have:=h.2.2.1;omega
def zx8.stop{s:List UInt8}{p i a:Nat}(h:zx8 s p i a)(a0:¬p+i<s.length)(lo hi:Int):Fl.numB s p lo hi=(0,-1,(s.length:Int)):=by
 obtain⟨h1,h2,h3,h4⟩:=h;unfold Fl.numB;rw[h4,List.drop_of_length_le (by omega)];simp[Fl.numG]
def zx8.next{s:List UInt8}{p i a:Nat}(h:zx8 s p i a)(a0:p+i<s.length)(hi:i<4)(hc:¬(s.getD (p+i) 0).toNat<128):zx8 s p (i+1) (a+(s.getD (p+i) 0).toNat % 128*128 ^ i):=by
 obtain⟨h1,h2,h3,h4⟩:=h
 have hm:(s.getD (p+i) 0).toNat % 128<=127:=by omega
 have hp:(s.getD (p+i) 0).toNat % 128*128 ^ i<=127*128 ^ i:=Nat.mul_le_mul_right _ hm;have h5:128 ^ (i+1)=128 ^ i*128:=Nat.pow_succ ..;have h6:128 ^ (i+1)<=128 ^ 4:=Nat.pow_le_pow_right (by omega) hi
 have h7:(128:Nat) ^ 4=268435456:=by decide
 refine⟨by omega,by omega,by omega,?_⟩;rw[h4,zk4 s (p+i) a0];simp only[Fl.numG];rw[if_neg (by omega),if_neg hc,show p+(i+1)=p+i+1 from by omega,h5]
def zx8.full{s:List UInt8}{p a:Nat}(h:zx8 s p 4 a)(a0:p+4<s.length)(hc:¬(s.getD (p+4) 0).toNat<128)(lo hi:Int):Fl.numB s p lo hi=(0,-1,(p:Int)):=by
 obtain⟨h1,h2,h3,h4⟩:=h;have hg:Fl.num s p=(0,-1,(p:Int)):=by
  rw[h4,zk4 s (p+4) a0];unfold Fl.numG;exact if_pos (by omega)
 unfold Fl.numB;rw[hg];rfl
def zx8.last{s:List UInt8}{p i a:Nat}(h:zx8 s p i a)(a0:p+i<s.length)(hc:(s.getD (p+i) 0).toNat<128)(lo hi:Int)(hlo:0<=lo)(b0:hi<2147483648):
  Fl.numB s p lo hi=if(0<(s.getD (p+i) 0).toNat\/i=0)/\lo<=((a+(s.getD (p+i) 0).toNat*128 ^ i:Nat):Int)/\((a+(s.getD (p+i) 0).toNat*128 ^ i:Nat):Int)<=hi then(((a+(s.getD (p+i) 0).toNat*128 ^ i:Nat):Int),((p+i+1:Nat):Int),0) else(0,-1,(p:Int)):=by
 obtain⟨h1,h2,h3,h4⟩:=h;generalize hx:(s.getD (p+i) 0).toNat=x at*;have hm:x % 128=x:=Nat.mod_eq_of_lt hc;generalize hv:a+x*128 ^ i=v at*;have hg:Fl.num s p=if(x=0/\0<i)\/2147483648<=v then(0,-1,(p:Int)) else((v:Int),((p+i+1:Nat):Int),0):=by
  rw[h4,zk4 s (p+i) a0];simp only[Fl.numG,hx,hm,hv]
  by_cases hq:(x=0/\0<i)\/2147483648<=v
  ·rw[if_pos (by omega),if_pos hq]
  rw[if_neg (by omega),if_neg hq,if_pos hc]
 unfold Fl.numB;rw[hg]
 by_cases hq:(x=0/\0<i)\/2147483648<=v
 ·rw[if_pos hq,if_pos (by simp),if_neg (by omega)]
 rw[if_neg hq];rw[if_neg (show ¬(((p+i+1:Nat):Int)<0) by omega)]
 by_cases hr:(v:Int)<lo\/hi<(v:Int)
 ·rw[if_pos hr,if_neg (by omega)]
 rw[if_neg hr,if_pos (by omega)]
def or_add(a c i:Nat)(h:a<128 ^ i):a|||(c<<<(7*i))=a+c*128 ^ i:=by
 have h2:(128:Nat) ^ i=2 ^ (7*i):=by rw[Nat.pow_mul]
 rw[h2]at h⊢;rw[Nat.or_comm,<-Nat.shiftLeft_add_eq_or_of_lt h,Nat.shiftLeft_eq];omega
def yi7(a c i:Nat)(hc:c<256)(hi:i<=4)(ha:a<128 ^ i):bits .or .u64 (a:Int) (IntKind.u64.wrap (IntKind.u64.wrap (bits .and .u8 (c:Int) 127)*2 ^ (7*i)))=((a+c % 128*128 ^ i:Nat):Int):=by
 have h1:128 ^ i<=128 ^ 4:=Nat.pow_le_pow_right (by omega) hi
 have h2:(128:Nat) ^ 4=268435456:=by decide
 have h3:c % 128*128 ^ i<=127*268435456:=Nat.mul_le_mul (by omega) (by omega);have e1:bits .and .u8 (c:Int) 127=((c % 128:Nat):Int):=by
  have:=u8_and_nat c 127 hc (by omega);rw[nat_mask7]at this;exact this
 have e2:IntKind.u64.wrap ((c % 128:Nat):Int)=((c % 128:Nat):Int):=by rw[IntKind.wrap_u64];omega
 have e3:((c % 128:Nat):Int)*2 ^ (7*i)=((c % 128*128 ^ i:Nat):Int):=by
  rw[Int.natCast_mul,Int.natCast_pow,Int.pow_mul];rfl
 have e4:IntKind.u64.wrap ((c % 128*128 ^ i:Nat):Int)=((c % 128*128 ^ i:Nat):Int):=by rw[IntKind.wrap_u64];omega
 rw[e1,e2,e3,e4,u64_or_nat a (c % 128*128 ^ i) (by omega) (by omega)]
 have h4:c % 128*128 ^ i=(c % 128)<<<(7*i):=by rw[Nat.shiftLeft_eq,Nat.pow_mul]
 rw[<-or_add a (c % 128) i ha,h4]
def zw2(r:Int×Int×Int)(b:Nat)(w:World)(e:Ending)(w':World):Prop:=
 Mv w w' b/\(r.2.1<0->e=.panicked (Zf 8 r.2.2))/\(¬r.2.1<0->e=.returned (.int .i64 r.1)/\w'.cell? ⟨b,1,none⟩=some (.int .i64 r.2.1))
def zn3{r:Int×Int×Int}{v q b:Nat}{w w':World}(hr:r=((v:Int),(q:Int),0))(m:Mv w w' b)(c:w'.cell? ⟨b,1,none⟩=some (.int .i64 (q:Int))):zw2 r b w (.returned (.int .i64 (v:Int))) w':=by
 subst hr;exact⟨m,λh=>by simp only at h;omega,λ_=>⟨rfl,c⟩⟩
def Ue{r:Int×Int×Int}{pl:Int}{b:Nat}{w w':World}(hr:r=(0,-1,pl))(m:Mv w w' b):zw2 r b w (.panicked (Zf 8 pl)) w':=by
 subst hr;exact⟨m,λ_=>rfl,λh=>absurd (show (-1:Int)<0 by decide) h⟩
def NumLoop(s:List UInt8)(p lo hi i a:Nat):Prop:=zx8 s p i a\/(i=5/\Fl.numB s p lo hi=(0,-1,(p:Int)))
def zvy{b:Nat}{ao:Option Addr}{cap:Nat}{s:List UInt8}{p:Nat}{w:World}(h:Dr w b ao cap s p)(lo hi:Nat)(u0:hi<2147483648)(hlo:lo<2147483648):
  Calls prog 77 #[.pointer (some ⟨b,0,none⟩),.int .i64 lo,.int .i64 hi] w λe w'=>zw2 (Fl.numB s p lo hi) b w e w':=by
 have c0:=h.c0;have c1:=h.c1;have hs:=h.hs;have hp:=h.hp;have HD:=Zz h;clear h
 go_enter func77,ntmps77
 go_wp2_with fail
 go_loopw [8,16] (λn k wr=>∃i a:Nat,n=.int .u64 a/\k=.int .i64 i/\NumLoop s p lo hi i a/\Mv w wr b/\wr.cell? ⟨b,1,none⟩=some (.int .i64 ((p+i:Nat):Int))) (λ_ k _=>5 - (intOf k).toNat)
 case atStart=>exact⟨0,0,rfl,rfl,.inl (zx8.start s p hp),Mv.refl _ _,c1⟩
 case round=>
  obtain⟨i,a,rfl,rfl,hl,hm,d0⟩:=hrel;have HM:=Zz hm;have HC:=Zz d0;clear hm d0;rcases hl with hl|⟨rfl,hl⟩
  ·have p0:=hl.1
   have ha:=hl.small.1;have hx:=hl.small.2;have q0:=hl.2.1;have HL:=Zz hl;clear hl;have h0:Hid (Dr wr b ao cap s (p+i)):=HD.out.move HM.out HC.out q0
   by_cases k0:p+i<s.length
   ·obtain⟨c,hc⟩:=nmE ((s.getD (p+i) 0).toNat)
    have l0:c<256:=(by rw[hc];exact(s.getD (p+i) 0).toNat_lt);have HN:Hid (Calls prog 75 #[.pointer (some ⟨b,0,none⟩)] wr λe w'=>e=.returned (.int .u8 c)/\Mv wr w' b/\w'.cell? ⟨b,1,none⟩=some (.int .i64 ((p+i+1:Nat):Int))):=(by rw[hc];exact zh6 h0.out k0);have i0:=Zz hc;clear hc;obtain⟨v,hv⟩:=nmE (a+c % 128*128 ^ i);have v0:bits .or .u64 (a:Int) (IntKind.u64.wrap (IntKind.u64.wrap (bits .and .u8 (c:Int) 127)*2 ^ (7*i)))=(v:Int):=(by rw[hv];exact yi7 a c i l0 p0 HL.out.2.2.1);have x0:v<274877906944:=by
     have h3:c % 128*128 ^ i<=127*268435456:=Nat.mul_le_mul (by omega) (by omega);omega
    have HV:=Zz hv;clear hv
    by_cases hc:128<=c
    ·go_wp2_with (go_at_call 75;refine(HN.out).mono ?_;rintro e w1 ⟨rfl,a0,d0⟩)
     go_roundw
     case rel=>
      refine⟨i+1,v,rfl,by go_num,?_,HM.out.trans a0,d0⟩
      by_cases h4:i<4
      ·left;rw[HV.out,i0.out];exact HL.out.next k0 h4 (by have:=i0.out;omega)
      right
      have:i=4:=by omega
      subst this;exact⟨rfl,HL.out.full k0 (by have:=i0.out;omega) _ _⟩
     case measure=>simp[intOf];omega
    have m0:(v:Int)=((a+(s.getD (p+i) 0).toNat*128 ^ i:Nat):Int):=by
     rw[HV.out,i0.out,Nat.mod_eq_of_lt (by have:=i0.out;omega)]
    have e0:=HL.out.last k0 (by have:=i0.out;omega) lo hi (by omega) (by omega);rw[<-m0,<-i0.out]at e0;have HG:=Zz e0;clear m0 e0
    by_cases n0:c=0
    ·have b0:¬(0:Int)<(c:Int):=by omega
     have r0:=Zz n0;clear n0
     by_cases o0:i=0
     ·have bi:((i:Int)==0)=true:=beq_iff_eq.2 (by omega)
      have s0:=Zz o0;clear o0
      by_cases j0:(lo:Int)<=(v:Int)
      ·by_cases f0:(v:Int)<=(hi:Int)
       ·go_wp2_with (first|(go_at_call 75;refine(HN.out).mono ?_;rintro e w1 ⟨rfl,a0,d0⟩)|(go_at_call 74;refine(Jz _ _ _).mono ?_;rintro e w2 ⟨rfl,rfl⟩))
        go_ret;exact zn3 (HG.out.trans (if_pos ⟨.inr s0.out,j0,f0⟩)) (HM.out.trans a0) d0
       have bd:decide (v<=hi)=false:=decide_eq_false (by omega);have bd2:decide ((v:Int)<=(hi:Int))=false:=decide_eq_false f0
       go_wp2_with (first|(go_at_call 75;refine(HN.out).mono ?_;rintro e w1 ⟨rfl,a0,d0⟩)|(go_at_call 74;refine(Xe _ _ _).mono ?_;rintro e w2 ⟨rfl,g0⟩))
       exact⟨rfl,Ue (HG.out.trans (if_neg (by omega))) ((HM.out.trans a0).trans (Mv.of_below g0 (a0.lt h0.out.lt)))⟩
      go_wp2_with (first|(go_at_call 75;refine(HN.out).mono ?_;rintro e w1 ⟨rfl,a0,d0⟩)|(go_at_call 74;refine(Xe _ _ _).mono ?_;rintro e w2 ⟨rfl,g0⟩))
      exact⟨rfl,Ue (HG.out.trans (if_neg (by omega))) ((HM.out.trans a0).trans (Mv.of_below g0 (a0.lt h0.out.lt)))⟩
     have bi:((i:Int)==0)=false:=beq_eq_false_iff_ne.2 (by omega)
     go_wp2_with (first|(go_at_call 75;refine(HN.out).mono ?_;rintro e w1 ⟨rfl,a0,d0⟩)|(go_at_call 74;refine(Xe _ _ _).mono ?_;rintro e w2 ⟨rfl,g0⟩))
     exact⟨rfl,Ue (HG.out.trans (if_neg (by have:=r0.out;omega))) ((HM.out.trans a0).trans (Mv.of_below g0 (a0.lt h0.out.lt)))⟩
    have b0:¬(c:Int)<=0:=(by omega)
    by_cases j0:(lo:Int)<=(v:Int)
    ·by_cases f0:(v:Int)<=(hi:Int)
     ·go_wp2_with (first|(go_at_call 75;refine(HN.out).mono ?_;rintro e w1 ⟨rfl,a0,d0⟩)|(go_at_call 74;refine(Jz _ _ _).mono ?_;rintro e w2 ⟨rfl,rfl⟩))
      go_ret;exact zn3 (HG.out.trans (if_pos ⟨.inl (by omega),j0,f0⟩)) (HM.out.trans a0) d0
     have bd:decide (v<=hi)=false:=decide_eq_false (by omega);have bd2:decide ((v:Int)<=(hi:Int))=false:=decide_eq_false f0
     go_wp2_with (first|(go_at_call 75;refine(HN.out).mono ?_;rintro e w1 ⟨rfl,a0,d0⟩)|(go_at_call 74;refine(Xe _ _ _).mono ?_;rintro e w2 ⟨rfl,g0⟩))
     exact⟨rfl,Ue (HG.out.trans (if_neg (by omega))) ((HM.out.trans a0).trans (Mv.of_below g0 (a0.lt h0.out.lt)))⟩
    go_wp2_with (first|(go_at_call 75;refine(HN.out).mono ?_;rintro e w1 ⟨rfl,a0,d0⟩)|(go_at_call 74;refine(Xe _ _ _).mono ?_;rintro e w2 ⟨rfl,g0⟩))
    exact⟨rfl,Ue (HG.out.trans (if_neg (by omega))) ((HM.out.trans a0).trans (Mv.of_below g0 (a0.lt h0.out.lt)))⟩
   go_wp2_with (go_at_call 75;refine(zmv h0.out k0).mono ?_;rintro e w1 ⟨rfl,a0⟩)
   exact⟨rfl,Ue (HL.out.stop k0 _ _) (HM.out.trans a0)⟩
  go_wp2_with (go_at_call 74;refine(Xe _ _ _).mono ?_;rintro e w1 ⟨rfl,t0⟩)
  exact⟨rfl,Ue hl (HM.out.trans (Mv.of_below t0 (HM.out.lt HD.out.lt)))⟩
def Fl.numB_max(s:List UInt8)(p:Nat)(h:p<=s.length):Fl.numB s p 0 2147483647=Fl.num s p:=by
 have h1:=Fl.num_ok s p h;unfold Fl.numB;generalize Fl.num s p=r at*;obtain⟨x,y,z⟩:=r;simp only at h1⊢;rcases h1 with h1|h1
 ·rw[if_pos (by omega),h1.1,h1.2.1]
 rw[if_neg (by omega),if_neg (by omega),h1.2.2.2.2]
def zs7(s:List UInt8)(p n k q:Nat)(xs:List Int):Prop:=k<=n/\q<=s.length/\xs.length=k/\Fl.nums s p n=Fl.numsA s (n - k) q xs
def zs7.bad{s:List UInt8}{p n k q:Nat}{xs:List Int}(h:zs7 s p n k q xs)(hk:k<n){v m b:Int}(hn:Fl.num s q=(v,m,b))(hm:m<0):Fl.nums s p n=([],-1,b):=by
 obtain⟨h1,h2,h3,h4⟩:=h;rw[h4,show n - k=(n - k - 1)+1 from by omega];simp only[Fl.numsA,hn,if_pos hm]
def zs7.step{s:List UInt8}{p n k q:Nat}{xs:List Int}(h:zs7 s p n k q xs)(hk:k<n){v m b:Int}(hn:Fl.num s q=(v,m,b))(hm:¬m<0):zs7 s p n (k+1) m.toNat (xs++[v]):=by
 obtain⟨h1,h2,h3,h4⟩:=h;have a0:=Fl.num_ok s q h2;rw[hn]at a0;refine⟨by omega,by simp only at a0;omega,by simp[h3],?_⟩;rw[h4,show n - k=(n - (k+1))+1 from by omega];simp only[Fl.numsA,hn,if_neg hm]
def yzv(r:List Int×Int×Int)(b:Nat)(w:World)(e:Ending)(w':World):Prop:=
 Mv w w' b/\(r.2.1<0->e=.panicked (Zf 8 r.2.2))/\(¬r.2.1<0->∃lv,e=.returned lv/\w'.ownsRow w.heap.size 3 1 lv r.1.length (r.1.map (Value.int .i64))/\w'.cell? ⟨b,1,none⟩=some (.int .i64 r.2.1))
def yy0{r:List Int×Int×Int}{pl:Int}{b:Nat}{w w':World}(hr:r=([],-1,pl))(m:Mv w w' b):yzv r b w (.panicked (Zf 8 pl)) w':=by
 subst hr;exact⟨m,λ_=>rfl,λh=>absurd (show (-1:Int)<0 by decide) h⟩
def zux{b:Nat}{ao:Option Addr}{cap:Nat}{s:List UInt8}{p:Nat}{w:World}(h:Dr w b ao cap s p):
  Calls prog 77 #[.pointer (some ⟨b,0,none⟩),.int .i64 0,.int .i64 2147483647] w λe w'=>zw2 (Fl.num s p) b w e w':=by
 rw[<-Fl.numB_max s p h.hp];exact zvy h 0 2147483647 (by omega) (by omega)
def own_ne{w:World}{base:Nat}{e:TypeId}{size:Nat}{v:Value}{n:Nat}{xs:List Value}{b:Nat}(h:w.ownsRow base e size v n xs)(hb:b<base):v.ownBlock=none\/v.ownBlock≠some b:=by
 right;intro hh;have:=(h.lt b hh).1;omega
def zn4{b:Nat}{ao:Option Addr}{cap:Nat}{s:List UInt8}{p:Nat}{w:World}(h:Dr w b ao cap s p)(n:Nat)(hn:n<=200):
  Calls prog 76 #[.pointer (some ⟨b,0,none⟩),.int .i64 n,.int .i64 2147483647] w λe w'=>yzv (Fl.nums s p n) b w e w':=by
 obtain⟨i0,hi,k0,l0,m0⟩:=info_parts Tryz.infoInt;have HD:=Zz h;clear h
 go_enter func76,ntmps76
 go_wp2_with fail
 go_loopw [7,9] (λv i wr=>∃(k q:Nat) (xs:List Int),zs7 s p n k q xs/\i=.int .i64 k/\wr.ownsRow w.heap.size 3 1 v xs.length (xs.map (Value.int .i64))/\Mv w wr b/\wr.cell? ⟨b,1,none⟩=some (.int .i64 (q:Int))) (λ_ i _=>n - (intOf i).toNat)
 case atStart=>exact⟨0,p,[],⟨by omega,HD.out.hp,rfl,rfl⟩,rfl,World.ownsRow_nil _ _ _ _,Mv.refl _ _,HD.out.c1⟩
 case round=>
  obtain⟨k,q,xs,hr,rfl,a0,hm,e0⟩:=hrel;have HR:=Zz hr;have n0:Hid (Dr wr b ao cap s q):=HD.out.move hm e0 hr.2.1;have s0:=hr.1;have t0:xs.length<=200:=(by have:=hr.2.2.1;omega);have hlb:=HD.out.lt;have u0:=hm.g.size;have HM:=Zz hm;have HO:=Zz a0;have o0:=Zz e0;clear hr hm a0 e0
  by_cases j0:k<n
  ·obtain⟨x,m,y,d0⟩:∃x m y,Fl.num s q=(x,m,y):=⟨_,_,_,rfl⟩
   have b0:=zux n0.out;rw[d0]at b0;have HN:=Zz d0;have h0:=Zz b0;clear d0 b0
   by_cases hm:m<0
   ·go_wp2_with (go_at_call 77;refine(h0.out).mono ?_;rintro e w1 ⟨f0,he,_⟩;obtain rfl:=he hm)
    exact⟨rfl,yy0 (HR.out.bad j0 HN.out hm) (HM.out.trans f0)⟩
   go_wp2_with (first|(go_at_call 77;refine(h0.out).mono ?_;rintro e w1 ⟨f0,_,he⟩;obtain⟨rfl,e0⟩:=he hm;have a0:=HO.out.kept f0.g (own_ne HO.out hlb))|(at_builtin;refine wpList_append_own _ rfl _ _ 30 rfl w.heap.size 3 i0 (.int .i64 0) 1 8 underlying30 hi k0 l0 m0 rfl (by decide) _ _ _ rfl (a0.alloc _) ⟨_,0,none⟩ 1 1 [.int .i64 x] rfl rfl zw9 ?c2 ?c3 ?c4 ?c5 ?_))
   case c2=>intro u hu;simp at hu;subst hu;rfl
   case c3=>unfold maxLen;omega
   case c4=>omega
   case c5=>have:=f0.g.size;simp;omega
   intro v' w2 hown' c0 _;have HS:Hid (zs7 s p n (k+1) m.toNat (xs++[x])):=HR.out.step j0 HN.out (by omega);have p0:Mv w w2 b:=((HM.out.trans f0).alloc hlb _).andGrown c0 hlb (λg hg=>(a0.lt g hg).1);have q0:w2.cell? ⟨b,1,none⟩=some (.int .i64 ((m.toNat:Nat):Int)):=by
    rw[Int.toNat_of_nonneg (by omega)];refine c0.cell ((World.grownBy_alloc w1 _ none).cell e0 (by simp)) ?_;intro hh;have:=(a0.lt b hh.symm).1;omega
   have r0:w2.ownsRow w.heap.size 3 1 v' (xs++[x]).length ((xs++[x]).map (Value.int .i64)):=(by simpa using hown');clear hown' c0 a0 h0 f0 e0;go_wp2
   go_roundw
   case rel=>exact⟨k+1,m.toNat,xs++[x],HS.out,by go_num,r0,p0,q0⟩
   case measure=>simp[intOf];omega
  have hkn':k=n:=(by omega);have g0:Fl.nums s p n=(xs,(q:Int),0):=by
   have:=HR.out.2.2.2;rw[this,hkn',Nat.sub_self];rfl
  have HF:=Zz g0;clear g0 hkn';go_wp2;go_ret;exact⟨HM.out,λh=>absurd h (by rw[HF.out];simp only;omega),λ_=>⟨_,rfl,by rw[HF.out];exact HO.out,by rw[HF.out];exact o0.out⟩⟩
def Xy:Array Value:=#[
 .string ⟨#[110,117,109]⟩,.int .i64 1,.bool false,.func (.func 68) #[] #[],.string ⟨#[118,97,114]⟩,.int .i64 1,.bool false,.func (.func 68) #[] #[],.string ⟨#[111,112]⟩,.int .i64 3,.bool false,.func (.func 70) #[] #[],.string ⟨#[115,101,116]⟩,.int .i64 2,.bool false,.func (.func 69) #[] #[],.string ⟨#[111,117,116]⟩,.int .i64 2,.bool false,.func (.func 69) #[] #[],.string ⟨#[105,102]⟩,.int .i64 3,.bool false,.func (.func 71) #[] #[],.string ⟨#[119,104,105,108,101]⟩,.int .i64 2,.bool false,.func (.func 72) #[] #[],.string ⟨#[98,108,111,99,107]⟩,.int .i64 0,.bool true,.func (.func 73) #[] #[]]
def Tryz.infoRules:(Tryz.prog.info? 129).map (·.size)=some Xy.size:=by kernel_rfl
def yy1:Xy.all (·.oneCell')=true:=by kernel_rfl
def zd1:(32:Nat)=Xy.size:=by kernel_rfl
def zd2(w:World):Calls prog 45 #[] w λe w'=>e=.returned (.agg Xy)/\w'=w.alloc (.cells Xy 129):=by
 go_enter func45,ntmps45
 go_wp2_with (first|(refine Vd rfl 129 _ rfl Xy (by kernel_rfl) ?_)|(refine Jm rfl _ _ 129 rfl _ _ Xy rfl rfl Tryz.infoRules zd1 yy1 ?_))
 refine bodyPost_ret (v:=.agg Xy) ?_ rfl ⟨rfl,rfl⟩;exact zp3 (p:=0) (ty:=129) results45 _ _ ⟨w.heap.size,0,none⟩ _ rfl (run_loadVar_new w 129 Xy 8 128 underlying129 Tryz.infoRules)
def yq6(rb ro nb n:Nat)(w:World)(hn:n<=3)(a0:rb<w.heap.size)(h:w.cell? ⟨rb,ro+1,none⟩=some (.int .i64 n)):Calls prog 108 #[.pointer (some ⟨rb,ro,none⟩),.pointer (some ⟨nb,0,none⟩)] w λe w'=>e=.returned (.slice (some ⟨w.heap.size,0,none⟩) n 3)/\w'=(w.alloc (.cells #[.pointer (some ⟨nb,2,none⟩),.pointer (some ⟨nb,3,none⟩),.pointer (some ⟨nb,4,none⟩)] 201)).drew:=by
 have h2:∀o,(w.alloc o).cell? ⟨rb,ro+1,none⟩=some (.int .i64 n):=λo=>by rw[World.cell?_alloc_past _ _ _ a0];exact h
 go_enter func108,ntmps108
 go_wp2_with fail
 go_region
 go_wp2;go_ret;exact⟨rfl,rfl⟩
structure zz2(w:World)(nb no:Nat)(nd:Fl.Node)(lv:Value):Prop where
 c0:w.cell? ⟨nb,no,none⟩=some (.int .i64 nd.kind)
 c1:w.cell? ⟨nb,no+1,none⟩=some (.int .i64 nd.level)
 c2:w.cell? ⟨nb,no+2,none⟩=some (.int .i64 nd.a)
 c3:w.cell? ⟨nb,no+3,none⟩=some (.int .i64 nd.b)
 c4:w.cell? ⟨nb,no+4,none⟩=some (.int .i64 nd.c)
 c5:w.cell? ⟨nb,no+5,none⟩=some lv
 hl:Zv w.heap.size w lv nd.list
def zz2.below{w w':World}{nb no:Nat}{nd:Fl.Node}{lv:Value}(h:zz2 w nb no nd lv)(hb:Below w.heap.size w w'):zz2 w' nb no nd lv:=by
 have hn:nb<w.heap.size:=Qe w _ h.c0;have q:∀o,w'.cell? ⟨nb,o,none⟩=w.cell? ⟨nb,o,none⟩:=λo=>hb.cell (p:=⟨nb,o,none⟩) hn;exact⟨(q _).trans h.c0,(q _).trans h.c1,(q _).trans h.c2,(q _).trans h.c3,(q _).trans h.c4,(q _).trans h.c5,(h.hl.below hb).mono hb.size⟩
def byF(k:Int):FuncId:=
 if k=2 then 70 else if k=3 then 69 else if k=4 then 69 else if k=5 then 71 else if k=6 then 72 else if k=7 then 73 else 68
def Vi(ps:List Int)(w:World)(e:Ending)(w':World):Prop:=∃pv,e=.returned pv/\Zv w'.heap.size w' pv ps/\Below w.heap.size w w'
def by1(v:Value)(w:World):Calls prog 68 #[v] w (Vi [] w):=by
 go_enter func68,ntmps68
 go_wp2;go_ret;exact⟨_,rfl,Zv.nil _ _,Below.refl _ _⟩
def Vi.fresh(w:World)(xs:List Int)(e:TypeId)(hl:xs.length<=maxLen):Vi xs w (.returned (.slice (some ⟨w.heap.size,0,none⟩) xs.length xs.length)) (w.alloc (.cells (xs.map (Value.int .i64)).toArray e)):=
 ⟨_,rfl,Zv.fresh xs e hl _ (by simp),bA⟩
def Vi.freshD(w:World)(xs:List Int)(e:TypeId)(hl:xs.length<=maxLen):Vi xs w (.returned (.slice (some ⟨w.heap.size,0,none⟩) xs.length xs.length)) (w.alloc (.cells (xs.map (Value.int .i64)).toArray e)).drew:=by
 obtain⟨pv,h1,h2,h3⟩:=Vi.fresh w xs e hl;exact⟨pv,h1,h2.below ((Below.refl _ _).drew),h3.drew⟩
def by2{w:World}{nb no:Nat}{nd:Fl.Node}{lv:Value}(h:zz2 w nb no nd lv):Calls prog 69 #[.pointer (some ⟨nb,no,none⟩)] w (Vi [nd.b] w):=by
 have c3:=h.c3
 go_enter func69,ntmps69
 go_wp2;go_ret;exact Vi.fresh _ [nd.b] _ (by simp[maxLen])
def by3{w:World}{nb no:Nat}{nd:Fl.Node}{lv:Value}(h:zz2 w nb no nd lv):Calls prog 70 #[.pointer (some ⟨nb,no,none⟩)] w (Vi [nd.b,nd.c] w):=by
 have c3:=h.c3;have c4:=h.c4
 go_enter func70,ntmps70
 go_wp2_with fail
 go_still_tail 8,(by kernel_rfl)
 go_wp2;go_ret;exact Vi.freshD _ [nd.b,nd.c] _ (by simp[maxLen])
def by4{w:World}{nb no:Nat}{nd:Fl.Node}{lv:Value}(h:zz2 w nb no nd lv):Calls prog 71 #[.pointer (some ⟨nb,no,none⟩)] w (Vi [nd.a,nd.b,nd.c] w):=by
 have c2:=h.c2;have c3:=h.c3;have c4:=h.c4
 go_enter func71,ntmps71
 go_wp2_with fail
 go_still_tail 12,(by kernel_rfl)
 go_wp2;go_ret;exact Vi.freshD _ [nd.a,nd.b,nd.c] _ (by simp[maxLen])
def by5{w:World}{nb no:Nat}{nd:Fl.Node}{lv:Value}(h:zz2 w nb no nd lv):Calls prog 72 #[.pointer (some ⟨nb,no,none⟩)] w (Vi [nd.a,nd.b] w):=by
 have c2:=h.c2;have c3:=h.c3
 go_enter func72,ntmps72
 go_wp2_with fail
 go_still_tail 8,(by kernel_rfl)
 go_wp2;go_ret;exact Vi.freshD _ [nd.a,nd.b] _ (by simp[maxLen])
def by6{w:World}{nb no:Nat}{nd:Fl.Node}{lv:Value}(h:zz2 w nb no nd lv):Calls prog 73 #[.pointer (some ⟨nb,no,none⟩)] w (Vi nd.list w):=by
 have c5:=h.c5;have HL:=Zz h.hl;obtain⟨ao,cap,rfl,_⟩:=h.hl;clear h
 go_enter func73,ntmps73
 go_wp2;go_ret;exact⟨_,rfl,HL.out,Below.refl _ _⟩
def yy2{w:World}{nb no:Nat}{nd:Fl.Node}{lv:Value}(h:zz2 w nb no nd lv):Calls prog (byF nd.kind) #[.pointer (some ⟨nb,no,none⟩)] w (Vi (Yw nd) w):=by
 unfold byF Yw
 by_cases h2:nd.kind=2
 ·rw[if_pos h2,if_pos h2];exact by3 h
 rw[if_neg h2,if_neg h2]
 by_cases h3:nd.kind=3
 ·rw[if_pos h3,if_pos (Or.inl h3)];exact by2 h
 rw[if_neg h3]
 by_cases h4:nd.kind=4
 ·rw[if_pos h4,if_pos (Or.inr h4)];exact by2 h
 rw[if_neg h4,if_neg (show ¬(nd.kind=3\/nd.kind=4) from λh=>h.elim h3 h4)]
 by_cases h5:nd.kind=5
 ·rw[if_pos h5,if_pos h5];exact by4 h
 rw[if_neg h5,if_neg h5]
 by_cases h6:nd.kind=6
 ·rw[if_pos h6,if_pos h6];exact by5 h
 rw[if_neg h6,if_neg h6]
 by_cases h7:nd.kind=7
 ·rw[if_pos h7,if_pos h7];exact by6 h
 rw[if_neg h7,if_neg h7];exact by1 _ _
def zk5(k:Int)(v:Value)(w:World):(callFunc (byF k) #[v]).run prog w=.ok (.enter (byF k) #[v]) w:=by
 unfold byF
 repeat' split
 all_goals kernel_rfl
def zn5(rb ro f k:Nat)(np:Value)(ps:List Int)(w:World)(hf:w.cell? ⟨rb,ro+3,none⟩=some (.func (.func f) #[] #[]))(n0:(callFunc f #[np]).run prog w=.ok (.enter f #[np]) w)(hc:Calls prog f #[np] w (Vi ps w)):
  Calls prog 109 #[.pointer (some ⟨rb,ro,none⟩),np,.int .i64 k] w λe w'=>e=.returned (.bool (!ps.any (λx=>decide ((k:Int)<=x))))/\Below w.heap.size w w':=by
 have HC:=Zz hc;clear hc
 go_enter func109,ntmps109
 go_wp2_with fail
 refine(HC.out).mono ?_;rintro e w1 ⟨pv,rfl,hp,d0⟩;obtain⟨pao,pcap,rfl,_,j0,e0⟩:=hp;unfold maxLen at j0;have k0:=Zz e0;have f0:=Zz d0;clear e0 d0
 go_wp2_with fail
 go_loop [16] (λi=>∃j:Nat,j<=ps.length/\i=.int .i64 j/\∀t,t<j->¬(k:Int)<=ps.getD t 0) (λi=>ps.length - (intOf i).toNat)
 case atStart=>exact⟨0,by omega,rfl,λt ht=>by omega⟩
 case round=>
  obtain⟨j,hj,rfl,g0⟩:=hrel;have h0:=Zz g0;clear g0
  by_cases b0:j<ps.length
  ·obtain⟨pb,po,rfl,o0,a0⟩:=k0.out (by intro h;rw[h]at b0;simp at b0)
   have l0:=a0 j b0;obtain⟨x,hx⟩:=nmE (ps.getD j 0);rw[<-hx]at l0;have i0:=Zz hx;have p0:(j:Int)<(ps.length:Int):=(by omega);clear a0 hx
   by_cases m0:(k:Int)<=x
   ·have c0:Hid ((!ps.any (λx=>decide ((k:Int)<=x)))=false):=by
     show (!ps.any (λx=>decide ((k:Int)<=x)))=false;rw[Bool.not_eq_false',List.any_eq_true];exact⟨x,by rw[i0.out];exact zy2 b0,by simpa using m0⟩
    go_wp2;go_ret;exact⟨Yo c0.out.symm,f0.out⟩
   go_wp2
   go_round
   case rel=>exact⟨j+1,by omega,by go_num,λt ht=>by
    by_cases h:t<j
    ·exact h0.out t h
    have:t=j:=by omega
    subst this;rw[<-i0.out];omega⟩
   case measure=>simp[intOf];omega
  have c0:Hid ((!ps.any (λx=>decide ((k:Int)<=x)))=true):=by
   show (!ps.any (λx=>decide ((k:Int)<=x)))=true;rw[Bool.not_eq_true',List.any_eq_false];intro x hx;obtain⟨i,hi,rfl⟩:=List.getElem_of_mem hx;have:=h0.out i (by omega);rw[Qa,Qb hi]at this;simpa using this
  go_wp2;go_ret;exact⟨Yo c0.out.symm,f0.out⟩
structure Nd(w:World)(N:Nat)(kd lev a b c:Int)(l:Value):Prop where
 c0:w.cell? ⟨N,0,none⟩=some (.int .i64 kd)
 c1:w.cell? ⟨N,1,none⟩=some (.int .i64 lev)
 c2:w.cell? ⟨N,2,none⟩=some (.int .i64 a)
 c3:w.cell? ⟨N,3,none⟩=some (.int .i64 b)
 c4:w.cell? ⟨N,4,none⟩=some (.int .i64 c)
 c5:w.cell? ⟨N,5,none⟩=some l
 f:∀j,w.frozen? ⟨N,j,none⟩=false
section
variable{w w':World}{N:Nat}{kd lev a b c:Int}{l:Value}
def Nd.lt(h:Nd w N kd lev a b c l):N<w.heap.size:=Qe w _ h.c0
def Nd.new(w:World)(kd lev a b c:Int)(l:Value)(e:TypeId):Nd (w.alloc (.cells #[.int .i64 kd,.int .i64 lev,.int .i64 a,.int .i64 b,.int .i64 c,l] e)) w.heap.size kd lev a b c l:=by
 refine⟨?_,?_,?_,?_,?_,?_,λj=>by simp⟩<;>(rw[World.cell?_alloc_new];rfl)
def Nd.grown(h:Nd w N kd lev a b c l){row:Option Nat}(g:w.grownBy w' row)(a0:some N≠row):Nd w' N kd lev a b c l:=
 ⟨g.cell h.c0 a0,g.cell h.c1 a0,g.cell h.c2 a0,g.cell h.c3 a0,g.cell h.c4 a0,g.cell h.c5 a0,λj=>(Qd (w:=w) (a:=⟨N,j,none⟩) (g.block N h.lt a0)).trans (h.f j)⟩
def Nd.drewN(h:Nd w N kd lev a b c l)(n:Nat):Nd (w.drewN n) N kd lev a b c l:=⟨h.c0,h.c1,h.c2,h.c3,h.c4,h.c5,h.f⟩
def Nd.drew(h:Nd w N kd lev a b c l):Nd w.drew N kd lev a b c l:=⟨h.c0,h.c1,h.c2,h.c3,h.c4,h.c5,h.f⟩
def Yh{w:World}{N i j:Nat}{v:Value}(a0:i≠j):(w.setCell ⟨N,i,none⟩ v).cell? ⟨N,j,none⟩=w.cell? ⟨N,j,none⟩:=by
 apply Qg;intro hh;injection hh with _ h2;exact a0 h2
def Uh{w:World}{N i:Nat}{v u:Value}(h:w.cell? ⟨N,i,none⟩=some u):(w.setCell ⟨N,i,none⟩ v).cell? ⟨N,i,none⟩=some v:=World.cell?_setCell_same' _ _ _ (by simp[h])
def Nd.set1(h:Nd w N kd lev a b c l)(x:Int):Nd (w.setCell ⟨N,1,none⟩ (.int .i64 x)) N kd x a b c l:=
 ⟨(Yh (by decide)).trans h.c0,Uh h.c1,(Yh (by decide)).trans h.c2,(Yh (by decide)).trans h.c3,(Yh (by decide)).trans h.c4,(Yh (by decide)).trans h.c5,λj=>(World.frozen?_setCell _ _ _ _).trans (h.f j)⟩
def Nd.set2(h:Nd w N kd lev a b c l)(x:Int):Nd (w.setCell ⟨N,2,none⟩ (.int .i64 x)) N kd lev x b c l:=
 ⟨(Yh (by decide)).trans h.c0,(Yh (by decide)).trans h.c1,Uh h.c2,(Yh (by decide)).trans h.c3,(Yh (by decide)).trans h.c4,(Yh (by decide)).trans h.c5,λj=>(World.frozen?_setCell _ _ _ _).trans (h.f j)⟩
def Nd.set3(h:Nd w N kd lev a b c l)(x:Int):Nd (w.setCell ⟨N,3,none⟩ (.int .i64 x)) N kd lev a x c l:=
 ⟨(Yh (by decide)).trans h.c0,(Yh (by decide)).trans h.c1,(Yh (by decide)).trans h.c2,Uh h.c3,(Yh (by decide)).trans h.c4,(Yh (by decide)).trans h.c5,λj=>(World.frozen?_setCell _ _ _ _).trans (h.f j)⟩
def Nd.set4(h:Nd w N kd lev a b c l)(x:Int):Nd (w.setCell ⟨N,4,none⟩ (.int .i64 x)) N kd lev a b x l:=
 ⟨(Yh (by decide)).trans h.c0,(Yh (by decide)).trans h.c1,(Yh (by decide)).trans h.c2,(Yh (by decide)).trans h.c3,Uh h.c4,(Yh (by decide)).trans h.c5,λj=>(World.frozen?_setCell _ _ _ _).trans (h.f j)⟩
def Nd.set5(h:Nd w N kd lev a b c l)(x:Value):Nd (w.setCell ⟨N,5,none⟩ x) N kd lev a b c x:=
 ⟨(Yh (by decide)).trans h.c0,(Yh (by decide)).trans h.c1,(Yh (by decide)).trans h.c2,(Yh (by decide)).trans h.c3,(Yh (by decide)).trans h.c4,Uh h.c5,λj=>(World.frozen?_setCell _ _ _ _).trans (h.f j)⟩
def Nd.nodeAt(h:Nd w N kd lev a b c l){ls:List Int}(hl:Zv w.heap.size w l ls):zz2 w N 0 ⟨kd,lev,a,b,c,ls⟩ l:=⟨h.c0,h.c1,h.c2,h.c3,h.c4,h.c5,hl⟩
end
def Xt(w:World)(N i:Nat)(v:Value):w.grownBy (w.setCell ⟨N,i,none⟩ v) (some N):=
 ⟨rfl,rfl,rfl,by simp[World.setCell],λk hk a0=>Below.heap_setCell _ _ _ _ (by intro h;exact a0 (by rw[h]))⟩
def Mv.andSet{w w1:World}{b N:Nat}(h:Mv w w1 b)(hb:b<w.heap.size)(hN:w.heap.size<=N)(i:Nat)(v:Value):Mv w (w1.setCell ⟨N,i,none⟩ v) b:=
 h.andGrown (Xt w1 N i v) hb (λk e=>by injection e with e;omega)
end Go.Proofs.YtaaejabalinojaaGreatDoor
