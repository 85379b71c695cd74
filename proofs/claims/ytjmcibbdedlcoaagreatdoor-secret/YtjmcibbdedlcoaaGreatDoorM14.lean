import Derived.Test.YtjmcibbdedlcoaaGreatDoorM13
import Derived.Lib.SlBytesConst
import Derived.Lib.ConvBytes
set_option linter.all false
set_option maxRecDepth 100000
set_option maxHeartbeats 40000000
namespace Go.Proofs.YtjmcibbdedlcoaaGreatDoor
open Go.RowKit Go.Proofs.Tryz List World Value Fl
variable{w w':World}{x p n k base lev:Nat}{s r a l:K}{v:Value}{xs ls:Is}{ns:List Fl.ar}{ao:Option Addr}
def its_any{tb nb no:Nat}{nd:Fl.ar}{lv:Value}(h:Vj w nb no nd lv)(hr:Yf w tb 0):
  F 104 #[M tb,Pp nb no] w (Rw (.bool (Fl.bD nd)) w):=by
 by_cases hk:0<=nd.kind/\nd.kind<8
 ·exact its_in (k:=nd.kind.toNat) h hr (by omega) (by omega)
 rw[yh7 (by omega)];exact its_out _ nb no nd.kind w h.c0 (by omega)
namespace Fl
def bh(ns:List ar):Int:=match (range ns.length).find? (eQ ns) with|some k=>(k:Int)|none=> -1
def ip(ns:List ar)(k:Nat):eQ ns k=(!bD (nth ns k)||((prem (nth ns k)).any (λp=>decide ((k:Int)<=p))||eH ns k)):=rfl
def kD(ns:List ar)(h:0<=bh ns):bf ns=bh ns:=by
 unfold bh at*;unfold bf
 cases hf:(range ns.length).find? (eQ ns) with
 |some k=>rfl
 |none=>rw[hf]at h;simp at h
def ke(ns:List ar):bh ns<(ns.length:Int)/\ -1<=bh ns:=by
 unfold bh
 cases hf:(range ns.length).find? (eQ ns) with
 |some k=>have:=mem_of_find?_eq_some hf;simp at this;simp only;omega
 |none=>simp only;omega
def nu(ns:List ar)(h:bh ns<0)(k:Nat)(hk:k<ns.length):eQ ns k=false:=by
 unfold bh at h
 cases hf:(range ns.length).find? (eQ ns) with
 |some j=>rw[hf]at h;simp only at h;omega
 |none=>
  rw[find?_eq_none]at hf;have:=hf k (by simpa using hk);simpa using this
def iX(ns:List ar)(h:bh ns<0):gi ns:=λk hk=>by
 have:=nu ns h k hk;rw[ip]at this;simp only[Bool.or_eq_false_iff,Bool.not_eq_false']at this;exact⟨this.1,this.2.1⟩
def mw(ns:List ar)(h:bh ns<0):bf ns=cg ns:=by
 have hd:bM ns= -1:=by
  unfold bM
  rw[ey _ _ (λk hk=>by
   have:=nu ns h k hk;rw[ip]at this;simp only[Bool.or_eq_false_iff,Bool.not_eq_false']at this
   exact this.2.2)]
 rw[ie (iX ns h),hd];simp
end Fl
structure zx7(ns:List Fl.ar)(w wr:World)(TB B T:Nat)(j:Nat)(dt:List Fl.ar):Prop where
 hj:j<=ns.length
 bt:dt.length=j
 dK:∀x,x∈dt ↔ x∈ns.take j
 dS:∀t,t<j->Fl.eQ ns t=false
 hs:zp5 wr T B dt
 hr:Yf wr TB 0
 hb:E w wr
 hw:w.heap.size<=TB
 jh:TB<B
 pE:B<T
 hz:T<wr.heap.size
def zx7.below{ns:List Fl.ar}{w wr w':World}{TB B T:Nat}{j:Nat}{dt:List Fl.ar}(h:zx7 ns w wr TB B T j dt)(hb:E wr w'):zx7 ns w w' TB B T j dt:=
 ⟨h.hj,h.bt,h.dK,h.dS,h.hs.kept (row:=none) ⟨hb.os,hb.tape,hb.output,hb.size,λk hk _=>hb.block k hk⟩ (by simp) (by simp),h.hr.below hb,h.hb.trans (hb.mono h.hb.size),h.hw,h.jh,h.pE,Qj h.hz hb.size⟩
def zc8(ns:List Fl.ar)(nv:Value)(w:World)(hn:Yz w.heap.size w nv ns)(bt:ns.length<=1000):
  F 55 #[nv] w (Rw (I (Fl.bh ns)) w):=by
 obtain⟨na,nc,rfl,_,hm,_⟩:=id hn;have HN:=A hn;clear hn hm
 go_enter func55,ntmps55
 go_wp2_with (first|(go_at_call 42;refine(zqw _).mono ?_;rintro e w1 ⟨rfl,rfl⟩)|(refine zw7 rfl _ _ 134 rfl _ _ _ Zc rfl (by simp) rfl Tryz.infoRules zqx zn5 ?_))
 have g0:((w.alloc (.cells Zc 134)).alloc (.cells Zc 134)).heap[w.heap.size+1]?=some (.cells Zc 134 (0,0)):=by
  have:=heap_alloc_last (w.alloc (.cells Zc 134)) (.cells Zc 134)
  rwa [size_alloc]at this
 have x0:E w ((w.alloc (.cells Zc 134)).alloc (.cells Zc 134)):=(bA).alloc (by simp) _;refine(ywv _).mono ?_;rintro e w1 ⟨rfl,q0,l0,y0⟩;simp only[size_alloc]at q0 l0 y0⊢
 have h0:O (zx7 ns w w1 (w.heap.size+1) (w.heap.size+1+1) (w.heap.size+1+1+1) 0 []):=
  ⟨by omega,rfl,by simp,λt ht=>by omega,q0,zh7 ((l0.block _ (by omega)).trans g0),x0.trans (l0.mono (by omega)),by omega,by omega,by omega,by omega⟩
 obtain⟨TB,jh⟩:=U (w.heap.size+1);rw[<-jh]at h0⊢;obtain⟨MB,z0⟩:=U (TB+1);rw[<-z0]at h0⊢;obtain⟨T,hT⟩:=U (MB+1);rw[<-hT]at h0⊢;clear g0 x0 q0 l0 y0 jh z0 hT
 go_wp2_with fail
 go_loopw [13] (λi wr=>∃(j:Nat) (dt:List Fl.ar),i=I j/\zx7 ns w wr TB MB T j dt) (λi _=>ns.length - (intOf i).toNat)
 case atStart=>exact⟨0,[],rfl,h0⟩
 case round=>
  clear h0;obtain⟨j,dt,rfl,hr⟩:=hrel;have hj:=hr.hj;have HR:=A hr;clear hr
  by_cases e0:j<ns.length
  ·obtain⟨b,off,rfl⟩:∃b off,na=some (Y b off):=by
    obtain⟨ao',cap',hv',_,_,hx'⟩:=HN.out;obtain⟨b,off,ha,_⟩:=hx' (by intro h;rw[h]at e0;simp at e0);simp only[slice.injEq]at hv';exact⟨b,off,hv'.1.trans ha⟩
   obtain⟨lv,A0⟩:=(HN.below HR.hb).node e0 HR.hb.size;have r0:=A A0;have O0:(j:Int)<(ns.length:Int):=(by omega);clear A0
   go_wp2_with fail
   refine(its_any r0 HR.hr).mono ?_;rintro e w2 ⟨rfl,s0⟩;have m0:O (zx7 ns w w2 TB MB T j dt):=HR.below s0;have n0:O (Vj w2 b (off+j*6) (Fl.nth ns j) lv):=r0.below s0;clear s0;obtain⟨nd,d0⟩:=U (Fl.nth ns j);rw[<-d0]at n0⊢;have i0:=A d0;clear r0 HR d0
   have t0:O (Fl.eQ ns j=true->Fl.bh ns=(j:Int)):=λh=>by
    show Fl.bh ns=_;unfold Fl.bh;rw[fL _ _ j m0.dS e0 h]
   cases j0:Fl.bD nd with
   |false=>
    have HF:O (Fl.bh ns=(j:Int)):=t0 (by rw[Fl.ip,<-i0.out,j0];rfl);clear j0;go_wp2;go_ret;exact⟨zy5 HF.symm,m0.hb⟩
   |true=>
    obtain⟨k0,H0,I0⟩:=eW j0;have J0:=A j0;have B0:=A k0;obtain⟨x,hx⟩:∃x:Nat,nd.kind=(x:Int):=⟨nd.kind.toNat,by omega⟩;have K0:x<8:=(by omega);have c0:=n0.c0;rw[hx]at c0;have h3':w2.cell? (Y TB (x*4+3))=some (.func (.func (byF x)) #[] #[]):=(by have:=(m0.hr x K0).2.2;simpa using this)
    have HC:O (F 105 #[Pp TB (x*4),Pp b (off+j*6),I j] w2 (Rw (.bool (!(prem nd).any (λx=>decide ((j:Int)<=x)))) w2)):=
     zrw TB (x*4) (byF x) j (Pp b (off+j*6)) (prem nd) w2 h3' (zn6 x _ _) (by rw[<-hx];exact zfz n0)
    have P0:(x:Int)<8:=(by omega);clear j0 k0 H0 I0 hx h3'
    go_wp2_with fail
    refine(HC.out).mono ?_;rintro e w3 ⟨rfl,u0⟩;have C0:O (zx7 ns w w3 TB MB T j dt):=m0.below u0;have L0:O (Vj w3 b (off+j*6) nd lv):=n0.below u0;clear u0 HC c0
    cases o0:(prem nd).any (λx=>decide ((j:Int)<=x)) with
    |true=>
     have HF:O (Fl.bh ns=(j:Int)):=t0 (by rw[Fl.ip,<-i0.out,o0];simp);clear o0;go_wp2;go_ret;exact⟨zy5 HF.symm,C0.hb⟩
    |false=>
     have M0:=A o0;have HC:O (F 107 #[Pp b (off+j*6)] w3 (Rw (.agg (Yq nd).toArray) w3)):=zs4 L0 B0.2.2.2.2.2.1;clear o0
     go_wp2_with (go_at_call 107;refine(HC.out).mono ?_;rintro e w4 ⟨rfl,D0⟩)
     have a0:O (zx7 ns w w4 TB MB T j dt):=C0.below D0;have E0:=a0.hs;clear D0 HC;refine(yv0 E0 B0 (by have:=a0.bt;omega)).mono ?_;rintro e w5 ⟨c,t,rfl,ht,F0,f0⟩;have b0:=a0.out;have p0:O (E w w5/\Yf w5 TB 0/\T<w5.heap.size):=by
      refine⟨b0.hb.grown f0 b0.hb.size (λk hk=>by simp only[Ql]at hk;have:=b0.hw;have:=b0.jh;omega),λk hk=>?_,Qj b0.hz f0.size⟩;have v0:some TB≠some MB:=(by have:=b0.jh;simp;omega);obtain⟨g1,g2,g3⟩:=b0.hr k hk;exact⟨f0.cell g1 v0,f0.cell g2 v0,f0.cell g3 v0⟩
     have N0:=A F0;have HT:=A ht;clear E0 F0 f0 ht b0;have G0:O (nd∈dt ↔ Fl.eH ns j=true):=by
      show _ ↔ _;rw[iu ns j e0,a0.dK,i0.out]
     cases t with
     |true=>
      have HF:O (Fl.bh ns=(j:Int)):=t0 (by rw[Fl.ip,G0.1 (HT.1 rfl)];simp);go_wp2;go_ret;exact⟨zy5 HF.symm,p0.1⟩
     |false=>
      have HD:O (Fl.eQ ns j=false):=by
       show Fl.eQ ns j=false;have h1:Fl.eH ns j=false:=by
        rw[Bool.eq_false_iff];intro h
        have:=HT.2 (G0.2 h);cases this
       rw[Fl.ip,<-i0.out,J0.out,M0.out,h1];rfl
      go_wp2
      go_roundw
      case rel=>
       refine⟨j+1,nd::dt,by go_num,⟨by omega,by simp[a0.bt],λx=>?_,λt ht=>?_,N0,p0.2.1,p0.1,a0.hw,a0.jh,a0.pE,p0.2.2⟩⟩
       ·rw[fK ns j e0,mem_cons,mem_append,mem_singleton,a0.dK x,i0.out];exact or_comm
       by_cases h:t<j
       ·exact a0.dS t h
       have:t=j:=by omega
       subst this;exact HD
      case measure=>simp[intOf];omega
  have HF:O (Fl.bh ns= -1):=by
   show Fl.bh ns= -1;unfold Fl.bh;rw[Fl.ey _ _ (λk hk=>HR.dS k (by omega))]
  go_wp2;go_ret;exact⟨zy5 HF.symm,HR.hb⟩
namespace Fl
def jI(h:x<256):(UInt8.ofNat x).toNat=x:=by simp;omega
def fG(h:x<128)(f:Nat):cK f x=[UInt8.ofNat x]:=by
 cases f with
 |zero=>rfl
 |succ f=>simp only[cK,G h]
def kC(at_ len:Nat)(r:K)(f:Nat):∀k v unit x,unit=128 ^ k->k<=4->(k=0\/0<x)->v+x*unit<2147483648->x<128 ^ (f+1)->
  ep at_ len k v unit (cK f x++r)=(((v+x*unit:Nat):Int),((at_+k+(cK f x).length:Nat):Int),0):=by
 have small:∀f k v unit x,(k=0\/0<x)->v+x*unit<2147483648->x<128->ep at_ len k v unit (cK f x++r)=(((v+x*unit:Nat):Int),((at_+k+(cK f x).length:Nat):Int),0):=by
  intro f k v unit x hx a0 hs;rw[fG hs];have e:(UInt8.ofNat x).toNat=x:=jI (by omega);have em:x % 128=x:=Nat.mod_eq_of_lt hs;simp only[cons_append,nil_append,ep,e,em];rw[Z (by rintro(⟨h1,h2⟩|h|⟨h1,h2⟩)<;>omega),G hs];simp[Nat.add_assoc]
 induction f with
 |zero=>intro k v unit x hu hk hx a0 hs;exact small 0 k v unit x hx a0 (by simpa using hs)
 |succ f ih=>
  intro k v unit x hu hk hx a0 hs
  by_cases h:x<128
  ·exact small (f+1) k v unit x hx a0 h
  have e:(UInt8.ofNat (x % 128+128)).toNat=x % 128+128:=jI (by omega);have em:(x % 128+128) % 128=x % 128:=(by omega);have c0:x=x / 128*128+x % 128:=(by omega);have b0:v+x % 128*unit+x / 128*(unit*128)=v+x*unit:=by
   have:x*unit=x / 128*(unit*128)+x % 128*unit:=by
    conv=>lhs;rw[c0]
    rw[Nat.add_mul,Nat.mul_assoc,Nat.mul_comm 128 unit]
   omega
  have d0:k≠4:=by
   intro h4;subst h4;have h1:unit=268435456:=(by rw[hu]);rw[h1]at a0;omega
  have hc:cK (f+1) x=UInt8.ofNat (x % 128+128)::cK f (x / 128):=(by simp only[cK,Z h]);rw[hc];simp only[cons_append,ep,e,em];rw[Z (by rintro(⟨h1,h2⟩|h|⟨h1,h2⟩)<;>omega),Z (by omega)];rw[ih (k+1) _ _ (x / 128) (by rw[hu,Nat.pow_succ]) (by omega) (Or.inr (by omega)) (by omega) (by rw[Nat.pow_succ]at hs;omega),b0];simp only[length_cons]
  congr 2;congr 1;omega
def fS{v:Nat}(h:s.drop p=aM v++r)(hv:v<2147483648):num s p=((v:Int),((p+(aM v).length:Nat):Int),0):=by
 unfold num;rw[h];have:=kC p s.length r 9 0 0 1 v (by rfl) (by omega) (Or.inl rfl) (by omega) (by omega);simpa [aM] using this
def mu(at_ len:Nat)(l:K):∀k v unit f,k<=4->4<=k+f->0<=(ep at_ len k v unit l).2.1->
  ∃x,(k=0\/0<x)/\(ep at_ len k v unit l).1=((v+x*unit:Nat):Int)/\(ep at_ len k v unit l).2.1=((at_+k+(cK f x).length:Nat):Int)/\l=cK f x++l.drop (cK f x).length:=by
 induction l with
 |nil=>intro k v unit f hk hf h;simp[ep]at h
 |cons c r ih=>
  intro k v unit f hk hf h;have hc:=c.toNat_lt;simp only[ep]at h⊢
  by_cases h1:(c.toNat=0/\0<k)\/2147483648<=v+c.toNat % 128*unit\/(k=4/\128<=c.toNat)
  ·rw[G h1]at h;simp at h
  rw[Z h1]at h⊢
  by_cases h2:c.toNat<128
  ·rw[G h2]
   refine⟨c.toNat,?_,by rw[Nat.mod_eq_of_lt h2],?_,?_⟩
   ·by_cases b0:k=0
    ·exact Or.inl b0
    right;rcases Nat.eq_zero_or_pos c.toNat with h0|h0
    ·exact absurd (Or.inl ⟨h0,by omega⟩) h1
    exact h0
   ·rw[fG h2];rfl
   rw[fG h2];simp
  rw[Z h2]at h⊢;have c0:k≠4:=λh4=>h1 (Or.inr (Or.inr ⟨h4,by omega⟩));obtain⟨f',rfl⟩:∃f',f=f'+1:=⟨f - 1,by omega⟩;obtain⟨y,hy,e1,e2,e3⟩:=ih (k+1) (v+c.toNat % 128*unit) (unit*128) f' (by omega) (by omega) h
  have d0:0<y:=by rcases hy with h|h<;>omega
  have a0:cK (f'+1) (c.toNat % 128+y*128)=c::cK f' y:=by
   have hn:¬(c.toNat % 128+y*128)<128:=(by omega);simp only[cK,Z hn];have q1:(c.toNat % 128+y*128) % 128+128=c.toNat:=(by omega);have q2:(c.toNat % 128+y*128) / 128=y:=(by omega);rw[q1,q2];simp
  refine⟨c.toNat % 128+y*128,Or.inr (by omega),?_,?_,?_⟩
  ·rw[e1];congr 1
   rw[Nat.add_mul,Nat.mul_assoc,Nat.mul_comm 128 unit];omega
  ·rw[e2,a0];simp only[length_cons];congr 1;omega
  rw[a0];simp only[length_cons,cons_append,drop_succ_cons];rw[<-e3]
def gp(hp:p<=s.length)(h:0<=(num s p).2.1):∃v:Nat,(num s p).1=(v:Int)/\v<2147483648/\(num s p).2.1=((p+(aM v).length:Nat):Int)/\s.drop p=aM v++s.drop (p+(aM v).length):=by
 obtain⟨x,_,e1,e2,e3⟩:=mu p s.length (s.drop p) 0 0 1 9 (by omega) (by omega) h;have ho:=ei s p hp;refine⟨x,by rw[num,e1];simp,?_,by rw[num,e2];simp[aM],by rw[<-drop_drop];exact e3⟩
 have:(num s p).1=(x:Int):=by rw[num,e1];simp
 omega
def eS(x:Int)(l:Is):aW (x::l)=aM x.toNat++aW l:=by simp[aW]
def eT(h:s.drop p=a++r):s.drop (p+a.length)=r:=by
 rw[<-drop_drop,h];simp
def kZ(s r:K):∀(xs:Is) (p:Nat) (acc:Is),s.drop p=aW xs++r->xs.all cd=true->
  db s xs.length p acc=(acc++xs,((p+(aW xs).length:Nat):Int),0):=by
 intro xs
 induction xs with
 |nil=>intro p acc h _;simp[db,aW]
 |cons x xs ih=>
  intro p acc h ha;simp only[all_cons,Qk]at ha;have hx:=ha.1;simp only[cd,Qk,Qn]at hx;rw[eS,append_assoc]at h;have hn:=fS h (by omega);simp only[length_cons,db,hn];rw[Z (by omega),Qm,ih _ _ (eT h) ha.2,eS];simp only[length_append,Int.toNat_of_nonneg hx.1,append_assoc,singleton_append,Nat.add_assoc]
def gL(h:s.drop p=aW xs++r)(ha:xs.all cd=true):cW s p xs.length=(xs,((p+(aW xs).length:Nat):Int),0):=by
 have:=kZ s r xs p [] h ha;simpa [cW] using this
def kB(s:K)(n:Nat):∀(p:Nat) (acc:Is),p<=s.length->0<=(db s n p acc).2.1->
  ∃xs:Is,(db s n p acc).1=acc++xs/\xs.length=n/\xs.all cd=true/\(db s n p acc).2.1=((p+(aW xs).length:Nat):Int)/\s.drop p=aW xs++s.drop (p+(aW xs).length):=by
 induction n with
 |zero=>intro p acc hp h;exact⟨[],by simp[db],rfl,rfl,by simp[db,aW],by simp[aW]⟩
 |succ n ih=>
  intro p acc hp h;simp only[db]at h⊢
  by_cases h1:(num s p).2.1<0
  ·rw[G h1]at h;simp at h
  rw[Z h1]at h⊢;obtain⟨v,e1,e2,e3,e4⟩:=gp hp (by omega);have ho:=ei s p hp;rw[e1,e3,Qm]at h⊢;obtain⟨xs,f1,f2,f3,f4,f5⟩:=ih _ _ (by omega) h;refine⟨(v:Int)::xs,by rw[f1];simp,by simp[f2],?_,?_,?_⟩
  ·simp only[all_cons,f3,Bool.and_true,cd,Qk,Qn];omega
  ·rw[f4,eS];simp[Nat.add_assoc]
  rw[eS,Qm,append_assoc,length_append,<-Nat.add_assoc,<-f5];exact e4
def io(hp:p<=s.length)(h:0<=(cW s p n).2.1):
  ∃xs:Is,(cW s p n).1=xs/\xs.length=n/\xs.all cd=true/\(cW s p n).2.1=((p+(aW xs).length:Nat):Int)/\s.drop p=aW xs++s.drop (p+(aW xs).length):=by
 have:=kB s n p [] hp h;simpa [cW] using this
end Fl
namespace Fl
def iS{x:Int}(h:cd x=true):0<=x/\x<2147483648:=by simpa [cd] using h
def pD{k:Int}(h:aJ k≠ -2):0<=k/\k<8:=by unfold aJ at h;(repeat' split at h)<;>omega
def nE(h:s.drop p=a++r)(ha:0<a.length):p<s.length:=by
 rcases Nat.lt_or_ge p s.length with h1|h1
 ·exact h1
 rw[drop_eq_nil_of_le h1]at h;have:=congrArg length h;simp at this;omega
def Jo{c:UInt8}(h:s.drop p=c::r):p<s.length/\s.getD p 0=c/\s.drop (p+1)=r:=by
 have h1:p<s.length:=nE (a:=[c]) (r:=r) (by simpa using h) (by simp);refine⟨h1,?_,by rw[<-drop_drop,h];rfl⟩
 have:(s.drop p)[0]?=some c:=by rw[h];rfl
 rw[getElem?_drop]at this;rw[Qa];simpa using congrArg (λo=>o.getD 0) this
def mr{nd:ar}(h:s.drop p=aA nd++r)(hs:bD nd=true)(hb:(prem nd).any (λx=>decide ((k:Int)<=x))=false):
  one s p k=(nd,((p+(aA nd).length:Nat):Int),0):=by
 simp only[bD,Qk,Bool.or_eq_true,Qn]at hs;obtain⟨hk,k0,bt,ha,i0,hc,aH,hz⟩:=hs;obtain⟨l0,m0⟩:=pD hk;obtain⟨j0,n0⟩:=iS k0;unfold aA at h;rw[cons_append]at h;obtain⟨hp,hd,h1⟩:=Jo h
 have d0:((s.getD p 0).toNat:Int)=nd.kind:=by rw[hd,jI (by omega)];omega
 rw[append_assoc]at h1;have hn:=fS h1 (by omega);have h2:=eT h1
 have fin:∀e,cZ p k nd e=(nd,e,0):=λe=>by unfold cZ;rw[hb];rfl
 unfold one;rw[Z (by omega)];simp only[d0,hn];rw[Z hk,Z (by omega)];simp only[Qm]
 by_cases hf:aJ nd.kind= -1
 ·rw[G hf]
  have a0:aJ nd.kind<0:=(by omega);rw[G a0,append_assoc]at h2;have hm:=fS h2 (by omega);have h3:=eT h2;have b0:cf nd=nd.aU:=(by unfold cf;rw[G a0]);rw[b0]at h3;have hl:=gL h3 aH;simp only[hm,Qm];rw[Z (by omega),Z (by omega)];simp only[hl];rw[Z (by omega)];have e0:(⟨nd.kind,(nd.ag.toNat:Int),0,0,0,nd.aU⟩:ar)=nd:=by
   have q:∀i x,jB (aJ nd.kind) i x=true->0<=i->x=0:=λi x hx hi=>by
    simp only[jB,Qk,Bool.or_eq_true,Qn]at hx;omega
   obtain⟨kd,lv,a,b,c,li⟩:=nd;simp only[ar.mk.injEq];exact⟨trivial,Int.toNat_of_nonneg j0,(q 0 _ ha (by omega)).symm,(q 1 _ i0 (by omega)).symm,(q 2 _ hc (by omega)).symm,trivial⟩
  rw[e0,fin]
  congr 2
  unfold aA;rw[G a0,b0];simp only[length_cons,length_append];omega
 rw[Z hf]
 have a0:¬aJ nd.kind<0:=by have:=gk nd.kind;omega
 rw[Z a0,nil_append]at h2
 have b0:cf nd=[nd.a,nd.b,nd.c].take (aJ nd.kind).toNat:=by unfold cf;rw[Z a0]
 have o0:=gk nd.kind
 have f0:(cf nd).length=(aJ nd.kind).toNat:=by rw[b0];simp;omega
 have okR:∀i x,jB (aJ nd.kind) i x=true->cd x=true/\(aJ nd.kind<=i->x=0):=λi x hx=>by
  simp only[jB,Qk,Bool.or_eq_true,Qn]at hx;exact⟨hx.1,λh=>by omega⟩
 obtain⟨ra,za⟩:=okR 0 _ ha;obtain⟨rb,zb⟩:=okR 1 _ i0;obtain⟨rc,zc⟩:=okR 2 _ hc;have g0:(cf nd).all cd=true:=by
  rw[all_eq_true];intro x hx;rw[b0]at hx;have:=mem_of_mem_take hx;simp only[mem_cons,not_mem_nil,or_false]at this;rcases this with rfl|rfl|rfl<;>assumption
 have hl:=gL h2 g0;rw[f0]at hl;simp only[hl];rw[Z (by omega)]
 have h0:nd.aU=[]:=by rcases hz with h|h;exact absurd h hf;exact h
 have e0:(⟨nd.kind,(nd.ag.toNat:Int),(cf nd).getD 0 0,(cf nd).getD 1 0,(cf nd).getD 2 0,[]⟩:ar)=nd:=by
  rw[b0];have c0:aJ nd.kind=0\/aJ nd.kind=1\/aJ nd.kind=2\/aJ nd.kind=3:=(by omega);obtain⟨kd,lv,a,b,c,li⟩:=nd;simp only[ar.mk.injEq]at*;refine⟨trivial,Int.toNat_of_nonneg j0,?_,?_,?_,h0.symm⟩<;>(rcases c0 with c0|c0|c0|c0<;>rw[c0]at za zb zc⊢<;>simp<;>first|done|exact(za (by omega)).symm|exact(zb (by omega)).symm|exact(zc (by omega)).symm)
 rw[e0,fin]
 congr 2
 unfold aA;rw[Z a0];simp only[length_cons,length_append,nil_append,length_nil];omega
def nt(hp:p<=s.length)(h:0<=(one s p k).2.1):
  s.drop p=aA (one s p k).1++s.drop (p+(aA (one s p k).1).length)/\(one s p k).2.1=((p+(aA (one s p k).1).length:Nat):Int):=by
 unfold one at h⊢
 by_cases h0:p=s.length
 ·rw[G h0]at h;simp at h
 rw[Z h0]at h⊢;simp only at h⊢
 by_cases h1:aJ ((s.getD p 0).toNat:Int)= -2
 ·rw[G h1]at h;simp at h
 rw[Z h1]at h⊢;have d0:s.drop p=s.getD p 0::s.drop (p+1):=by
  rw[drop_eq_getElem_cons (show p<s.length by omega),Qa,Qb (show p<s.length by omega)];rfl
 generalize hc:s.getD p 0=c at*
 have g0:UInt8.ofNat ((c.toNat:Int)).toNat=c:=by simp
 have c0:∀(nd:ar) (e:Int),nd.kind=(c.toNat:Int)->0<=(cZ p k nd e).2.1->e=((p+(aA nd).length:Nat):Int)->s.drop p=aA nd++s.drop (p+(aA nd).length)->
   s.drop p=aA (cZ p k nd e).1++s.drop (p+(aA (cZ p k nd e).1).length)/\(cZ p k nd e).2.1=((p+(aA (cZ p k nd e).1).length:Nat):Int):=by
  intro nd e _ hh he hd;unfold cZ at hh⊢
  by_cases hq:((prem nd).any λx=>decide ((k:Int)<=x))=true
  ·rw[G hq]at hh;simp at hh
  rw[Z hq];exact⟨hd,he⟩
 have dS:=ei s (p+1) (by omega)
 by_cases h2:(num s (p+1)).2.1<0
 ·rw[G h2]at h;simp at h
 rw[Z h2]at h⊢;obtain⟨v,a1,a2,a3,a4⟩:=gp (s:=s) (p:=p+1) (by omega) (by omega);rw[a1,a3]at h⊢;rw[a3]at dS;simp only[Qm]at h⊢
 by_cases h3:aJ (c.toNat:Int)= -1
 ·rw[G h3]at h⊢
  have a0:aJ (c.toNat:Int)<0:=(by omega);have e0:=ei s (p+1+(aM v).length) (by omega)
  by_cases h4:(num s (p+1+(aM v).length)).2.1<0
  ·rw[G h4]at h;simp at h
  rw[Z h4]at h⊢;obtain⟨m,b1,b2,b3,b4⟩:=gp (s:=s) (p:=p+1+(aM v).length) (by omega) (by omega);rw[b1,b3]at h⊢;rw[b3]at e0;simp only[Qm]at h⊢
  by_cases h5:(16:Int)<(m:Int)
  ·rw[G h5]at h;simp at h
  rw[Z h5]at h⊢
  by_cases h6:(cW s (p+1+(aM v).length+(aM m).length) m).2.1<0
  ·rw[G h6]at h;simp at h
  rw[Z h6]at h⊢;obtain⟨xs,c1,c2,c3,c4,c5⟩:=io (s:=s) (p:=p+1+(aM v).length+(aM m).length) (n:=m) (by omega) (by omega);rw[c1,c4]at h⊢;have hnb:aA ⟨(c.toNat:Int),(v:Int),0,0,0,xs⟩=c::(aM v++(aM m++aW xs)):=by
   unfold aA cf;simp only[G a0,Qm,c2];rw[show UInt8.ofNat c.toNat=c by simp]
  refine c0 _ _ rfl h ?_ ?_
  ·rw[hnb];simp only[length_cons,length_append];congr 1;omega
  rw[hnb];simp only[length_cons,length_append,cons_append,append_assoc];rw[d0,a4,b4,c5]
  have:p+((aM v).length+((aM m).length+(aW xs).length)+1)=p+1+(aM v).length+(aM m).length+(aW xs).length:=by omega
  rw[this]
 rw[Z h3]at h⊢;have i0:=gk (c.toNat:Int)
 have a0:¬aJ (c.toNat:Int)<0:=by omega
 by_cases h6:(cW s (p+1+(aM v).length) (aJ (c.toNat:Int)).toNat).2.1<0
 ·rw[G h6]at h;simp at h
 rw[Z h6]at h⊢;obtain⟨xs,c1,c2,c3,c4,c5⟩:=io (s:=s) (p:=p+1+(aM v).length) (n:=(aJ (c.toNat:Int)).toNat) (by omega) (by omega);rw[c1,c4]at h⊢;have f0:cf ⟨(c.toNat:Int),(v:Int),xs.getD 0 0,xs.getD 1 0,xs.getD 2 0,[]⟩=xs:=by
  unfold cf;simp only[Z a0];have b0:aJ (c.toNat:Int)=0\/aJ (c.toNat:Int)=1\/aJ (c.toNat:Int)=2\/aJ (c.toNat:Int)=3:=(by omega);rcases b0 with b0|b0|b0|b0<;>rw[b0]at c2⊢
  ·cases xs with
   |nil=>rfl
   |cons a t=>simp at c2
  ·obtain⟨a,rfl⟩:=length_eq_one_iff.1 c2;rfl
  ·match xs,c2 with
   |[a,b],_=>rfl
  match xs,c2 with
  |[a,b,d],_=>rfl
 have hnb:aA ⟨(c.toNat:Int),(v:Int),xs.getD 0 0,xs.getD 1 0,xs.getD 2 0,[]⟩=c::(aM v++aW xs):=by
  unfold aA;rw[f0];simp only[Z a0,Qm,nil_append];rw[show UInt8.ofNat c.toNat=c by simp]
 refine c0 _ _ rfl h ?_ ?_
 ·rw[hnb];simp only[length_cons,length_append];congr 1;omega
 rw[hnb];simp only[length_cons,length_append,cons_append,append_assoc];rw[d0,a4,c5]
 have:p+((aM v).length+(aW xs).length+1)=p+1+(aM v).length+(aW xs).length:=by omega
 rw[this]
def eR(x:ar)(l:List ar):aG (x::l)=aA x++aG l:=by simp[aG]
def jH(s r:K):∀(ns:List ar) (k p:Nat) (st:Is) (acc:List ar),s.drop p=aG ns++r->(∀i,i<ns.length->bD (nth ns i)=true/\(prem (nth ns i)).any (λx=>decide (((k+i:Nat):Int)<=x))=false)->
  ∃st',cF s ns.length k p st acc=(acc++ns,st',((p+(aG ns).length:Nat):Int),-1):=by
 intro ns
 induction ns with
 |nil=>intro k p st acc h _;exact⟨st,by simp[cF,aG]⟩
 |cons x ns ih=>
  intro k p st acc h hg;rw[eR,append_assoc]at h;have h0:=hg 0 (by simp);have ho:=mr h h0.1 h0.2
  obtain⟨st',he⟩:=ih (k+1) (p+(aA x).length) (st++[(p:Int)]) (acc++[x]) (eT h) (λi hi=>by
   have:=hg (i+1) (by simp;omega)
   rw[show k+(i+1)=k+1+i by omega]at this;exact this)
  refine⟨st',?_⟩;simp only[length_cons,cF];simp only[nth,getD_cons_zero,Nat.add_zero]at ho;rw[ho];rw[Z (by simp only;omega)];simp only[Qm];rw[he,eR];simp[Nat.add_assoc]
def kY(s:K)(m:Nat):∀(k p:Nat) (st:Is) (acc:List ar),p<=s.length->(cF s m k p st acc).2.2.2<0->
  ∃ns,(cF s m k p st acc).1=acc++ns/\ns.length=m/\(cF s m k p st acc).2.2.1=((p+(aG ns).length:Nat):Int)/\s.drop p=aG ns++s.drop (p+(aG ns).length):=by
 induction m with
 |zero=>intro k p st acc hp h;exact⟨[],by simp[cF],rfl,by simp[cF,aG],by simp[aG]⟩
 |succ m ih=>
  intro k p st acc hp h;have a0:=kM s p k hp;simp only[cF]at h⊢
  by_cases h1:(one s p k).2.1<0
  ·rw[G h1]at h;simp only at h;omega
  rw[Z h1]at h⊢;obtain⟨e1,e2⟩:=nt hp (show 0<=(one s p k).2.1 by omega);rw[e2]at a0;rw[e2,Qm]at h⊢;obtain⟨ns,f1,f2,f3,f4⟩:=ih _ _ _ _ (by omega) h;refine⟨(one s p k).1::ns,by rw[f1];simp,by simp[f2],?_,?_⟩
  ·rw[f3,eR];simp[Nat.add_assoc]
  rw[eR,append_assoc,length_append,<-Nat.add_assoc,<-f4];exact e1
end Fl
def yh8{B:Nat}(h:Zw B w v xs)(hc:∀b o,b<B->w'.cell? (Y b o)=w.cell? (Y b o)):Zw B w' v xs:=by
 obtain⟨ao,cap,hv,c0,hl,hx⟩:=h;refine⟨ao,cap,hv,c0,hl,λd0=>?_⟩;obtain⟨b,off,ha,b0,a0⟩:=hx d0;exact⟨b,off,ha,b0,λi hi=>(hc b _ b0).trans (a0 i hi)⟩
def zg2{base':Nat}{e:TypeId}{size:Nat}{xs:Vs}(h:w.ownsRow base e size v n xs)(hb:base'<=base):w.ownsRow base' e size v n xs:=
 ⟨h.1,h.2.imp id (λ⟨g,cap,cur,hv,hg,rest⟩=>⟨g,cap,cur,hv,Nat.le_trans hb hg,rest⟩)⟩
def yx1{nd:Fl.ar}(hk:nd.kind=(k:Int))(h8:k<8)(h7:k≠7)(a0:nd.ag=(lev:Int)):Fl.aA nd=[UInt8.ofNat k]++(Fl.aM lev++Fl.aW ([nd.a,nd.b,nd.c].take (Xx k))):=by
 unfold Fl.aA Fl.cf;rw[hk,a0,zi6 k h8 h7,Z (by omega),Z (by omega)];simp
def zc9{nd:Fl.ar}(hk:nd.kind=((7:Nat):Int))(a0:nd.ag=(lev:Int)):Fl.aA nd=[UInt8.ofNat 7]++(Fl.aM lev++(Fl.aM nd.aU.length++Fl.aW nd.aU)):=by
 unfold Fl.aA Fl.cf
 have:Fl.aJ (((7:Nat):Int))= -1:=by decide
 rw[hk,a0,this];simp
def yh9(ls:Is)(ns:List Fl.ar)(la na:Option Addr)(lc nc B:Nat)(w:World)(hB:B<=w.heap.size)(hl:Zw B w (J la ls.length lc) ls)(hn:Yz B w (J na ns.length nc) ns)(h1:ls.length<=4)(aH:ls.all Fl.cd=true)(h2:ns.length<=200)(m0:∀k,k<ns.length->Fl.bD (Fl.nth ns k)=true):
  F 57 #[.agg #[J la ls.length lc,J na ns.length nc]] w λe w'=>∃v',e=.returned v'/\w'.ownsRow w.heap.size 5 1 v' (bQ ls ns++Fl.aG ns).length ((bQ ls ns++Fl.aG ns).map Xq)/\E w w':=by
 obtain⟨i0,hi,P1,Q1,R1⟩:=info_parts Tryz.infoByte;have HL:=A hl;have HN:=A hn;have HA:=A aH;have HS:=A m0;have kc:=Lib.run_convert_bytes_const (P:=prog) (((w.alloc (.cells #[J la ls.length lc,J na ns.length nc] 89)).alloc (.cells Zc 134)).alloc (.cells Zc 134)) 29 5 #[.int .u8 70,.int .u8 80,.int .u8 49] 3 3 underlying29 underlying5;simp only[size_alloc,size_toArray,length_cons,length_nil,Nat.reduceAdd]at kc
 go_enter func57,ntmps57
 go_wp2_with (first|(go_at_call 42;refine(zqw _).mono ?_;rintro e w1 ⟨rfl,rfl⟩)|(refine zw7 rfl _ _ 134 rfl _ _ _ Zc rfl (by simp) rfl Tryz.infoRules zqx zn5 ?_))
 obtain⟨W4,n0⟩:=U (((((w.alloc (.cells #[J la ls.length lc,J na ns.length nc] 89)).alloc (.cells Zc 134)).alloc (.cells Zc 134)).alloc (.cells #[.int .u8 70,.int .u8 80,.int .u8 49] 5 (3,4))));rw[<-n0]
 have S1:W4.heap.size=w.heap.size+4:=by rw[n0];simp
 have W0:E w W4:=by
  rw[n0];exact(((bA).alloc (by simp) _).alloc (by simp;omega) _).alloc (by simp;omega) _
 have x0:W4.heap[w.heap.size+2]?=some (.cells Zc 134 (0,0)):=by
  rw[n0,Below.heap_alloc _ _ _ (by simp)];have:=heap_alloc_last ((w.alloc (.cells #[J la ls.length lc,J na ns.length nc] 89)).alloc (.cells Zc 134)) (.cells Zc 134);simpa only [size_alloc] using this
 have v1:W4.heap[w.heap.size]?=some (.cells #[J la ls.length lc,J na ns.length nc] 89 (0,0)):=by
  rw[n0,Below.heap_alloc _ _ _ (by simp;omega),Below.heap_alloc _ _ _ (by simp;omega),Below.heap_alloc _ _ _ (by simp)];exact heap_alloc_last _ _
 have y0:W4.heap[w.heap.size+3]?=some (.cells #[.int .u8 70,.int .u8 80,.int .u8 49] 5 (3,4)):=by
  have:=heap_alloc_last (((w.alloc (.cells #[J la ls.length lc,J na ns.length nc] 89)).alloc (.cells Zc 134)).alloc (.cells Zc 134)) (.cells #[.int .u8 70,.int .u8 80,.int .u8 49] 5 (3,4));rw[n0];simpa only [size_alloc] using this
 have x1:O (Yf W4 (w.heap.size+2) 0):=zh7 x0;have HH:O (Jp W4 (w.heap.size+3) (Sq (w.heap.size+3) 0 3 3) ([70,80,49]:K).length (([70,80,49]:K).map Xq)):=by
  refine .inr ⟨w.heap.size+3,lE,by omega,rfl,rfl,λj u hj=>?_⟩
  have h2:((Y (w.heap.size+3) 0):Addr).add j=(Y (w.heap.size+3) j):=by unfold Addr.add;split<;>simp_all
  rw[h2,cell_of_row W4 _ j _ _ _ y0];simpa [Xq] using hj
 have T1:=A v1;have X0:=A W0
 have y1:O (F 108 #[Sq (w.heap.size+3) 0 3 3,J la ls.length lc] W4 λe w'=>∃v',e=.returned v'/\w'.ownsRow (w.heap.size+3) 5 1 v' (([70,80,49]:K)++(Fl.aM ls.length++Fl.aW ls)).length ((([70,80,49]:K)++(Fl.aM ls.length++Fl.aW ls)).map Xq)/\Below (w.heap.size+3) W4 w'/\Xt W4 (Sq (w.heap.size+3) 0 3 3) w' v'):=
  zo7 ls HA (by omega) B (w.heap.size+3) (by omega) (J la ls.length lc) [70,80,49] _ W4 (HL.below (W0.mono hB)) HH (by simp) (by omega)
 refine(y1.out).mono ?_;rintro e w5 ⟨v5,rfl,M0,N0,_⟩;have U1:=dr ls.length;have V1:=dL ls
 have W1:(([70,80,49]:K)++(Fl.aM ls.length++Fl.aW ls)).length<=60:=by simp only[length_append,length_cons,length_nil];omega
 obtain⟨xs5,Y0⟩:=U ((([70,80,49]:K)++(Fl.aM ls.length++Fl.aW ls)));rw[<-Y0]at M0 W1;have X1:=A Y0;have Y1:=A M0;have Z1:=A N0;have q1:D w5 w.heap.size 1 (J na ns.length nc):=cT N0 (by simp) ((cell_of_row _ _ _ _ _ _ T1).trans rfl)
 have z0:O (F 109 #[v5,I (ns.length:Nat)] w5 λe w'=>∃v',e=.returned v'/\w'.ownsRow (w.heap.size+3) 5 1 v' (xs5++Fl.aM ns.length).length ((xs5++Fl.aM ns.length).map Xq)/\Below (w.heap.size+3) w5 w'/\Xt w5 v5 w' v'):=
  zzz ns.length (by omega) (w.heap.size+3) xs5 v5 w5 (.inl M0) (by omega) (by have:=N0.size;omega)
 go_wp2_with fail
 refine(z0.out).mono ?_;rintro e w6 ⟨v6,rfl,z1,Z0,_⟩;have A1:=A z1;have B1:O (Below (w.heap.size+3) W4 w6):=Z1.trans Z0;have q6:D w6 w.heap.size 1 (J na ns.length nc):=cT Z0 (by simp) q1
 have a2:(xs5++Fl.aM ns.length).length<=70:=by have:=dr ns.length;simp only[length_append];omega
 have C1:O (xs5++Fl.aM ns.length=bQ ls ns):=by
  show _=_;rw[X1.out];unfold bQ;simp[append_assoc]
 go_wp2_with fail
 obtain⟨TB,jh⟩:=U (w.heap.size+1+1);rw[<-jh]
 have b2:O (Yf W4 TB 0):=by subst jh;exact x1
 have z2:=A jh
 have u0:O (w6.ownsRow (TB+1) 5 1 v6 (xs5++Fl.aM ns.length).length ((xs5++Fl.aM ns.length).map Xq)):=by subst jh;exact A1
 have D1:O (Below (TB+1) W4 w6):=by subst jh;exact B1
 have hz4':W4.heap.size=TB+2:=by omega
 have A2:w.heap.size<TB:=by omega
 clear jh A1 B1 x1 q6 S1
 go_loopw [4,24] (λv i wr=>∃(j:Nat) (xs:K),j<=ns.length/\i=I j/\xs=bQ ls ns++Fl.aG (ns.take j)/\wr.ownsRow (TB+1) 5 1 v xs.length (xs.map Xq)/\Below (TB+1) W4 wr) (λ_ i _=>ns.length - (intOf i).toNat)
 case atStart=>exact⟨0,xs5++Fl.aM ns.length,by omega,rfl,by rw[C1.out];simp[Fl.aG],u0,D1⟩
 case round=>
  clear u0 D1 C1 a2;obtain⟨j,xs,hj,rfl,a1,d0,o0⟩:=hrel;have b1:=A a1;have A0:=A d0;have p0:=A o0;have B2:xs.length<=41000:=by
   have h1:=gJ (ns.take j) (λx hx=>by
    obtain⟨i,hi,rfl⟩:=nQ (mem_of_mem_take hx);exact HS i hi)
   have h2:=dr ls.length;have h3:=dL ls;have h4:=dr ns.length;have h5:(ns.take j).length<=200:=(by simp;omega);rw[a1];simp only[bQ,length_append,length_cons,length_nil];omega
  have C2:TB+2<=wr.heap.size:=(by have:=o0.size;omega);clear a1 d0 o0
  by_cases v0:j<ns.length
  ·obtain⟨b,off,rfl⟩:∃b off,na=some (Y b off):=by
    obtain⟨ao',cap',hv',_,_,hx'⟩:=HN.out;obtain⟨b,off,ha,_⟩:=hx' (by intro h;rw[h]at v0;simp at v0);simp only[slice.injEq]at hv';exact⟨b,off,hv'.1.trans ha⟩
   have E1:E w wr:=X0.trans (p0.mono (by omega));obtain⟨D2,lv,c0,c1,c2,c3,c4,c5,c6⟩:=(HN.below (E1.mono hB)).at v0;have m0:=HS j v0;obtain⟨nd,f1⟩:=U (Fl.nth ns j);rw[<-f1]at c0 c1 c2 c3 c4 c5 m0;have F1:=A f1;obtain⟨B0,d2,f2⟩:=eW m0;obtain⟨k,hk⟩:∃k:Nat,nd.kind=(k:Int):=⟨nd.kind.toNat,by omega⟩;have h8:k<8:=(by omega);rw[hk]at c1;obtain⟨lao,lcap,rfl,_⟩:=id c0;have i2:O (∀W,Below (TB+1) W4 W->Zw B W (J lao nd.aU.length lcap) nd.aU):=λW hW=>yh8 c0 (λb o hb=>cT hW (by omega) (p0.cell (p:=(Y b o)) (by simp only;omega)).symm);have O0:=A B0;have E2:=A m0;have HK:=A hk
   have j2:O (Yf wr TB 0):=λk hk=>by
    obtain⟨g1,g2,g3⟩:=b2 k hk;exact⟨cT p0 (by simp) g1,cT p0 (by simp) g2,cT p0 (by simp) g3⟩
   have F2:(j:Int)<(ns.length:Int):=(by omega);have h8':(k:Int)<8:=(by omega);clear f1 B0 d2 f2 hk c0 m0 E1;have k2:O (∀o o',Jp ((wr.alloc o).alloc o') (TB+1) u4 xs.length (xs.map Xq)):=λo o'=>(Jp.alloc (Or.inl A0) o).alloc o'
   go_wp2_with (at_builtin;(refine zy9 _ rfl _ _ 29 rfl (TB+1) i0 (.int .u8 0) underlying29 hi P1 Q1 R1 rfl _ _ _ rfl (k2 _ _) (Y _ 0) 1 1 [.int .u8 (k:Int)] rfl rfl (by decide) yyw ?c2 ?c3 ?c4 ?c5 ?_))
   case c2=>intro u hu;simp at hu;subst hu;rfl
   case c3=>unfold maxLen;omega
   case c4=>omega
   case c5=>simp;omega
   intro v7 w7 i1 j1 k1;obtain⟨N,hN⟩:=U (wr.heap.size);obtain⟨WA,C0⟩:=U (wr.alloc (.cells #[I (k:Int),I nd.ag,I nd.a,I nd.b,I nd.c,J lao nd.aU.length lcap] 188));have l2:WA.heap.size=N+1:=(by rw[C0,hN];simp);have h0:WA.heap[N]?=some (.cells #[I (k:Int),I nd.ag,I nd.a,I nd.b,I nd.c,J lao nd.aU.length lcap] 188 (0,0)):=(by rw[C0,hN];exact heap_alloc_last _ _);have P0:Below N wr WA:=(by rw[C0,hN];exact bA);rw[<-C0]at j1;have Q0:O (Xt WA u4 w7 v7):=((Xt.refl WA u4).alloc _).append j1 (by simp only[size_alloc,l2,hN]at k1⊢;exact k1);have u0:O (w7.ownsRow (TB+1) 5 1 v7 (xs++[UInt8.ofNat k]).length ((xs++[UInt8.ofNat k]).map Xq)):=by
    have m2:(.int .u8 (k:Int):Value)=Xq (UInt8.ofNat k):=by
     have h2:(UInt8.ofNat k).toNat=k:=(by simp;omega);unfold Xq;rw[h2]
    rw[m2]at i1;show ownsRow _ _ _ _ _ _ _;simpa using i1
   have D0:some N≠u4.ownBlock:=λhh=>by have:=(A0.lt N hh.symm).2;omega
   have E0:some TB≠u4.ownBlock:=λhh=>by have:=(A0.lt TB hh.symm).1;omega
   have F0:O (∀W V,Xt WA u4 W V->(∀o,W.cell? (Y N o)=#[int .i64 (k:Int),I nd.ag,I nd.a,I nd.b,I nd.c,J lao nd.aU.length lcap][o]?)/\Yf W TB 0/\Below (TB+1) W4 W/\N<W.heap.size/\Below N wr WA):=λW V dx=>by
    refine⟨λo=>(dx.cell (by omega) D0).trans (cell_of_row _ _ _ _ _ _ h0),λk hk=>?_,?_,by have:=dx.1.size;omega,P0⟩
    ·obtain⟨g1,g2,g3⟩:=j2 k hk
     have q:∀o,W.cell? (Y TB o)=wr.cell? (Y TB o):=λo=>(dx.cell (by omega) E0).trans (P0.cell (p:=(Y TB o)) (by simp only;omega));exact⟨(q _).trans g1,(q _).trans g2,(q _).trans g3⟩
    exact(p0.trans (P0.mono (by omega))).grown dx.1 (by omega) (λg hg=>(A0.lt g hg).1)
   rw[<-hN];have d1:D w7 N 1 (I nd.ag):=(F0 _ _ Q0).1 1;have G2:TB<N:=(by omega);clear i1 j1 k1 h0 P0 D0 E0 c1 c2 c3 c4 c5 c6 C0 hN;obtain⟨lev,q0⟩:∃lev:Nat,nd.ag=(lev:Int):=⟨nd.ag.toNat,by have:=Fl.iS O0.2.1;omega⟩;have r0:lev<2147483648:=(by have:=Fl.iS O0.2.1;omega);have G1:=A q0;rw[q0]at d1;obtain⟨ys7,f0⟩:=U (xs++[UInt8.ofNat k]);rw[<-f0]at u0;have n2:ys7.length<=41001:=(by rw[f0];simp;omega);have H1:=A f0;have o2:N<w7.heap.size:=(F0 _ _ Q0).2.2.2.1;clear f0 q0
   have z0:O (F 109 #[v7,I lev] w7 λe w'=>∃v',e=.returned v'/\w'.ownsRow (TB+1) 5 1 v' (ys7++Fl.aM lev).length ((ys7++Fl.aM lev).map Xq)/\Below (TB+1) w7 w'/\Xt w7 v7 w' v'):=
    zzz lev r0 (TB+1) ys7 v7 w7 (.inl u0) (by omega) (by omega)
   go_wp2_with fail
   refine(z0.out).mono ?_;rintro e w8 ⟨v8,rfl,I1,_,J1⟩;have R0:O (Xt WA u4 w8 v8):=Q0.trans J1;have l1:=A I1;clear z0 I1 J1 d1 u0 Q0 o2;have K1:=(F0 _ _ R0).2.1 k h8;have q2:N<w8.heap.size:=(F0 _ _ R0).2.2.2.1;have e1:w8.cell? (Y TB (k*4+1))=some (I (Xx k:Nat)):=(by have:=K1.1;simpa using this);have r2:Xx k<=3:=(by unfold Xx;(repeat' split)<;>omega);have L1:O (F 110 #[Pp TB (k*4),M N] w8 λe w'=>e=.returned (Sq w8.heap.size 0 (Xx k) 3)/\w'=(w8.alloc (.cells #[Pp N 2,Pp N 3,Pp N 4] 232)).drew):=zf9 TB (k*4) N (Xx k) w8 r2 (by omega) e1;clear K1 e1
   go_wp2_with fail
   refine(L1.out).mono ?_;rintro e w9 ⟨rfl,S0⟩;obtain⟨PB,T0⟩:=U (w8.heap.size);have H2:w9.heap.size=PB+1:=(by rw[S0,T0];simp);have j0:w9.heap[PB]?=some (.cells #[Pp N 2,Pp N 3,Pp N 4] 232 (0,0)):=(by rw[S0,T0];exact heap_alloc_last _ _);have a0:E w8 w9:=(by rw[S0];exact(bA).drew);have s2:O (Xt WA u4 w9 v8):=R0.below a0;have M1:O (w9.ownsRow (TB+1) 5 1 v8 (ys7++Fl.aM lev).length ((ys7++Fl.aM lev).map Xq)):=l1.kept (row:=none) ⟨a0.os,a0.tape,a0.output,a0.size,λk hk _=>a0.block k hk⟩ (by cases v8.ownBlock<;>simp)
   have G0:some PB≠v8.ownBlock:=λhh=>by have:=(l1.lt PB hh.symm).2;omega
   have t2:O (∀W V,Xt w9 v8 W V->∀o,W.cell? (Y PB o)=#[Pp N 2,Pp N 3,Pp N 4][o]?):=λW V dx o=>(dx.cell (by omega) G0).trans (cell_of_row _ _ _ _ _ _ j0);rw[<-T0];clear S0 j0 a0 G0 l1 R0 L1 T0 q2
   go_wp2_with fail
   go_loopw [4,44] (λv i wz=>∃(m:Nat) (zs:K),m<=Xx k/\i=I m/\zs=ys7++(Fl.aM lev++Fl.aW ([nd.a,nd.b,nd.c].take m))/\wz.ownsRow (TB+1) 5 1 v zs.length (zs.map Xq)/\Xt w9 v8 wz v) (λ_ i _=>Xx k - (intOf i).toNat)
   case atStart=>exact⟨0,ys7++Fl.aM lev,by omega,rfl,by simp[Fl.aW],M1,Xt.refl _ _⟩
   case round=>
    clear M1;obtain⟨m,zs,hm,rfl,m1,d0,b0⟩:=hrel;have n1:=A m1;have o1:=A d0;have u2:=A b0;have I2:zs.length<=41060:=by
     have h1:=dr lev;have h2:=dL ([nd.a,nd.b,nd.c].take m);have h3:([nd.a,nd.b,nd.c].take m).length<=3:=(by simp;omega);rw[m1];simp only[length_append];omega
    have U0:=s2.trans b0;have k0:=F0 _ _ U0;have J2:N<wr.heap.size:=k0.2.2.2.1;have l0:TB+1<=wr.heap.size:=(by omega);clear m1 d0
    by_cases v2:m<Xx k
    ·have K2:m<3:=by omega
     have p1:wr.cell? (Y PB m)=some (Pp N (2+m)):=by
      rw[t2 _ _ b0 m]
      have:m=0\/m=1\/m=2:=by omega
      rcases this with rfl|rfl|rfl<;>rfl
     have p2:wr.cell? (Y N (2+m))=some (I ([nd.a,nd.b,nd.c].getD m 0)):=by
      rw[k0.1 (2+m)]
      have:m=0\/m=1\/m=2:=by omega
      rcases this with rfl|rfl|rfl<;>rfl
     have H0:Fl.cd ([nd.a,nd.b,nd.c].getD m 0)=true:=by
      obtain⟨_,_,ha,hb,hc,_⟩:=O0.out
      have:m=0\/m=1\/m=2:=by omega
      rcases this with rfl|rfl|rfl<;>assumption
     have I0:=Fl.iS H0;obtain⟨x,hx⟩:∃x:Nat,(x:Int)=[nd.a,nd.b,nd.c].getD m 0:=⟨([nd.a,nd.b,nd.c].getD m 0).toNat,by omega⟩;rw[<-hx]at p2;have r1:x<2147483648:=(by omega);have HX:=A hx;have x2:(m:Int)<(Xx k:Int):=(by omega)
     have N1:O (F 109 #[u4,I x] wr λe w'=>∃v',e=.returned v'/\w'.ownsRow (TB+1) 5 1 v' (zs++Fl.aM x).length ((zs++Fl.aM x).map Xq)/\Below (TB+1) wr w'/\Xt wr u4 w' v'):=
      zzz x r1 (TB+1) zs u4 wr (.inl o1) (by omega) l0
     clear H0 I0 hx k0 U0 b0
     go_wp2_with fail
     refine(N1.out).mono ?_;rintro e w10 ⟨v10,rfl,e0,_,g0⟩;have s0:=A e0;have s1:O (Xt w9 v8 w10 v10):=u2.trans g0;clear e0 g0 p1 p2 N1;go_wp2;refine⟨⟨m+1,zs++Fl.aM x,by omega,by go_num,?_,s0,s1⟩,by simp[intOf];omega⟩;rw[iM _ m (by simp;omega),<-HX.out,jl,n1.out];simp[append_assoc]
    have O1:m=Xx k:=(by omega);have hR:=k0.2.1 k h8;have e2:wr.cell? (Y TB (k*4+2))=some (.bool (k==7)):=(by have:=hR.2.1;simpa using this);have e5:D wr N 5 (J lao nd.aU.length lcap):=k0.1 5;have V0:=A k0.2.2.1;have x2:¬(m:Int)<(Xx k:Int):=(by omega)
    by_cases h7:k=7
    ·subst h7
     have L2:E w wr:=X0.trans (V0.mono (by omega));have J0:O (F 108 #[u4,J lao nd.aU.length lcap] wr λe w'=>∃v',e=.returned v'/\w'.ownsRow (TB+1) 5 1 v' (zs++(Fl.aM nd.aU.length++Fl.aW nd.aU)).length ((zs++(Fl.aM nd.aU.length++Fl.aW nd.aU)).map Xq)/\Below (TB+1) wr w'/\Xt wr u4 w' v'):=by
      obtain⟨_,_,_,_,_,y2,K0⟩:=O0.out;refine zo7 nd.aU K0 (by omega) B (TB+1) (by omega) _ zs u4 wr (i2 wr V0) (.inl o1) (by omega) l0
     have t1:((7:Nat)==7)=true:=rfl;rw[t1]at e2;clear k0 U0 b0 hR
     go_wp2_with fail
     refine(J0.out).mono ?_;rintro e w10 ⟨v10,rfl,e0,L0,g0⟩;have s0:=A e0;have u1:O (Below (TB+1) W4 w10):=V0.trans L0;clear e0 L0 g0 e2 e5 J0;go_wp2;refine⟨⟨j+1,zs++(Fl.aM nd.aU.length++Fl.aW nd.aU),by omega,by go_num,?_,s0,u1⟩,by simp[intOf];omega⟩;rw[fK ns j v0,gX,<-F1.out,zc9 HK G1.out,n1.out,H1.out,b1.out,O1];simp[Fl.aW,Xx,append_assoc]
    have t1:(k==7)=false:=(by simpa using h7);rw[t1]at e2;have t0:O (zs=bQ ls ns++Fl.aG (ns.take (j+1))):=by
     show zs=_;rw[fK ns j v0,gX,<-F1.out,yx1 HK h8 h7 G1.out,n1.out,H1.out,b1.out,O1];simp[append_assoc]
    clear k0 U0 b0 hR;go_wp2;exact⟨⟨j+1,zs,by omega,by go_num,t0,o1,V0⟩,by simp[intOf];omega⟩
  have M2:j=ns.length:=(by omega);have t0:O (xs=bQ ls ns++Fl.aG ns):=by
   show xs=_;rw[b1.out,take_of_length_le (by omega)]
  go_wp2;go_ret;refine⟨u4,rfl,?_,X0.trans (p0.mono (by omega))⟩;rw[<-t0.out];exact zg2 A0 (by omega)
def yp9(r:K×Bool×Int)(w:World)(e:Ending)(w':World):Prop:=
 E w w'/\
 (r.2.1=true->∃va n c,e=.returned (.tuple #[J va n c,.nilIface])/\w'.ownsRow w.heap.size 5 1 (J va n c) r.1.length (r.1.map Xq))/\
 (r.2.1=false->(r.2.2<0->e=.returned (.tuple #[Zq,.iface 24 (I 8)]))/\(0<=r.2.2->∃q,e=.returned (.tuple #[Zq,.iface 78 (M q)])/\w'.cell? (Y q 0)=some (I 8)/\w'.cell? (Y q 1)=some (I r.2.2)))
def yuv(h:(decide (ls.length<=4) && (ls.all Fl.cd && (decide (1<=ns.length) && decide (ns.length<=200))))=false):bu ls ns=([],false,-1):=by
 unfold bu
 by_cases h1:4<ls.length\/ns.length=0\/200<ns.length
 ·rw[G h1]
 rw[Z h1];have ha:ls.all Fl.cd=false:=by
  have e1:decide (ls.length<=4)=true:=(by simp;omega);have e2:decide (1<=ns.length)=true:=(by simp;omega);have e3:decide (ns.length<=200)=true:=(by simp;omega);rw[e1,e2,e3]at h;simpa using h
 rw[G ha]
def ylv(h:(decide (ls.length<=4) && (ls.all Fl.cd && (decide (1<=ns.length) && decide (ns.length<=200))))=true):ls.length<=4/\ls.all Fl.cd=true/\1<=ns.length/\ns.length<=200/\bu ls ns=if 0<=Fl.bf ns then([],false,Fl.bf ns) else(bQ ls ns++Fl.aG ns,true,-1):=by
 simp only[Qk,Qn]at h;refine⟨h.1,h.2.1,h.2.2.1,h.2.2.2,?_⟩;unfold bu;rw[Z (by omega),Z (by rw[h.2.1];simp)]
def yr9(ls:Is)(ns:List Fl.ar)(la na:Option Addr)(lc nc:Nat)(w:World)(hl:Zw w.heap.size w (J la ls.length lc) ls)(hn:Yz w.heap.size w (J na ns.length nc) ns):
  F 29 #[.agg #[J la ls.length lc,J na ns.length nc]] w (yp9 (bu ls ns) w):=by
 have HL:=A hl;have HN:=A hn;clear hl hn
 go_enter func29,ntmps29
 go_wp2_with fail
 obtain⟨W1,e0⟩:=U (w.alloc (.cells #[J la ls.length lc,J na ns.length nc] 89));rw[<-e0]
 have l0:E w W1:=by rw[e0];exact bA
 have J0:W1.heap.size=w.heap.size+1:=by rw[e0];simp
 have hp:∀i,W1.cell? (Y w.heap.size i)=#[J la ls.length lc,J na ns.length nc][i]?:=λi=>by rw[e0];exact cell?_alloc_new _ _ _ _
 have HP:=A hp;have F0:=A l0
 have x0:O (F 54 #[.agg #[J la ls.length lc,J na ns.length nc]] W1 (Rw (.bool (decide (ls.length<=4) && (ls.all Fl.cd && (decide (1<=ns.length) && decide (ns.length<=200))))) W1)):=
  yuw ls ns la na lc nc w.heap.size W1 (HL.below l0) (HN.below l0) (by omega)
 clear e0 l0 hp;refine(x0.out).mono ?_;rintro e w2 ⟨rfl,f0⟩;have y0:=A f0;have a0:O (E w w2):=F0.trans (f0.mono (by omega));have p0:D w2 w.heap.size 0 (J la ls.length lc):=cT f0 (by omega) (HP 0);have p1:D w2 w.heap.size 1 (J na ns.length nc):=cT f0 (by omega) (HP 1);clear f0 x0
 cases c0:(decide (ls.length<=4) && (ls.all Fl.cd && (decide (1<=ns.length) && decide (ns.length<=200)))) with
 |false=>
  have HE:O (bu ls ns=([],false,-1)):=yuv c0;clear c0;go_wp2
  go_ret2
  refine⟨a0,λh=>?_,λ_=>⟨λ_=>rfl,λh=>?_⟩⟩
  ·rw[HE.out]at h;cases h
  rw[HE.out]at h;simp at h
 |true=>
  obtain⟨h4,aH,h1,m0,g0⟩:=ylv c0;have HE:=A g0;have HA:=A aH;have z0:O (F 55 #[J na ns.length nc] w2 (Rw (I (Fl.bh ns)) w2)):=zc8 ns _ w2 ((HN.below a0).mono a0.size) (by omega);have A0:=Fl.ke ns;clear c0 g0 aH
  go_wp2_with fail
  refine(z0.out).mono ?_;rintro e w3 ⟨rfl,h0⟩;have i0:O (E w w3):=a0.trans (h0.mono a0.size);have n0:w.heap.size<w2.heap.size:=(by have:=y0.size;omega);have r0:D w3 w.heap.size 0 (J la ls.length lc):=cT h0 n0 p0;have r1:D w3 w.heap.size 1 (J na ns.length nc):=cT h0 n0 p1;have o0:w.heap.size<w3.heap.size:=Qj n0 h0.size;clear h0 z0 p0 p1 y0 a0
  by_cases d0:0<=Fl.bh ns
  ·have b0:O (bu ls ns=([],false,Fl.bh ns)):=by
    show bu ls ns=_;rw[HE.out,Fl.kD ns d0,G d0]
   obtain⟨x,hx⟩:=U (Fl.bh ns);rw[<-hx]at d0 A0 b0⊢;clear hx;have hb':¬x<0:=(by omega);go_wp2
   go_ret2
   refine⟨i0.alloc (by omega) _,λh=>?_,λ_=>⟨λh=>?_,λ_=>⟨w3.heap.size,rfl,by simp,?_⟩⟩⟩
   ·rw[b0.out]at h;cases h
   ·rw[b0.out]at h;simp only at h;omega
   rw[b0.out];simp
  have q0:Fl.bh ns<0:=(by omega);have aQ:=Fl.iX ns q0;have t0:O (Fl.bf ns=Fl.cg ns):=Fl.mw ns q0
  have B0:O (F 56 #[J na ns.length nc] w3 (Rw (I (Fl.cg ns)) w3)):=
   zqv ns _ w3 ((HN.below i0).mono i0.size) (by omega) (λi hi=>(eW (aQ i hi).1).2) (λi hi p hp=>by have:=jK (aQ i hi) hp;omega)
  have G0:O (∀k,k<ns.length->Fl.bD (Fl.nth ns k)=true):=λk hk=>(aQ k hk).1;obtain⟨x,hx⟩:=U (Fl.bh ns);rw[<-hx]at q0 A0⊢;clear aQ d0 hx
  go_wp2_with fail
  refine(B0.out).mono ?_;rintro e w4 ⟨rfl,j0⟩;have k0:O (E w w4):=i0.trans (j0.mono i0.size);have s0:D w4 w.heap.size 0 (J la ls.length lc):=cT j0 o0 r0;have s1:D w4 w.heap.size 1 (J na ns.length nc):=cT j0 o0 r1;have K0:w.heap.size<w4.heap.size:=Qj o0 j0.size;clear j0 B0 r0 r1;obtain⟨y,hy⟩:=U (Fl.cg ns);rw[<-hy]at t0⊢;clear hy
  by_cases C0:0<=y
  ·have b0:O (bu ls ns=([],false,y)):=by
    show bu ls ns=_;rw[HE.out,t0.out,G C0]
   go_wp2
   go_ret2
   refine⟨k0.alloc (by omega) _,λh=>?_,λ_=>⟨λh=>?_,λ_=>⟨w4.heap.size,rfl,by simp,?_⟩⟩⟩
   ·rw[b0.out]at h;cases h
   ·rw[b0.out]at h;simp only at h;omega
   rw[b0.out];simp
  have b0:O (bu ls ns=(bQ ls ns++Fl.aG ns,true,-1)):=by
   show bu ls ns=_;rw[HE.out,t0.out,Z C0]
  have u0:O (F 57 #[.agg #[J la ls.length lc,J na ns.length nc]] w4 λe w'=>∃v',e=.returned v'/\w'.ownsRow w4.heap.size 5 1 v' (bQ ls ns++Fl.aG ns).length ((bQ ls ns++Fl.aG ns).map Xq)/\E w4 w'):=
   yh9 ls ns la na lc nc w.heap.size w4 (by omega) (HL.below k0) (HN.below k0) h4 HA m0 G0.out
  obtain⟨bl,D0⟩:=U (bQ ls ns++Fl.aG ns);rw[<-D0]at b0 u0;clear D0
  go_wp2_with fail
  refine(u0.out).mono ?_;rintro e w5 ⟨v',rfl,v0,E0⟩;obtain⟨va,vc,rfl⟩:=Uh v0;have H0:=A v0;have I0:O (E w w5):=k0.trans (E0.mono k0.size);clear v0 E0 u0 s0 s1;go_wp2
  go_ret2
  refine⟨I0,λ_=>⟨_,_,_,rfl,?_⟩,λh=>?_⟩
  ·rw[b0.out];exact zg2 (base:=w4.heap.size) H0 (by omega)
  rw[b0.out]at h;cases h
def yk0(ls:Is)(ns:List Fl.ar)(h:(bu ls ns).2.2<0):(bu ls ns).2.2= -1:=by
 unfold bu at*
 split at h
 ·rename_i hc;rw[G hc]
 rename_i hc;rw[Z hc]
 split at h
 ·rename_i hd;rw[G hd]
 rename_i hd;rw[Z hd]
 split at h
 ·rename_i he;simp only at h;omega
 rename_i he;rw[Z he]
def yhz(aX:Nat×Int×K)(w:World)(e:Ending)(w':World):Prop:=
  E w w'/\
  ((aX.1=0/\aX.2.1= -1/\∃va n c,e=.returned (.tuple #[J va n c,.nilIface])/\w'.ownsRow w.heap.size 5 1 (J va n c) aX.2.2.length (aX.2.2.map Xq))\/
   (aX=(8,-1,[])/\e=.returned (.tuple #[Zq,.iface 24 (I 8)]))\/
   (aX.1≠0/\aX.2.2=[]/\∃a,e=.returned (.tuple #[Zq,.iface 78 (M a)])/\w'.cell? (Y a 0)=some (I aX.1)/\w'.cell? (Y a 1)=some (I aX.2.1)))
def yrz(hl:l.length<=100000)(hg:1<w.heap.size)(hm:Yg w):
  F 16 #[Tq l] w (yhz (bV (aq l)) w):=by
 have g0:O (F 25 #[Tq l] w (zt0 (aq l) w)):=zk8 hl hg hm;have e0:O ((aq l).1=0->(aq l).2.2.Ok):=λh=>(dO l h).1;have f0:O ((aq l).1=0->(aq l).2.2.Lv):=eN l;obtain⟨q,hq⟩:=U (aq l);rw[<-hq]at g0 e0 f0⊢;clear hq hl hg hm
 go_enter func16,ntmps16
 go_wp2_with fail
 refine g0.mono ?_;rintro e w1 ⟨m0,b0⟩;have i0:=A m0;clear m0 g0;rcases b0 with⟨h0,Pb,rfl,hp⟩|⟨h0,a,rfl,a0,a1⟩
 ·have HP:O (Ui (λb=>b<w1.heap.size) w1 Pb q.2.2):=hp.kept (λb hb=>hb.2) (λ_ _=>rfl)
  have H0:=A h0;have n0:O (F 28 #[M Pb] w1 (yh1 (bF q.2.2) w1)):=yl0 HP (e0 h0) (f0 h0);clear hp h0 e0 f0 HP
  go_wp2_with fail
  refine n0.mono ?_;rintro e w2 ⟨o0,b0⟩;have d0:O (E w w2):=i0.trans (o0.mono i0.size);clear o0 n0;rcases b0 with⟨h7,a,rfl,a0,a1⟩|⟨h7,la,n,lc,na,n',nc,rfl,hi,hn⟩
  ·have HE:O (bV q=(7,((bF q.2.2).1:Int),[])):=by show _=_;unfold bV;rw[Z (by rw[H0.out];simp),G h7]
   have ha:a<w2.heap.size:=Qe w2 _ a0;have A0:=A a0;have A1:=A a1;clear h7 a0 a1;go_wp2
   go_ret2
   refine⟨d0.alloc d0.size _,.inr (.inr ⟨by rw[HE.out];simp,by rw[HE.out],a,rfl,?_,?_⟩)⟩
   ·rw[HE.out];exact(Qf _ _ _ ha).trans A0.out
   rw[HE.out];exact(Qf _ _ _ ha).trans A1.out
  obtain⟨ls,j0⟩:=U ((bF q.2.2).2.1);obtain⟨ns,k0⟩:=U ((bF q.2.2).2.2);have HE:O (bV q=if(bu ls ns).2.1=false then(8,(bu ls ns).2.2,[]) else(0,-1,(bu ls ns).1)):=(by show _=_;unfold bV;rw[Z (by rw[H0.out];simp),Z (by omega),<-j0,<-k0]);rw[<-j0]at hi;rw[<-k0]at hn
  obtain rfl:n=ls.length:=by obtain⟨a,c,e⟩:=Vv hi;injection e with e1 e2 e3
  obtain rfl:n'=ns.length:=by obtain⟨a,c,e,-⟩:=hn;injection e with e1 e2 e3
  have p0:O (∀W,E w2 W->F 29 #[.agg #[J la ls.length lc,J na ns.length nc]] W (yp9 (bu ls ns) W)):=λW hW=>yr9 ls ns la na lc nc W ((hi.below hW).mono hW.size) ((hn.below hW).mono hW.size);clear h7 hi hn j0 k0
  go_wp2_with fail
  refine(p0 _ (bA)).mono ?_;rintro e w3 ⟨r0,aQ,c0⟩;have l0:O (E w w3):=(d0.alloc d0.size _).trans (r0.mono (by have:=d0.size;simp;omega));have cH:w.heap.size<=w2.heap.size:=d0.size;clear r0 p0
  cases hr:(bu ls ns).2.1 with
  |true=>
   obtain⟨va,n,c,rfl,ho⟩:=aQ hr;have HO:O (w3.ownsRow w.heap.size 5 1 (J va n c) (bu ls ns).1.length ((bu ls ns).1.map Xq)):=zg2 (base':=w.heap.size) ho (by simp;omega);have HZ:O (bV q=(0,-1,(bu ls ns).1)):=(by show _=_;rw[HE.out,Z (by rw[hr];simp)]);clear aQ c0 hr ho HE;go_wp2
   go_ret2
   refine⟨l0,.inl ⟨by rw[HZ.out],by rw[HZ.out],va,n,c,rfl,?_⟩⟩;rw[HZ.out];exact HO
  |false=>
   have HZ:O (bV q=(8,(bu ls ns).2.2,[])):=(by show _=_;rw[HE.out,G hr])
   by_cases h0:(bu ls ns).2.2<0
   ·obtain rfl:=(c0 hr).1 h0
    have H1:O ((bu ls ns).2.2= -1):=yk0 ls ns h0;clear aQ c0 hr h0 HE;go_wp2
    go_ret2
    exact⟨l0,.inr (.inl ⟨by rw[HZ.out,H1.out],rfl⟩)⟩
   obtain⟨a,rfl,q0,q1⟩:=(c0 hr).2 (by omega);have HQ:O (D w3 a 0 (I 8)/\D w3 a 1 (I (bu ls ns).2.2)):=⟨q0,q1⟩;clear aQ c0 hr h0 q0 q1 HE;go_wp2
   go_ret2
   exact⟨l0,.inr (.inr ⟨by rw[HZ.out];simp,by rw[HZ.out],a,rfl,by rw[HZ.out];exact HQ.1,by rw[HZ.out];exact HQ.2⟩)⟩
 have HE:O (bV q=(q.1,(q.2.1:Int),[])):=by show _=_;unfold bV;rw[G h0]
 have H0:=A h0;clear h0 e0 f0;go_wp2
 go_ret2
 refine⟨i0,.inr (.inr ⟨by rw[HE.out];exact H0.out,by rw[HE.out],a,rfl,?_,?_⟩)⟩
 ·rw[HE.out];exact a0
 rw[HE.out];exact a1
def yt0(aX:Nat×Int×K)(w:World)(e:Ending)(w':World):Prop:=
 E w w'/\∃va n c,e=.returned (.tuple #[J va n c,I aX.1,I aX.2.1])/\w'.ownsRow w.heap.size 5 1 (J va n c) aX.2.2.length (aX.2.2.map Xq)
def yry(hE:Um w)(hl:l.length<=100000)(hg:1<w.heap.size)(hm:Yg w):
  F 6 #[Tq l] w (yt0 (bV (aq l)) w):=by
 have HC:O (F 16 #[Tq l] w (yhz (bV (aq l)) w)):=yrz hl hg hm;have e0:O (∀o,E w o->Um o):=λo ho=>(ho.cell (p:=⟨0,0,none⟩) (Qe w _ hE)).trans hE;obtain⟨aX,c0⟩:=U (bV (aq l));rw[<-c0]at HC⊢;clear hl hg hm hE c0
 go_enter func6,ntmps6
 go_wp2_with fail
 refine HC.mono ?_;rintro e w1 ⟨hB,hc⟩;have HB:=A hB;clear hB HC;rcases hc with⟨h0,h1,va,n,c,rfl,ho⟩|⟨rfl,rfl⟩|⟨h0,h1,a,rfl,a0,a1⟩
 ·obtain⟨r0,r1,r2⟩:=aX
  simp only at h0 h1;subst h0;subst h1;have HO:=A ho;clear ho
  go_wp2_with fail
  refine(zhv _).mono ?_;rintro e w2 ⟨rfl,b0⟩;have d0:O (E w w2):=HB.trans (b0.mono HB.size);have f0:O (w2.ownsRow w.heap.size 5 1 (J va n c) r2.length (r2.map Xq)):=HO.kept (row:=none) ⟨b0.os,b0.tape,b0.output,b0.size,λk hk _=>b0.block k hk⟩ (by cases (J va n c).ownBlock<;>simp);clear b0;go_wp2
  go_ret3
  exact⟨d0,va,n,c,rfl,f0⟩
 ·go_wp2_with fail
  refine(zm6 8 _ (e0 _ HB)).mono ?_;rintro e w2 ⟨rfl,b0⟩;have d0:O (E w w2):=HB.trans (b0.mono HB.size);clear b0;go_wp2
  go_ret3
  exact⟨d0,none,0,0,rfl,ownsRow_nil _ _ _ _⟩
 obtain⟨n,p,r2⟩:=aX;simp only at h1;subst h1;have A0:=A a0;have A1:=A a1;clear a0 a1 h0
 go_wp2_with fail
 refine(zc5 a 0 (n:Int) p _ (e0 _ HB) A0 A1).mono ?_;rintro e w2 ⟨rfl,b0⟩;have d0:O (E w w2):=HB.trans (b0.mono HB.size);clear b0;go_wp2
 go_ret3
 exact⟨d0,none,0,0,rfl,ownsRow_nil _ _ _ _⟩
def zw4(w:World)(ao:Option Addr)(s:K):Prop:=s≠[]->∃bb bo,ao=some (Y bb bo)/\bb<w.heap.size/\∀i,i<s.length->w.cell? (Y bb (bo+i))=some (.int .u8 (s.getD i 0).toNat)
def zw4.below(h:zw4 w ao s)(hb:E w w'):zw4 w' ao s:=λa0=>by
 obtain⟨bb,bo,e,h1,h2⟩:=h a0;exact⟨bb,bo,e,Qj h1 hb.size,λi hi=>cT hb h1 (h2 i hi)⟩
def zw4.dD{c:Nat}(h:w.ownsRow base 5 1 (J ao n c) s.length (s.map Xq)):n=s.length/\zw4 w ao s:=by
 rcases h.2 with⟨e,h0⟩|⟨g,cap,cur,e,hb,hg,h3,h4,h5,h6⟩
 ·injection e with e1 e2
  exact⟨by omega,λa0=>absurd (Qi h0) a0⟩
 injection e with e1 e2;refine⟨e2,λ_=>⟨g,0,e1,?_,λi hi=>?_⟩⟩
 ·refine Classical.byContradiction λhn=>?_
  rw[Array.getElem?_eq_none (by omega)]at hg;cases hg
 rw[Nat.zero_add,cR i hg];rw[Nat.mul_one]at h6
 have h7:(cur.toList.take s.length)[i]?=(s.map Xq)[i]?:=by rw[h6]
 rw[getElem?_take_of_lt hi,getElem?_map,Qb hi]at h7;rw[<-Array.getElem?_toList,h7];simp[Xq,Qa,hi]
structure zky(w:World):Prop where
 er:Um w
 mg:1<w.heap.size
 ml:Yg w
def zky.below{w w':World}(h:zky w)(hb:E w w'):zky w':=⟨(hb.cell (p:=⟨0,0,none⟩) (Qe w _ h.er)).trans h.er,by have:=hb.size;have:=h.mg;omega,h.ml.below lE hb⟩
def yt1(W:World)(l:K):zw4 (Lib.bytesWorld W 5 ⟨l.toArray⟩) (some (Y W.heap.size 0)) l/\E W (Lib.bytesWorld W 5 ⟨l.toArray⟩)/\W.heap.size<(Lib.bytesWorld W 5 ⟨l.toArray⟩).heap.size:=by
 have hz:(Lib.bytesWorld W 5 ⟨l.toArray⟩).heap.size=W.heap.size+1:=Lib.bytesWorld_size _ _ _;refine⟨λ_=>⟨W.heap.size,0,rfl,by omega,λi hi=>?_⟩,⟨rfl,rfl,rfl,by omega,λk hk=>Lib.bytesWorld_at_old _ _ _ k hk⟩,by omega⟩;have:=Lib.bytesWorld_cell W 5 ⟨l.toArray⟩ i (by show i<l.toArray.size;simpa using hi);rw[Nat.zero_add,this]
def bytes_back{W:World}(h:zw4 W ao l)(a0:l≠[])(cap:Nat):(convert 29 9 (J ao l.length cap)).run prog W=.ok (Tq l) W:=by
 obtain⟨b,o,rfl,-,hc⟩:=h a0;refine run_convert_bytes_back _ 29 9 5 (Y b o) cap l underlying29 underlying5 underlying9 (λj hj=>?_)
 have h2:((Y b o):Addr).add j=(Y b (o+j)):=by unfold Addr.add;split<;>simp_all
 rw[h2,hc j hj];simp[Qa,hj]
end Go.Proofs.YtjmcibbdedlcoaaGreatDoor
