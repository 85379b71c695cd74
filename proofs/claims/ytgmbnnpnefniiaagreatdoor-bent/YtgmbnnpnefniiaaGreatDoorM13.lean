import Derived.Test.YtgmbnnpnefniiaaGreatDoorM12
import Derived.Lib.SlBytesConst
import Derived.Lib.ConvBytes
set_option linter.all false
set_option maxRecDepth 100000
set_option maxHeartbeats 40000000
namespace Go.Proofs.YtgmbnnpnefniiaaGreatDoor
open Go.RowKit Go.Proofs.Tryz List World Value Fl
variable{w:World}{s r:L}{p n:Nat}{ao:Option Addr}
def its_any{tb nb no:Nat}{nd:Fl.ar}{lv:Value}(h:Ug w nb no nd lv)(hr:Xp w tb 0):
  E 121 #[F tb,Pp nb no] w (Rw (.bool (bT nd)) w):=by
 by_cases hk:0<=nd.kind/\nd.kind<8
 ·exact its_in (k:=nd.kind.toNat) h hr (by omega) (by omega)
 rw[ygy (by omega)];exact its_out _ nb no nd.kind w h.c0 (by omega)
namespace Fl
def bZ(ns:List ar):Int:=match (range ns.length).find? (dP ns) with|some k=>(k:Int)|none=> -1
def gO(ns:List ar)(k:Nat):dP ns k=(!bT (nth ns k)||((prem (nth ns k)).any (λp=>decide ((k:Int)<=p))||eU ns k)):=rfl
def jP(ns:List ar)(h:0<=bZ ns):aJ ns=bZ ns:=by
 unfold bZ at*;unfold aJ
 cases hf:(range ns.length).find? (dP ns) with
 |some k=>rfl
 |none=>rw[hf]at h;simp at h
def ji(ns:List ar):bZ ns<(ns.length:Int)/\ -1<=bZ ns:=by
 unfold bZ
 cases hf:(range ns.length).find? (dP ns) with
 |some k=>have:=mem_of_find?_eq_some hf;simp at this;simp only;omega
 |none=>simp only;omega
def lR(ns:List ar)(h:bZ ns<0)(k:Nat)(hk:k<ns.length):dP ns k=false:=by
 unfold bZ at h
 cases hf:(range ns.length).find? (dP ns) with
 |some j=>rw[hf]at h;simp only at h;omega
 |none=>
  rw[find?_eq_none]at hf;have:=hf k (by simpa using hk);simpa using this
def gG(ns:List ar)(h:bZ ns<0):fG ns:=λk hk=>by
 have:=lR ns h k hk;rw[gO]at this;simp only[Bool.or_eq_false_iff,Bool.not_eq_false']at this;exact⟨this.1,this.2.1⟩
def kV(ns:List ar)(h:bZ ns<0):aJ ns=cz ns:=by
 have hd:bI ns= -1:=by
  unfold bI
  rw[dh _ _ (λk hk=>by
   have:=lR ns h k hk;rw[gO]at this;simp only[Bool.or_eq_false_iff,Bool.not_eq_false']at this
   exact this.2.2)]
 rw[gJ (gG ns h),hd];simp
end Fl
structure zry(ns:List Fl.ar)(w wr:World)(TB B T:Nat)(j:Nat)(db:List Fl.ar):Prop where
 hj:j<=ns.length
 aL:db.length=j
 fg:∀x,x∈db ↔ x∈ns.take j
 dt:∀t,t<j->Fl.dP ns t=false
 hs:zn1 wr T B db
 hr:Xp wr TB 0
 hb:D w wr
 hw:w.heap.size<=TB
 kO:TB<B
 nD:B<T
 hz:T<wr.heap.size
def zry.below{ns:List Fl.ar}{w wr w':World}{TB B T:Nat}{j:Nat}{db:List Fl.ar}(h:zry ns w wr TB B T j db)(hb:D wr w'):zry ns w w' TB B T j db:=
 ⟨h.hj,h.aL,h.fg,h.dt,h.hs.kept (row:=none) ⟨hb.os,hb.tape,hb.output,hb.size,λk hk _=>hb.block k hk⟩ (by simp) (by simp),h.hr.below hb,h.hb.trans (hb.mono h.hb.size),h.hw,h.kO,h.nD,Qj h.hz hb.size⟩
def zcw(ns:List Fl.ar)(nv:Value)(w:World)(hn:Zl w.heap.size w nv ns)(aL:ns.length<=1000):
  E 82 #[nv] w (Rw (I (Fl.bZ ns)) w):=by
 obtain⟨na,nc,rfl,_,hm,_⟩:=id hn;have HN:=Z hn;clear hn hm
 go_enter func82,ntmps82
 go_wp2_with (first|(go_at_call 72;refine(zl4 _).mono ?_;rintro e w1 ⟨rfl,rfl⟩)|(refine zs7 rfl _ _ 171 rfl _ _ _ Yr rfl (by simp) rfl Tryz.infoRules zl3 ziw ?_))
 have g0:((w.alloc (.cells Yr 171)).alloc (.cells Yr 171)).heap[w.heap.size+1]?=some (.cells Yr 171 (0,0)):=by
  have:=heap_alloc_last (w.alloc (.cells Yr 171)) (.cells Yr 171)
  rwa [size_alloc]at this
 have x0:D w ((w.alloc (.cells Yr 171)).alloc (.cells Yr 171)):=(bA).alloc (by simp) _;refine(yv2 _).mono ?_;rintro e w1 ⟨rfl,q0,l0,y0⟩;simp only[size_alloc]at q0 l0 y0⊢
 have h0:Y (zry ns w w1 (w.heap.size+1) (w.heap.size+1+1) (w.heap.size+1+1+1) 0 []):=
  ⟨by omega,rfl,by simp,λt ht=>by omega,q0,yv7 ((l0.block _ (by omega)).trans g0),x0.trans (l0.mono (by omega)),by omega,by omega,by omega,by omega⟩
 obtain⟨TB,kO⟩:=J (w.heap.size+1);rw[<-kO]at h0⊢;obtain⟨MB,z0⟩:=J (TB+1);rw[<-z0]at h0⊢;obtain⟨T,hT⟩:=J (MB+1);rw[<-hT]at h0⊢;clear g0 x0 q0 l0 y0 kO z0 hT
 go_wp2_with fail
 go_loopw [13] (λi wr=>∃(j:Nat) (db:List Fl.ar),i=I j/\zry ns w wr TB MB T j db) (λi _=>ns.length - (intOf i).toNat)
 case atStart=>exact⟨0,[],rfl,h0⟩
 case round=>
  clear h0;obtain⟨j,db,rfl,hr⟩:=hrel;have hj:=hr.hj;have HR:=Z hr;clear hr
  by_cases e0:j<ns.length
  ·obtain⟨b,off,rfl⟩:∃b off,na=some (O b off):=by
    obtain⟨ao',cap',hv',_,_,hx'⟩:=HN.out;obtain⟨b,off,ha,_⟩:=hx' (by intro h;rw[h]at e0;simp at e0);simp only[slice.injEq]at hv';exact⟨b,off,hv'.1.trans ha⟩
   obtain⟨lv,A0⟩:=(HN.below HR.hb).node e0 HR.hb.size;have r0:=Z A0;have O0:(j:Int)<(ns.length:Int):=(by omega);clear A0
   go_wp2_with fail
   refine(its_any r0 HR.hr).mono ?_;rintro e w2 ⟨rfl,s0⟩;have m0:=Z (HR.below s0);have n0:=Z (r0.below s0);clear s0;obtain⟨nd,d0⟩:=J (Fl.nth ns j);rw[<-d0]at n0⊢;have i0:=Z d0;clear r0 HR d0
   have t0:Y (Fl.dP ns j=true->Fl.bZ ns=(j:Int)):=λh=>by
    show Fl.bZ ns=_;unfold Fl.bZ;rw[cI _ _ j m0.dt e0 h]
   cases j0:bT nd with
   |false=>
    have HF:=Z (t0 (by rw[Fl.gO,<-i0.out,j0];rfl));clear j0;go_wp2;go_ret;exact⟨Vm HF.symm,m0.hb⟩
   |true=>
    obtain⟨k0,H0,I0⟩:=eT j0;have J0:=Z j0;have B0:=Z k0;obtain⟨x,hx⟩:∃x:Nat,nd.kind=(x:Int):=⟨nd.kind.toNat,by omega⟩;have K0:x<8:=(by omega);have c0:=n0.c0;rw[hx]at c0;have h3':w2.cell? (O TB (x*4+3))=some (.func (.func (byF x)) #[] #[]):=(by have:=(m0.hr x K0).2.2;simpa using this)
    have HC:Y (E 122 #[Pp TB (x*4),Pp b (off+j*6),I j] w2 (Rw (.bool (!(prem nd).any (λx=>decide ((j:Int)<=x)))) w2)):=
     zr8 TB (x*4) (byF x) j (Pp b (off+j*6)) (prem nd) w2 h3' (zow x _ _) (by rw[<-hx];exact zf6 n0)
    have P0:(x:Int)<8:=(by omega);clear j0 k0 H0 I0 hx h3'
    go_wp2_with fail
    refine(HC.out).mono ?_;rintro e w3 ⟨rfl,u0⟩;have C0:=Z (m0.below u0);have L0:=Z (n0.below u0);clear u0 HC c0
    cases o0:(prem nd).any (λx=>decide ((j:Int)<=x)) with
    |true=>
     have HF:=Z (t0 (by rw[Fl.gO,<-i0.out,o0];simp));clear o0;go_wp2;go_ret;exact⟨Vm HF.symm,C0.hb⟩
    |false=>
     have M0:=Z o0;have HC:=Z (zm0 L0 B0.2.2.2.2.2.1);clear o0
     go_wp2_with (go_at_call 124;refine(HC.out).mono ?_;rintro e w4 ⟨rfl,D0⟩)
     have a0:=Z (C0.below D0);have E0:=a0.hs;clear D0 HC;refine(yv3 E0 B0 (by have:=a0.aL;omega)).mono ?_;rintro e w5 ⟨c,t,rfl,ht,F0,f0⟩;have b0:=a0.out;have p0:Y (D w w5/\Xp w5 TB 0/\T<w5.heap.size):=by
      refine⟨b0.hb.grown f0 b0.hb.size (λk hk=>by simp only[Ql]at hk;have:=b0.hw;have:=b0.kO;omega),λk hk=>?_,Qj b0.hz f0.size⟩;have v0:some TB≠some MB:=(by have:=b0.kO;simp;omega);obtain⟨g1,g2,g3⟩:=b0.hr k hk;exact⟨f0.cell g1 v0,f0.cell g2 v0,f0.cell g3 v0⟩
     have N0:=Z F0;have HT:=Z ht;clear E0 F0 f0 ht b0;have G0:Y (nd∈db ↔ Fl.eU ns j=true):=by
      show _ ↔ _;rw[gQ ns j e0,a0.fg,i0.out]
     cases t with
     |true=>
      have HF:=Z (t0 (by rw[Fl.gO,G0.1 (HT.1 rfl)];simp));go_wp2;go_ret;exact⟨Vm HF.symm,p0.1⟩
     |false=>
      have HD:Y (Fl.dP ns j=false):=by
       show Fl.dP ns j=false;have h1:Fl.eU ns j=false:=by
        rw[Bool.eq_false_iff];intro h
        have:=HT.2 (G0.2 h);cases this
       rw[Fl.gO,<-i0.out,J0.out,M0.out,h1];rfl
      go_wp2
      go_roundw
      case rel=>
       refine⟨j+1,nd::db,by go_num,⟨by omega,by simp[a0.aL],λx=>?_,λt ht=>?_,N0,p0.2.1,p0.1,a0.hw,a0.kO,a0.nD,p0.2.2⟩⟩
       ·rw[fp ns j e0,mem_cons,mem_append,mem_singleton,a0.fg x,i0.out];exact or_comm
       by_cases h:t<j
       ·exact a0.dt t h
       have:t=j:=by omega
       subst this;exact HD
      case measure=>simp[intOf];omega
  have HF:Y (Fl.bZ ns= -1):=by
   show Fl.bZ ns= -1;unfold Fl.bZ;rw[Fl.dh _ _ (λk hk=>HR.dt k (by omega))]
  go_wp2;go_ret;exact⟨Vm HF.symm,HR.hb⟩
namespace Fl
def gX{x:Nat}(h:x<128)(f:Nat):dd f x=[UInt8.ofNat x]:=by
 cases f with
 |zero=>rfl
 |succ f=>simp only[dd,G h]
def kU(at_ len:Nat)(l:L):∀k v unit f,k<=4->4<=k+f->0<=(dN at_ len k v unit l).2.1->
  ∃x,(k=0\/0<x)/\(dN at_ len k v unit l).1=((v+x*unit:Nat):Int)/\(dN at_ len k v unit l).2.1=((at_+k+(dd f x).length:Nat):Int)/\l=dd f x++l.drop (dd f x).length:=by
 induction l with
 |nil=>intro k v unit f hk hf h;simp[dN]at h
 |cons c r ih=>
  intro k v unit f hk hf h;have hc:=c.toNat_lt;simp only[dN]at h⊢
  by_cases h1:(c.toNat=0/\0<k)\/2147483648<=v+c.toNat % 128*unit\/(k=4/\128<=c.toNat)
  ·rw[G h1]at h;simp at h
  rw[U h1]at h⊢
  by_cases h2:c.toNat<128
  ·rw[G h2]
   refine⟨c.toNat,?_,by rw[Nat.mod_eq_of_lt h2],?_,?_⟩
   ·by_cases b0:k=0
    ·exact Or.inl b0
    right;rcases Nat.eq_zero_or_pos c.toNat with h0|h0
    ·exact absurd (Or.inl ⟨h0,by omega⟩) h1
    exact h0
   ·rw[gX h2];rfl
   rw[gX h2];simp
  rw[U h2]at h⊢;have c0:k≠4:=λh4=>h1 (Or.inr (Or.inr ⟨h4,by omega⟩));obtain⟨f',rfl⟩:∃f',f=f'+1:=⟨f - 1,by omega⟩;obtain⟨y,hy,e1,e2,e3⟩:=ih (k+1) (v+c.toNat % 128*unit) (unit*128) f' (by omega) (by omega) h
  have d0:0<y:=by rcases hy with h|h<;>omega
  have a0:dd (f'+1) (c.toNat % 128+y*128)=c::dd f' y:=by
   have hn:¬(c.toNat % 128+y*128)<128:=(by omega);simp only[dd,U hn];have q1:(c.toNat % 128+y*128) % 128+128=c.toNat:=(by omega);have q2:(c.toNat % 128+y*128) / 128=y:=(by omega);rw[q1,q2];simp
  refine⟨c.toNat % 128+y*128,Or.inr (by omega),?_,?_,?_⟩
  ·rw[e1];congr 1
   rw[Nat.add_mul,Nat.mul_assoc,Nat.mul_comm 128 unit];omega
  ·rw[e2,a0];simp only[length_cons];congr 1;omega
  rw[a0];simp only[length_cons,cons_append,drop_succ_cons];rw[<-e3]
def fN(hp:p<=s.length)(h:0<=(num s p).2.1):∃v:Nat,(num s p).1=(v:Int)/\v<2147483648/\(num s p).2.1=((p+(aG v).length:Nat):Int)/\s.drop p=aG v++s.drop (p+(aG v).length):=by
 obtain⟨x,_,e1,e2,e3⟩:=kU p s.length (s.drop p) 0 0 1 9 (by omega) (by omega) h;have ho:=cA s p hp;refine⟨x,by rw[num,e1];simp,?_,by rw[num,e2];simp[aG],by rw[<-drop_drop];exact e3⟩
 have:(num s p).1=(x:Int):=by rw[num,e1];simp
 omega
def gy(x:Int)(l:Is):aR (x::l)=aG x.toNat++aR l:=by simp[aR]
def jO(s:L)(n:Nat):∀(p:Nat) (acc:Is),p<=s.length->0<=(dv s n p acc).2.1->
  ∃xs:Is,(dv s n p acc).1=acc++xs/\xs.length=n/\xs.all cf=true/\(dv s n p acc).2.1=((p+(aR xs).length:Nat):Int)/\s.drop p=aR xs++s.drop (p+(aR xs).length):=by
 induction n with
 |zero=>intro p acc hp h;exact⟨[],by simp[dv],rfl,rfl,by simp[dv,aR],by simp[aR]⟩
 |succ n ih=>
  intro p acc hp h;simp only[dv]at h⊢
  by_cases h1:(num s p).2.1<0
  ·rw[G h1]at h;simp at h
  rw[U h1]at h⊢;obtain⟨v,e1,e2,e3,e4⟩:=fN hp (by omega);have ho:=cA s p hp;rw[e1,e3,Qm]at h⊢;obtain⟨xs,f1,f2,f3,f4,f5⟩:=ih _ _ (by omega) h;refine⟨(v:Int)::xs,by rw[f1];simp,by simp[f2],?_,?_,?_⟩
  ·simp only[all_cons,f3,Bool.and_true,cf,Qk,Qn];omega
  ·rw[f4,gy];simp[Nat.add_assoc]
  rw[gy,Qm,append_assoc,length_append,<-Nat.add_assoc,<-f5];exact e4
def gN(hp:p<=s.length)(h:0<=(bW s p n).2.1):
  ∃xs:Is,(bW s p n).1=xs/\xs.length=n/\xs.all cf=true/\(bW s p n).2.1=((p+(aR xs).length:Nat):Int)/\s.drop p=aR xs++s.drop (p+(aR xs).length):=by
 have:=jO s n p [] hp h;simpa [bW] using this
end Fl
namespace Fl
def ot{k:Int}(h:aP k≠ -2):0<=k/\k<8:=by unfold aP at h;(repeat' split at h)<;>omega
def mf{a:L}(h:s.drop p=a++r)(ha:0<a.length):p<s.length:=by
 rcases Nat.lt_or_ge p s.length with h1|h1
 ·exact h1
 rw[drop_eq_nil_of_le h1]at h;have:=congrArg length h;simp at this;omega
def Je{c:UInt8}(h:s.drop p=c::r):p<s.length/\s.getD p 0=c/\s.drop (p+1)=r:=by
 have h1:=mf (a:=[c]) (r:=r) (by simpa using h) (by simp);refine⟨h1,?_,by rw[<-drop_drop,h];rfl⟩
 have:(s.drop p)[0]?=some c:=by rw[h];rfl
 rw[getElem?_drop]at this;rw[Qa];simpa using congrArg (λo=>o.getD 0) this
def lQ{k:Nat}(hp:p<=s.length)(h:0<=(one s p k).2.1):
  s.drop p=aC (one s p k).1++s.drop (p+(aC (one s p k).1).length)/\(one s p k).2.1=((p+(aC (one s p k).1).length:Nat):Int):=by
 unfold one at h⊢
 by_cases h0:p=s.length
 ·rw[G h0]at h;simp at h
 rw[U h0]at h⊢;simp only at h⊢
 by_cases h1:aP ((s.getD p 0).toNat:Int)= -2
 ·rw[G h1]at h;simp at h
 rw[U h1]at h⊢;have d0:s.drop p=s.getD p 0::s.drop (p+1):=by
  rw[drop_eq_getElem_cons (show p<s.length by omega),Qa,Qb (show p<s.length by omega)];rfl
 generalize hc:s.getD p 0=c at*
 have g0:UInt8.ofNat ((c.toNat:Int)).toNat=c:=by simp
 have c0:∀(nd:ar) (e:Int),nd.kind=(c.toNat:Int)->0<=(bt p k nd e).2.1->e=((p+(aC nd).length:Nat):Int)->s.drop p=aC nd++s.drop (p+(aC nd).length)->
   s.drop p=aC (bt p k nd e).1++s.drop (p+(aC (bt p k nd e).1).length)/\(bt p k nd e).2.1=((p+(aC (bt p k nd e).1).length:Nat):Int):=by
  intro nd e _ hh he hd;unfold bt at hh⊢
  by_cases hq:((prem nd).any λx=>decide ((k:Int)<=x))=true
  ·rw[G hq]at hh;simp at hh
  rw[U hq];exact⟨hd,he⟩
 have dt:=cA s (p+1) (by omega)
 by_cases h2:(num s (p+1)).2.1<0
 ·rw[G h2]at h;simp at h
 rw[U h2]at h⊢;obtain⟨v,a1,a2,a3,a4⟩:=fN (s:=s) (p:=p+1) (by omega) (by omega);rw[a1,a3]at h⊢;rw[a3]at dt;simp only[Qm]at h⊢
 by_cases h3:aP (c.toNat:Int)= -1
 ·rw[G h3]at h⊢
  have a0:aP (c.toNat:Int)<0:=(by omega);have e0:=cA s (p+1+(aG v).length) (by omega)
  by_cases h4:(num s (p+1+(aG v).length)).2.1<0
  ·rw[G h4]at h;simp at h
  rw[U h4]at h⊢;obtain⟨m,b1,b2,b3,b4⟩:=fN (s:=s) (p:=p+1+(aG v).length) (by omega) (by omega);rw[b1,b3]at h⊢;rw[b3]at e0;simp only[Qm]at h⊢
  by_cases h5:(16:Int)<(m:Int)
  ·rw[G h5]at h;simp at h
  rw[U h5]at h⊢
  by_cases h6:(bW s (p+1+(aG v).length+(aG m).length) m).2.1<0
  ·rw[G h6]at h;simp at h
  rw[U h6]at h⊢;obtain⟨xs,c1,c2,c3,c4,c5⟩:=gN (s:=s) (p:=p+1+(aG v).length+(aG m).length) (n:=m) (by omega) (by omega);rw[c1,c4]at h⊢;have hnb:aC ⟨(c.toNat:Int),(v:Int),0,0,0,xs⟩=c::(aG v++(aG m++aR xs)):=by
   unfold aC dL;simp only[G a0,Qm,c2];rw[show UInt8.ofNat c.toNat=c by simp]
  refine c0 _ _ rfl h ?_ ?_
  ·rw[hnb];simp only[length_cons,length_append];congr 1;omega
  rw[hnb];simp only[length_cons,length_append,cons_append,append_assoc];rw[d0,a4,b4,c5]
  have:p+((aG v).length+((aG m).length+(aR xs).length)+1)=p+1+(aG v).length+(aG m).length+(aR xs).length:=by omega
  rw[this]
 rw[U h3]at h⊢;have i0:=eY (c.toNat:Int)
 have a0:¬aP (c.toNat:Int)<0:=by omega
 by_cases h6:(bW s (p+1+(aG v).length) (aP (c.toNat:Int)).toNat).2.1<0
 ·rw[G h6]at h;simp at h
 rw[U h6]at h⊢;obtain⟨xs,c1,c2,c3,c4,c5⟩:=gN (s:=s) (p:=p+1+(aG v).length) (n:=(aP (c.toNat:Int)).toNat) (by omega) (by omega);rw[c1,c4]at h⊢;have f0:dL ⟨(c.toNat:Int),(v:Int),xs.getD 0 0,xs.getD 1 0,xs.getD 2 0,[]⟩=xs:=by
  unfold dL;simp only[U a0];have b0:aP (c.toNat:Int)=0\/aP (c.toNat:Int)=1\/aP (c.toNat:Int)=2\/aP (c.toNat:Int)=3:=(by omega);rcases b0 with b0|b0|b0|b0<;>rw[b0]at c2⊢
  ·cases xs with
   |nil=>rfl
   |cons a t=>simp at c2
  ·obtain⟨a,rfl⟩:=length_eq_one_iff.1 c2;rfl
  ·match xs,c2 with
   |[a,b],_=>rfl
  match xs,c2 with
  |[a,b,d],_=>rfl
 have hnb:aC ⟨(c.toNat:Int),(v:Int),xs.getD 0 0,xs.getD 1 0,xs.getD 2 0,[]⟩=c::(aG v++aR xs):=by
  unfold aC;rw[f0];simp only[U a0,Qm,nil_append];rw[show UInt8.ofNat c.toNat=c by simp]
 refine c0 _ _ rfl h ?_ ?_
 ·rw[hnb];simp only[length_cons,length_append];congr 1;omega
 rw[hnb];simp only[length_cons,length_append,cons_append,append_assoc];rw[d0,a4,c5]
 have:p+((aG v).length+(aR xs).length+1)=p+1+(aG v).length+(aR xs).length:=by omega
 rw[this]
def gw(x:ar)(l:List ar):bj (x::l)=aC x++bj l:=by simp[bj]
def jh(s:L)(m:Nat):∀(k p:Nat) (st:Is) (acc:List ar),p<=s.length->(bV s m k p st acc).2.2.2<0->
  ∃ns,(bV s m k p st acc).1=acc++ns/\ns.length=m/\(bV s m k p st acc).2.2.1=((p+(bj ns).length:Nat):Int)/\s.drop p=bj ns++s.drop (p+(bj ns).length):=by
 induction m with
 |zero=>intro k p st acc hp h;exact⟨[],by simp[bV],rfl,by simp[bV,bj],by simp[bj]⟩
 |succ m ih=>
  intro k p st acc hp h;have a0:=iM s p k hp;simp only[bV]at h⊢
  by_cases h1:(one s p k).2.1<0
  ·rw[G h1]at h;simp only at h;omega
  rw[U h1]at h⊢;obtain⟨e1,e2⟩:=lQ hp (show 0<=(one s p k).2.1 by omega);rw[e2]at a0;rw[e2,Qm]at h⊢;obtain⟨ns,f1,f2,f3,f4⟩:=ih _ _ _ _ (by omega) h;refine⟨(one s p k).1::ns,by rw[f1];simp,by simp[f2],?_,?_⟩
  ·rw[f3,gw];simp[Nat.add_assoc]
  rw[gw,append_assoc,length_append,<-Nat.add_assoc,<-f4];exact e1
end Fl
def zn9(w:World)(ao:Option Addr)(s:L):Prop:=s≠[]->∃bb bo,ao=some (O bb bo)/\bb<w.heap.size/\∀i,i<s.length->w.cell? (O bb (bo+i))=some (.int .u8 (s.getD i 0).toNat)
def zn9.below{w':World}(h:zn9 w ao s)(hb:D w w'):zn9 w' ao s:=λa0=>by
 obtain⟨bb,bo,e,h1,h2⟩:=h a0;exact⟨bb,bo,e,Qj h1 hb.size,λi hi=>cT hb h1 (h2 i hi)⟩
def zn9.dp{base:Nat}{c:Nat}(h:w.ownsRow base 5 1 (A ao n c) s.length (s.map bval)):n=s.length/\zn9 w ao s:=by
 rcases h.2 with⟨e,h0⟩|⟨g,cap,cur,e,hb,hg,h3,h4,h5,h6⟩
 ·injection e with e1 e2
  exact⟨by omega,λa0=>absurd (Qi h0) a0⟩
 injection e with e1 e2;refine⟨e2,λ_=>⟨g,0,e1,?_,λi hi=>?_⟩⟩
 ·refine Classical.byContradiction λhn=>?_
  rw[Array.getElem?_eq_none (by omega)]at hg;cases hg
 rw[Nat.zero_add,cR i hg];rw[Nat.mul_one]at h6
 have h7:(cur.toList.take s.length)[i]?=(s.map bval)[i]?:=by rw[h6]
 rw[getElem?_take_of_lt hi,getElem?_map,Qb hi]at h7;rw[<-Array.getElem?_toList,h7];simp[bval,Qa,hi]
structure ze8(w:World):Prop where
 er:Vd w
 mg:1<w.heap.size
 ml:Xw w
def ze8.below{w w':World}(h:ze8 w)(hb:D w w'):ze8 w':=⟨(hb.cell (p:=⟨0,0,none⟩) (Qe w _ h.er)).trans h.er,by have:=hb.size;have:=h.mg;omega,h.ml.below lE hb⟩
def bytes_in(W:World)(l:L):zn9 (Lib.bytesWorld W 5 ⟨l.toArray⟩) (some (O W.heap.size 0)) l/\D W (Lib.bytesWorld W 5 ⟨l.toArray⟩)/\W.heap.size<(Lib.bytesWorld W 5 ⟨l.toArray⟩).heap.size:=by
 have hz:(Lib.bytesWorld W 5 ⟨l.toArray⟩).heap.size=W.heap.size+1:=Lib.bytesWorld_size _ _ _;refine⟨λ_=>⟨W.heap.size,0,rfl,by omega,λi hi=>?_⟩,⟨rfl,rfl,rfl,by omega,λk hk=>Lib.bytesWorld_at_old _ _ _ k hk⟩,by omega⟩;have:=Lib.bytesWorld_cell W 5 ⟨l.toArray⟩ i (by show i<l.toArray.size;simpa using hi);rw[Nat.zero_add,this]
def bytes_back{W:World}{l:L}(h:zn9 W ao l)(a0:l≠[])(cap:Nat):(convert 44 9 (A ao l.length cap)).run prog W=.ok (Tq l) W:=by
 obtain⟨b,o,rfl,-,hc⟩:=h a0;refine run_convert_bytes_back _ 44 9 5 (O b o) cap l underlying44 underlying5 underlying9 (λj hj=>?_)
 have h2:((O b o):Addr).add j=(O b (o+j)):=by unfold Addr.add;split<;>simp_all
 rw[h2,hc j hj];simp[Qa,hj]
end Go.Proofs.YtgmbnnpnefniiaaGreatDoor
