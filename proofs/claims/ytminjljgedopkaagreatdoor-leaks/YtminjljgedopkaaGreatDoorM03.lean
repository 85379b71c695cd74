import Derived.Test.YtminjljgedopkaaGreatDoorM02
import Derived.Laws.RangeAny
import Derived.RegionTactic
import Derived.Lib.Strings
import Derived.Deep.QuietTactic
import Derived.Deep.WholeRow
import Derived.StillTailTactics
import Derived.Deep.RegionWith
import Derived.BigQuiet
set_option linter.all false
set_option maxRecDepth 100000
set_option maxHeartbeats 40000000
namespace Go.Proofs.YtminjljgedopkaaGreatDoor
open Go.RowKit Go.Proofs.Tryz
def yz0(m v pos:Nat)(l:List UInt8)(h:pos<l.length):Fl.lnumF m v (l.drop pos)=if Fl.isDig (l.getD pos 0)=false then none else if(m - ((l.getD pos 0).toNat - 48)) / 10<v then none else Fl.lnumF m (10*v+((l.getD pos 0).toNat - 48)) (l.drop (pos+1)):=by
 rw[List.drop_eq_getElem_cons h,Fl.lnumF];simp[Qa,h]
def Xd(w:World)(s:ByteArray)(pos:Nat):Below w.heap.size w (w.iter s pos):=bA
def zcx(l:List UInt8)(m:Nat)(w:World)(hl:l.length<=100000)(o0:9<=m)(hm:m<=4000000000):
  Calls prog 141 #[.string ⟨l.toArray⟩,.int .i64 m] w λe w'=>e=.returned (.tuple #[.int .i64 ((Fl.lnum m l).getD 0),.bool (Fl.lnum m l).isSome])/\Below w.heap.size w w':=by
 by_cases h0:l=[]
 ·subst h0
  go_enter func141,ntmps141
  go_wp2
  go_ret2
  exact⟨rfl,Below.refl _ _⟩
 have l0:0<l.length:=List.length_pos_iff.2 h0;have hsz:(⟨l.toArray⟩:ByteArray).size=l.length:=rfl;have hh:l.headD 0=(⟨l.toArray⟩:ByteArray)[0]:=by
  cases l with
  |nil=>simp at l0
  |cons a r=>rfl
 have b0:l.isEmpty=false:=by simpa using h0
 by_cases a0:l.headD 0=48/\l.length≠1
 ·have HF:Hid (Fl.lnum m l=none):=by
   show _=_;unfold Fl.lnum;rw[if_neg h0,if_pos a0]
  have b1:((((⟨l.toArray⟩:ByteArray)[0]).toNat:Int)==48)=true:=(by rw[<-hh,a0.1];rfl);have b2:(l==[48])=false:=by
   rw[Qh];rintro rfl;exact a0.2 rfl
  clear hh a0 h0
  go_enter func141,ntmps141
  go_wp2
  go_ret2
  exact⟨by rw[HF.out];rfl,Below.refl _ _⟩
 have HF:Hid (Fl.lnum m l=Fl.lnumF m 0 l):=by
  show _=_;unfold Fl.lnum;rw[if_neg h0,if_neg a0]
 have hA:((((⟨l.toArray⟩:ByteArray)[0]).toNat:Int)==48)=false\/((((⟨l.toArray⟩:ByteArray)[0]).toNat:Int)==48)=true/\(l==[48])=true:=by
  by_cases h1:l.headD 0=48
  ·right
   refine⟨by rw[<-hh,h1];rfl,?_⟩;have h2:l.length=1:=Classical.byContradiction λh=>a0 ⟨h1,h⟩
   match l,h2,h1 with
   |[a],_,h1=>simp at h1;subst h1;rfl
  left
  rw[Qh];intro h2;apply h1;rw[hh];exact UInt8.toNat_inj.1 (by show _=48;omega)
 have f0:Hid (∀pos (h:pos<l.length),((⟨l.toArray⟩:ByteArray)[pos]'h)=l.getD pos 0):=by
  intro pos h;show l.toArray[pos]=_;simp[Qa,h]
 have p0:(9:Int)<=(m:Int):=by omega
 have q0:(m:Int)<=4000000000:=by omega
 clear hh a0 h0 hsz;rcases hA with b1|⟨b1,b2⟩
 all_goals
  go_enter func141,ntmps141
  go_wp2_with fail
  go_loopw [6] (λn wr=>∃(pos v:Nat),wr=w.iter ⟨l.toArray⟩ pos/\n=.int .i64 v/\pos<=l.length/\v<=m/\Fl.lnumF m 0 l=Fl.lnumF m v (l.drop pos)) (λ_ wr=>l.length - wr.iterPos w.heap.size)
  case atStart=>exact⟨0,0,rfl,rfl,by omega,by omega,rfl⟩
  case round=>
   obtain⟨pos,v,rfl,rfl,r0,s0,hr⟩:=hrel;have HR:=Zz hr;clear hr
   by_cases hp:pos<l.length
   ·obtain⟨c,hc⟩:=nmE (l.getD pos 0)
    have hst:=yz0 m v pos l hp;rw[<-hc]at hst;have d0:=Zz hst;have c0:(⟨l.toArray⟩:ByteArray)[pos]'hp=c:=(by rw[f0.out pos hp,hc]);clear hst hc
    by_cases ha:c.toNat<128
    ·have i0:∀ty,(Instr.next (.pointer (some ⟨w.heap.size,0,none⟩)) true ty).run prog (w.iter ⟨l.toArray⟩ pos)=.ok (.tuple #[.bool true,.int .i64 pos,.int .i32 (c.toNat:Int)]) (w.iter ⟨l.toArray⟩ (pos+1)):=λty=>by
      have:=run_next_ascii (P:=prog) w ⟨l.toArray⟩ pos ty hp (by rw[c0];exact ha);rw[c0]at this;exact this
     have j0:Fl.isDig c=true ↔ 48<=c.toNat/\c.toNat<=57:=Fl.isDig_nat c;have k0:=Zz j0;clear c0 j0;generalize hcn:c.toNat=cn at*
     by_cases hd:48<=cn/\cn<=57
     ·have t0:(48:Int)<=(cn:Int):=by omega
      have u0:(cn:Int)<=57:=(by omega);have e0:Fl.isDig c=true:=k0.out.2 hd;have v0:(v:Int)<=4000000000:=(by omega)
      by_cases hq:(m - (cn - 48)) / 10<v
      ·have m0:((m:Int) - ((cn:Int) - 48)) / 10<(v:Int):=by omega
       have HE:Hid (Fl.lnum m l=none):=by
        show _=_;rw[HF.out,HR.out,d0.out,if_neg (by rw[e0];decide),if_pos hq]
       clear hcn hd hq e0;go_wp2
       go_ret2
       exact⟨by rw[HE.out];rfl,Xd _ _ _⟩
      have m0:(v:Int)<=((m:Int) - ((cn:Int) - 48)) / 10:=(by omega);have HE:Hid (Fl.lnumF m 0 l=Fl.lnumF m (10*v+(cn - 48)) (l.drop (pos+1))):=by
       show _=_;rw[HR.out,d0.out,if_neg (by rw[e0];decide),if_neg hq]
      have n0:10*v+(cn - 48)<=m:=(by omega);clear hcn hd hq e0;go_wp2
      go_roundw
      case rel=>exact⟨pos+1,10*v+(cn - 48),rfl,by go_num,by omega,n0,HE.out⟩
      case measure=>simp;omega
     have HE:Hid (Fl.lnum m l=none):=by
      show _=_;rw[HF.out,HR.out,d0.out,if_pos]
      cases hh:Fl.isDig c with
      |false=>rfl
      |true=>exact absurd (k0.out.1 hh) hd
     clear hcn;have g0:(cn:Int) - 48<0\/9<(cn:Int) - 48:=(by omega);have x0:(cn:Int)<128:=(by omega);rcases g0 with g0|g0
     all_goals
      go_wp2
      go_ret2
      exact⟨by rw[HE.out];rfl,Xd _ _ _⟩
    obtain⟨h1,h2⟩:=decode_high (⟨l.toArray⟩:ByteArray) pos hp (by rw[c0];omega);have h3:=decode_le (⟨l.toArray⟩:ByteArray) pos;have i0:∀ty,(Instr.next (.pointer (some ⟨w.heap.size,0,none⟩)) true ty).run prog (w.iter ⟨l.toArray⟩ pos)=_:=λty=>run_next_any w ⟨l.toArray⟩ pos ty hp;have HE:Hid (Fl.lnum m l=none):=by
     show _=_;rw[HF.out,HR.out,d0.out,if_pos]
     cases hh:Fl.isDig c with
     |false=>rfl
     |true=>have:=(Fl.isDig_nat c).1 hh;omega
    generalize (Utf8.decode (⟨l.toArray⟩:ByteArray) pos).1=r at*;generalize (Utf8.decode (⟨l.toArray⟩:ByteArray) pos).2=rw at*;have y0:(128:Int)<=(r:Int):=(by omega);have z0:(r:Int)<=2147483647:=(by omega);clear h1 h3 c0;go_wp2
    go_ret2
    exact⟨by rw[HE.out];rfl,Xd _ _ _⟩
   have HE:Hid (Fl.lnum m l=some v):=by
    show _=_;rw[HF.out,HR.out,List.drop_of_length_le (by omega)];rfl
   have i0:∀ty,(Instr.next (.pointer (some ⟨w.heap.size,0,none⟩)) true ty).run prog (w.iter ⟨l.toArray⟩ pos)=_:=λty=>run_next_end w ⟨l.toArray⟩ pos ty hp;go_wp2
   go_ret2
   exact⟨by rw[HE.out];rfl,Xd _ _ _⟩
def zi0(c:UInt8):Fl.isLow c=true ↔ 97<=c.toNat/\c.toNat<=122:=by
 unfold Fl.isLow;rw[Bool.and_eq_true,decide_eq_true_eq,decide_eq_true_eq,UInt8.le_iff_toNat_le,UInt8.le_iff_toNat_le];rfl
def zi1(p:UInt8->Bool)(l:List UInt8)(i:Nat)(h:i<l.length)(hp:p (l.getD i 0)=false):l.all p=false:=by
 rw[Bool.eq_false_iff];intro ha;rw[List.all_eq_true]at ha;have:=ha (l.getD i 0) (by rw[Qa,Qb h];simp)
 rw[hp]at this;cases this
def ysx(p:UInt8->Bool)(l:List UInt8)(h:∀i,i<l.length->p (l.getD i 0)=true):l.all p=true:=by
 rw[List.all_eq_true];intro x hx;obtain⟨i,hi,rfl⟩:=List.getElem_of_mem hx;have:=h i hi
 rwa [Qa,Qb hi]at this
def yz1(l:List UInt8)(w:World)(hl:l.length<=100000):
  Calls prog 188 #[.string ⟨l.toArray⟩] w λe w'=>e=.returned (.bool (Fl.named l))/\Below w.heap.size w w':=by
 have hsz:(⟨l.toArray⟩:ByteArray).size=l.length:=rfl;have b0:Hid (∀pos (h:pos<l.length),((⟨l.toArray⟩:ByteArray)[pos]'h)=l.getD pos 0):=by
  intro pos h;show l.toArray[pos]=_;simp[Qa,h]
 clear hsz
 go_enter func188,ntmps188
 go_wp2_with fail
 go_loopw [] (λwr=>∃(pos:Nat),wr=w.iter ⟨l.toArray⟩ pos/\pos<=l.length/\∀i,i<pos->Fl.isLow (l.getD i 0)=true) (λwr=>l.length - wr.iterPos w.heap.size)
 case atStart=>exact⟨0,rfl,by omega,λi hi=>by omega⟩
 case round=>
  obtain⟨pos,rfl,j0,hr⟩:=hrel;have HR:=Zz hr;clear hr
  by_cases hp:pos<l.length
  ·obtain⟨c,hc⟩:=nmE (l.getD pos 0)
   have a0:(⟨l.toArray⟩:ByteArray)[pos]'hp=c:=(by rw[b0.out pos hp,hc]);have HC:=Zz hc;clear hc
   by_cases ha:c.toNat<128
   ·have e0:∀ty,(Instr.next (.pointer (some ⟨w.heap.size,0,none⟩)) true ty).run prog (w.iter ⟨l.toArray⟩ pos)=.ok (.tuple #[.bool true,.int .i64 pos,.int .i32 (c.toNat:Int)]) (w.iter ⟨l.toArray⟩ (pos+1)):=λty=>by
     have:=run_next_ascii (P:=prog) w ⟨l.toArray⟩ pos ty hp (by rw[a0];exact ha);rw[a0]at this;exact this
    have f0:Hid (Fl.isLow c=true ↔ 97<=c.toNat/\c.toNat<=122):=zi0 c;clear a0;generalize hcn:c.toNat=cn at*
    by_cases hd:97<=cn/\cn<=122
    ·have k0:(97:Int)<=(cn:Int):=by omega
     have l0:(cn:Int)<=122:=(by omega);have g0:Hid (Fl.isLow c=true):=f0.out.2 hd;clear hcn hd;go_wp2
     go_roundw
     case rel=>
      refine⟨pos+1,rfl,by omega,λi hi=>?_⟩
      by_cases h0:i=pos
      ·subst h0;rw[<-HC.out];exact g0.out
      exact HR.out i (by omega)
     case measure=>simp;omega
    have HE:Hid (Fl.named l=false):=by
     show _=_;unfold Fl.named;rw[zi1 _ l pos hp (by rw[<-HC.out];rw[Bool.eq_false_iff];intro h;exact hd (f0.out.1 h))];rfl
    clear hcn;have c0:(cn:Int)<97\/97<=(cn:Int)/\122<(cn:Int):=(by omega);rcases c0 with c0|⟨c0,m0⟩
    all_goals
     go_wp2;go_ret;exact⟨by rw[HE.out];rfl,Xd _ _ _⟩
   obtain⟨h1,h2⟩:=decode_high (⟨l.toArray⟩:ByteArray) pos hp (by rw[a0];omega);have h3:=decode_le (⟨l.toArray⟩:ByteArray) pos;have e0:∀ty,(Instr.next (.pointer (some ⟨w.heap.size,0,none⟩)) true ty).run prog (w.iter ⟨l.toArray⟩ pos)=_:=λty=>run_next_any w ⟨l.toArray⟩ pos ty hp;have HE:Hid (Fl.named l=false):=by
    show _=_;unfold Fl.named;rw[zi1 _ l pos hp (by rw[<-HC.out];rw[Bool.eq_false_iff];intro h;have:=(zi0 c).1 h;omega)];rfl
   generalize (Utf8.decode (⟨l.toArray⟩:ByteArray) pos).1=r at*;generalize (Utf8.decode (⟨l.toArray⟩:ByteArray) pos).2=rw at*;have d0:(128:Int)<=(r:Int):=(by omega);have n0:(r:Int)<=2147483647:=(by omega);clear h1 h3 a0;go_wp2;go_ret;exact⟨by rw[HE.out];rfl,Xd _ _ _⟩
  have HA:Hid (l.all Fl.isLow=true):=ysx _ l (λi hi=>HR.out i (by omega));have e0:∀ty,(Instr.next (.pointer (some ⟨w.heap.size,0,none⟩)) true ty).run prog (w.iter ⟨l.toArray⟩ pos)=_:=λty=>run_next_end w ⟨l.toArray⟩ pos ty hp
  by_cases h1:1<=l.length
  ·by_cases h6:l.length<=6
   ·have d0:(1:Int)<=(l.length:Int):=by omega
    have i0:(l.length:Int)<=6:=(by omega);have HE:Hid (Fl.named l=true):=(by show _=_;unfold Fl.named;rw[HA.out];simp;omega);go_wp2;go_ret;exact⟨by rw[HE.out];rfl,Xd _ _ _⟩
   have d0:(1:Int)<=(l.length:Int):=(by omega);have i0:¬(l.length:Int)<=6:=(by omega);have HE:Hid (Fl.named l=false):=(by show _=_;unfold Fl.named;rw[HA.out];simp;omega);go_wp2;go_ret;exact⟨by rw[HE.out];rfl,Xd _ _ _⟩
  have d0:¬(1:Int)<=(l.length:Int):=(by omega);have HE:Hid (Fl.named l=false):=(by show _=_;unfold Fl.named;rw[HA.out];simp;omega);go_wp2;go_ret;exact⟨by rw[HE.out];rfl,Xd _ _ _⟩
def zo2(l:List UInt8)(w:World)(hl:l.length<=100000):
  Calls prog 189 #[.string ⟨l.toArray⟩] w λe w'=>e=.returned (.tuple #[.int .i64 ((Fl.lnum 999999999 l).getD 0),.bool (Fl.lnum 999999999 l).isSome])/\Below w.heap.size w w':=by
 have HN:Hid (Calls prog 141 #[.string ⟨l.toArray⟩,.int .i64 999999999] w λe w'=>e=.returned (.tuple #[.int .i64 ((Fl.lnum 999999999 l).getD 0),.bool (Fl.lnum 999999999 l).isSome])/\Below w.heap.size w w'):=zcx l 999999999 w hl (by decide) (by decide);generalize (((Fl.lnum 999999999 l).getD 0:Nat):Int)=v at*;generalize (Fl.lnum 999999999 l).isSome=b at*
 go_enter func189,ntmps189
 go_wp2_with fail
 refine HN.out.mono ?_;rintro e w1 ⟨rfl,hb⟩;go_wp2
 go_ret2
 exact⟨rfl,hb⟩
def yz2(l:List UInt8):(l=[43]/\Fl.place Fl.signs l=0)\/(l=[45]/\Fl.place Fl.signs l=1)\/(l=[42]/\Fl.place Fl.signs l=2)\/(l=[60]/\Fl.place Fl.signs l=3)\/(l=[61,61]/\Fl.place Fl.signs l=4)\/((l==[43])=false/\(l==[45])=false/\(l==[42])=false/\(l==[60])=false/\(l==[61,61])=false/\Fl.place Fl.signs l= -1):=by
 by_cases h1:l=[43]
 ·subst h1;left;exact⟨rfl,rfl⟩
 by_cases h2:l=[45]
 ·subst h2;right;left;exact⟨rfl,rfl⟩
 by_cases h3:l=[42]
 ·subst h3;right;right;left;exact⟨rfl,rfl⟩
 by_cases h4:l=[60]
 ·subst h4;right;right;right;left;exact⟨rfl,rfl⟩
 by_cases h5:l=[61,61]
 ·subst h5;right;right;right;right;left;exact⟨rfl,rfl⟩
 right;right;right;right;right
 refine⟨by simpa using h1,by simpa using h2,by simpa using h3,by simpa using h4,by simpa using h5,Fl.place_miss l Fl.signs λj hj=>?_⟩;have hj:j<5:=hj;rcases(show j=0\/j=1\/j=2\/j=3\/j=4 by omega) with rfl|rfl|rfl|rfl|rfl<;>simp[Fl.signs]<;>(intro h;exact absurd h.symm (by assumption))
def zr7(l:List UInt8)(w:World)(hl:l.length<=100000):
  Calls prog 190 #[.string ⟨l.toArray⟩] w λe w'=>e=.returned (.tuple #[.int .i64 ((Fl.place Fl.signs l).toNat:Int),.bool (decide (0<=Fl.place Fl.signs l))])/\w'=w:=by
 rcases yz2 l with⟨rfl,h⟩|⟨rfl,h⟩|⟨rfl,h⟩|⟨rfl,h⟩|⟨rfl,h⟩|⟨h1,h2,h3,h4,h5,h⟩
 all_goals
  rw[h];clear h
  go_enter func190,ntmps190
  go_wp2
  go_ret2
  exact⟨rfl,rfl⟩
def bl(ss:List ByteArray):List (List UInt8):=ss.map ByteArray.toList
def strV(l:List UInt8):Value:=.string ⟨l.toArray⟩
def zy0{w:World}{e:TypeId}{x:Value}:∀j u,[x][j]?=some u->(w.alloc (.cells #[x] e)).cell? ((⟨w.heap.size,0,none⟩:Addr).add j)=some u:=by
 intro j u hj
 match j,hj with
 |0,hj=>simp at hj;subst hj;simp[Addr.add]
def Zf(B:Nat)(w:World)(v:Value)(ws:List (List UInt8)):Prop:=
 ∃ao cap,v=.slice ao ws.length cap/\ws.length<=cap/\cap<=maxLen/\ws.length<=100000/\(∀x∈ws,x.length<=100000)/\
  (ws≠[]->∃b off,ao=some ⟨b,off,none⟩/\b<B/\∀i,i<ws.length->w.cell? ⟨b,off+i,none⟩=some (strV (ws.getD i [])))
def Zf.below{B:Nat}{w w':World}{v:Value}{ws:List (List UInt8)}(h:Zf B w v ws)(hb:Below B w w'):Zf B w' v ws:=by
 obtain⟨ao,cap,h1,h2,h3,h4,h5,h6⟩:=h;refine⟨ao,cap,h1,h2,h3,h4,h5,λa0=>?_⟩;obtain⟨b,off,e,hb',hc⟩:=h6 a0;exact⟨b,off,e,hb',λi hi=>(hb.cell (p:=⟨b,off+i,none⟩) hb').trans (hc i hi)⟩
def Zf.mono{B B':Nat}{w:World}{v:Value}{ws:List (List UInt8)}(h:Zf B w v ws)(hB:B<=B'):Zf B' w v ws:=by
 obtain⟨ao,cap,h1,h2,h3,h4,h5,h6⟩:=h;refine⟨ao,cap,h1,h2,h3,h4,h5,λa0=>?_⟩;obtain⟨b,off,e,hb',hc⟩:=h6 a0;exact⟨b,off,e,by omega,hc⟩
def Zf.drop{B:Nat}{w:World}{b off n cap:Nat}{ws:List (List UInt8)}(h:Zf B w (.slice (some ⟨b,off,none⟩) n cap) ws)(k:Nat)(hk:k<=n):Zf B w (.slice (some ⟨b,off+k,none⟩) (n - k) (cap - k)) (ws.drop k):=by
 obtain⟨ao,cap',h1,h2,h3,h4,h5,h6⟩:=h;simp only[Value.slice.injEq]at h1;obtain⟨rfl,rfl,rfl⟩:=h1;refine⟨_,_,by rw[List.length_drop],by rw[List.length_drop];omega,by omega,by rw[List.length_drop];omega,λx hx=>h5 x (List.mem_of_mem_drop hx),λa0=>?_⟩
 have hn:ws≠[]:=by rintro rfl;simp at a0
 obtain⟨b',off',e,hb',hc⟩:=h6 hn;simp only[Option.some.injEq,Addr.mk.injEq,and_true]at e;obtain⟨rfl,rfl⟩:=e;refine⟨_,_,rfl,hb',λi hi=>?_⟩;rw[List.length_drop]at hi;rw[Nat.add_assoc,hc (k+i) (by omega)];simp[Qa]
def Zf.of_own{base:Nat}{w:World}{e:TypeId}{v:Value}{n:Nat}{ws:List (List UInt8)}(h:w.ownsRow base e 1 v n (ws.map strV))(hl:ws.length<=100000)(h5:∀x∈ws,x.length<=100000):Zf w.heap.size w v ws:=by
 have hl:ws.length=n:=by have:=h.1;simpa using this
 rcases h.2 with⟨rfl,h0⟩|⟨g,cap,cur,rfl,hb,hg,b0,a0,c0,ht⟩
 ·have:ws=[]:=Qi (by omega)
  subst this;exact⟨none,0,rfl,by simp,by simp[maxLen],by simp,by simp,λh=>absurd rfl h⟩
 refine⟨_,cap,by rw[hl],by omega,a0,by omega,h5,λd0=>⟨g,0,rfl,(Array.getElem?_eq_some_iff.1 hg).1,λi hi=>?_⟩⟩;have h1:=h.cells (g:=g) rfl i (strV (ws.getD i [])) (by simp[Qa,hi])
 have h2:(⟨g,0,none⟩:Addr).add i=⟨g,0+i,none⟩:=by unfold Addr.add;split<;>simp_all
 rw[h2]at h1;exact h1
def Uy(W:World)(k:Nat)(s:ByteArray)(pos:Nat):World:={W with heap:=W.heap.setIfInBounds k (.stringIter s pos)}
def next_at(W:World)(k:Nat)(s:ByteArray)(pos:Nat)(ty:TypeId)(hk:W.heap[k]?=some (.stringIter s pos))(h:pos<s.size)(ha:(s[pos]'h).toNat<128):
  (Instr.next (.pointer (some ⟨k,0,none⟩)) true ty).run prog W=.ok (.tuple #[.bool true,.int .i64 pos,.int .i32 (s[pos]'h).toNat]) (Uy W k s (pos+1)):=by
 simp only[Instr.next,getObj,setObj,Sem.run_bind,Sem.run,hk,Result.andThen,h,if_true,decode_ascii s pos h ha];simp[goInt,Sem.run,hk,Uy]
def zcw(W:World)(k:Nat)(s:ByteArray)(pos:Nat)(ty:TypeId)(hk:W.heap[k]?=some (.stringIter s pos))(h:¬pos<s.size):
  (Instr.next (.pointer (some ⟨k,0,none⟩)) true ty).run prog W=.ok (.tuple #[.bool false]) W:=by
 simp[Instr.next,getObj,Sem.run,hk,h]
def yz3{W:World}{k:Nat}{s:ByteArray}{pos:Nat}(hk:k<W.heap.size):(Uy W k s pos).heap[k]?=some (.stringIter s pos):=by
 simp[Uy,hk]
def zf2(W:World)(k:Nat)(s:ByteArray)(pos:Nat):(Uy W k s pos).heap.size=W.heap.size:=by simp[Uy]
def zhx(W:World)(k:Nat)(s:ByteArray)(pos j:Nat)(hj:j≠k):(Uy W k s pos).heap[j]?=W.heap[j]?:=by
 simp only[Uy];rw[Array.getElem?_setIfInBounds_ne (by omega)]
def zhw{B:Nat}{w W:World}(h:Below B w W){k:Nat}(hk:B<=k)(s:ByteArray)(pos:Nat):Below B w (Uy W k s pos):=
 ⟨h.os,h.tape,h.output,by rw[zf2];exact h.size,λj hj=>by rw[zhx _ _ _ _ _ (by omega)];exact h.block j hj⟩
def zf3(B:Nat)(sh:List UInt8)(v:Value)(ws:List (List UInt8))(w:World)(hv:Zf B w v ws)(hB:B<=w.heap.size)(y0:∀c∈sh,c=110\/c=97\/c=111)(T0:sh.length<=4):
  Calls prog 153 #[.string ⟨sh.toArray⟩,v] w λe w'=>e=.returned (.bool (Fl.fitAll sh ws))/\Below w.heap.size w w':=by
 obtain⟨ao,cap,rfl,hl,I0,hn,i0,hc⟩:=hv
 by_cases hlen:ws.length=sh.length
 ·have b0:((ws.length:Int) !=(sh.length:Int))=false:=by rw[hlen];simp
  have j0:Hid (∀pos (h:pos<sh.length),((⟨sh.toArray⟩:ByteArray)[pos]'h)=sh.getD pos 0):=by
   intro pos h;show sh.toArray[pos]=_;simp[Qa,h]
  have z0:Hid (Fl.fitAll sh ws=true ↔ ∀i,i<sh.length->Fl.fit1 (sh.getD i 0) (ws.getD i [])=true):=Fl.fitAll_iff sh ws hlen;have J0:=Zz y0;have HL:=Zz hlen;have K0:=Zz i0;have HC:=Zz hc;clear hlen y0 i0 hc
  go_enter func153,ntmps153
  go_wp2_with fail
  go_loopw [] (λwr=>∃(pos:Nat),wr.heap[w.heap.size]?=some (.stringIter ⟨sh.toArray⟩ pos)/\Below w.heap.size w wr/\pos<=sh.length/\∀i,i<pos->Fl.fit1 (sh.getD i 0) (ws.getD i [])=true) (λwr=>sh.length - wr.iterPos w.heap.size)
  case atStart=>exact⟨0,World.iter_heap _ _ _,Xd _ _ _,by omega,λi hi=>by omega⟩
  case round=>
   obtain⟨pos,d0,a0,U0,hr⟩:=hrel;have HR:=Zz hr;have L0:w.heap.size<wr.heap.size:=(Array.getElem?_eq_some_iff.1 d0).1;have e0:wr.iterPos w.heap.size=pos:=(by unfold World.iterPos;rw[d0]);have k0:=Zz e0;clear hr e0
   by_cases hp:pos<sh.length
   ·obtain⟨c,g0⟩:=nmE (sh.getD pos 0)
    have l0:(⟨sh.toArray⟩:ByteArray)[pos]'hp=c:=(by rw[j0.out pos hp,g0]);have m0:c=110\/c=97\/c=111:=J0.out c (by rw[g0,Qa,Qb hp];simp)
    have ha:c.toNat<128:=by rcases m0 with rfl|rfl|rfl<;>decide
    have A0:∀ty,(Instr.next (.pointer (some ⟨w.heap.size,0,none⟩)) true ty).run prog wr=.ok (.tuple #[.bool true,.int .i64 pos,.int .i32 (c.toNat:Int)]) (Uy wr w.heap.size ⟨sh.toArray⟩ (pos+1)):=λty=>by
     have:=next_at wr w.heap.size ⟨sh.toArray⟩ pos ty d0 hp (by rw[l0];exact ha);rw[l0]at this;exact this
    obtain⟨W1,h0⟩:=nmE (Uy wr w.heap.size ⟨sh.toArray⟩ (pos+1));rw[<-h0]at A0;have n0:Below w.heap.size w W1:=(by rw[h0];exact zhw a0 (Nat.le_refl _) _ _);have B0:Hid (W1.heap[w.heap.size]?=some (.stringIter ⟨sh.toArray⟩ (pos+1))):=(by show _=_;rw[h0];exact yz3 L0);obtain⟨b,off,rfl,V0,c0⟩:=HC.out (by intro h;have:=HL.out;rw[h]at this;simp at this;omega);obtain⟨x,hx⟩:=nmE (ws.getD pos []);have hpw:pos<ws.length:=(by have:=HL.out;omega);have o0:x.length<=100000:=K0.out x (by rw[hx,Qa,Qb hpw];simp)
    have p0:∀W,Below w.heap.size w W->W.cell? ⟨b,off+pos,none⟩=some (.string ⟨x.toArray⟩):=λW hW=>by
     rw[hW.cell (p:=⟨b,off+pos,none⟩) (by show b<_;omega),c0 pos hpw,hx];rfl
    have q0:=Zz p0;have M0:=Zz n0;have HX:=Zz hx;have C0:=Zz g0;have N0:=p0 W1 n0;have O0:w.heap.size<W1.heap.size:=(Array.getElem?_eq_some_iff.1 B0.out).1;have W0:(pos:Int)<(ws.length:Int):=(by omega);clear c0 l0 h0 hx g0 p0 n0 d0 a0;obtain⟨nb,hnb⟩:=nmE (Fl.named x);obtain⟨kb,r0⟩:=nmE ((Fl.lnum 999999999 x).isSome);obtain⟨kv,D0⟩:=nmE (α:=Int) (((Fl.lnum 999999999 x).getD 0:Nat));obtain⟨ob,s0⟩:=nmE (decide (0<=Fl.place Fl.signs x));obtain⟨ov,E0⟩:=nmE (α:=Int) (((Fl.place Fl.signs x).toNat:Int))
    have HN:Hid (∀W,Calls prog 188 #[.string ⟨x.toArray⟩] W λe w'=>e=.returned (.bool nb)/\Below W.heap.size W w'):=λW=>by rw[hnb];exact yz1 x W o0
    have HK:Hid (∀W,Calls prog 189 #[.string ⟨x.toArray⟩] W λe w'=>e=.returned (.tuple #[.int .i64 kv,.bool kb])/\Below W.heap.size W w'):=λW=>by rw[D0,r0];exact zo2 x W o0
    have HO:Hid (∀W,Calls prog 190 #[.string ⟨x.toArray⟩] W λe w'=>e=.returned (.tuple #[.int .i64 ov,.bool ob])/\w'=W):=λW=>by rw[E0,s0];exact zr7 x W o0
    have f0:Hid (Fl.fit1 c x=if c=110 then nb else if c=97 then(nb||kb) else ob):=by
     show _=_;rw[hnb,r0,s0,Fl.lnum_some];rcases m0 with rfl|rfl|rfl<;>simp[Fl.fit1,Fl.atom]
    have P0:Hid (Fl.fit1 c x=false->Fl.fitAll sh ws=false):=λh=>by
     rw[Bool.eq_false_iff];intro hh;have:=z0.out.1 hh pos hp
     rw[<-C0.out,<-HX.out,h]at this;cases this
    have t0:Hid (Fl.fit1 c x=true->∀i,i<pos+1->Fl.fit1 (sh.getD i 0) (ws.getD i [])=true):=λh i hi=>by
     by_cases Q0:i=pos
     ·subst Q0;rw[<-C0.out,<-HX.out];exact h
     exact HR.out i (by omega)
    clear hnb r0 D0 s0 E0 ha
    go_wp2_with fail
    refine(HN.out _).mono ?_;rintro e W2 ⟨rfl,u0⟩;have F0:Hid (Below w.heap.size w W2):=M0.out.trans (u0.mono (by omega));have G0:Hid (W2.heap[w.heap.size]?=some (.stringIter ⟨sh.toArray⟩ (pos+1))):=(u0.block _ O0).trans B0.out;have R0:=q0.out W2 F0.out;have S0:w.heap.size<W2.heap.size:=(Array.getElem?_eq_some_iff.1 G0.out).1;clear u0 N0
    go_wp2_with fail
    refine(HK.out _).mono ?_;rintro e W3 ⟨rfl,v0⟩;have x0:Hid (Below w.heap.size w W3):=F0.out.trans (v0.mono (by omega));have H0:Hid (W3.heap[w.heap.size]?=some (.stringIter ⟨sh.toArray⟩ (pos+1))):=(v0.block _ S0).trans G0.out;have X0:=q0.out W3 x0.out;clear v0 R0
    go_wp2_with fail
    refine(HO.out _).mono ?_;rintro e W4 ⟨rfl,rfl⟩;clear HN HK HO q0;rcases m0 with rfl|rfl|rfl<;>cases nb<;>cases kb<;>cases ob
    all_goals
     go_wp2
     first
     |(go_ret;exact⟨by rw[P0.out (by rw[f0.out];rfl)];rfl,x0.out⟩)
     |(go_roundw;(case rel=>exact⟨pos+1,H0.out,x0.out,by omega,t0.out (by rw[f0.out];rfl)⟩);(case measure=>rw[k0.out];simp[World.iterPos,H0.out];omega))
   have HA:Hid (Fl.fitAll sh ws=true):=z0.out.2 (λi hi=>HR.out i (by omega));have A0:∀ty,(Instr.next (.pointer (some ⟨w.heap.size,0,none⟩)) true ty).run prog wr=.ok (.tuple #[.bool false]) wr:=λty=>zcw wr w.heap.size ⟨sh.toArray⟩ pos ty d0 hp;have HB:=Zz a0;clear d0 a0;go_wp2;go_ret;exact⟨by rw[HA.out];rfl,HB.out⟩
 have b0:((ws.length:Int) !=(sh.length:Int))=true:=by rw[bne_iff_ne];omega
 have HE:Hid (Fl.fitAll sh ws=false):=by
  show _=_;rw[Bool.eq_false_iff];intro h;exact hlen (Fl.fitAll_len sh ws h)
 clear hc i0
 go_enter func153,ntmps153
 go_wp2;go_ret;exact⟨by rw[HE.out];rfl,Below.refl _ _⟩
section
variable{P:Program}(w:World)
def zq2(base:Nat)(t ty e:TypeId)(i:TypeInfo)(z:Value)(size bytes:Nat)(ht:P.underlying t=some (.slice e))(hi:P.info? e=some i)(hz:i.zero=some z)
  (a0:i.size=size) (i0:i.bytes=bytes) (m0:z.cells.size=size) (hsz:0<size)
  (v:Value) (n:Nat) (xs:List Value) (d0:w.ownsRow base e size v n xs)
  (a:Addr) (m c:Nat) (news:List Value) (hl:news.length=m*size) (c0:∀j u,news[j]?=some u->w.cell? (a.add j)=some u) (h1:∀u∈news,u.oneCell'=true)
  (j0:n+m<=maxLen) (b0:(n+m)*bytes<=140737488355328) (f0:base<=w.heap.size) (hm:0<m):
  ∃v' w',(Builtin.append_ #[t,t] ty #[v,.slice (some a) m c]).run P w=.ok v' w'/\w'.ownsRow base e size v' (n+m) (xs++news)/\w.grownBy w' v.ownBlock/\(v'.ownBlock=v.ownBlock\/v'.ownBlock=some w.heap.size):=by
 obtain⟨v',w',hr,ho,hg,_⟩:=run_append_own (P:=P) w base t ty e i z size bytes ht hi hz a0 i0 m0 hsz v n xs d0 a m c news hl c0 h1 j0 b0 f0;refine⟨v',w',hr,ho,hg,?_⟩;rcases d0.2 with⟨rfl,h0⟩|⟨g,cap,cur,rfl,p0,n0,q0,r0,o0,l0⟩
 ·subst h0
  have g0:=run_append_nil (P:=P) w t ty e i z ht hi hz a m c news (by rw[a0];exact hl) c0 hm (by unfold maxLen at j0;omega) (by rw[i0];simp only[Nat.zero_add]at b0;omega);rw[g0]at hr;injection hr with hv _
  right;rw[<-hv];rfl
 by_cases e0:n+m<=cap
 ·have k0:n*i.size+news.length<=cur.size:=by
   rw[o0,hl,a0,<-Nat.add_mul];exact Nat.mul_le_mul_right _ e0
  have g0:=run_append_room (P:=P) w t ty e i ht hi g n cap cur n0 a m c news (by rw[a0];exact hl) c0 h1 e0 k0;rw[g0]at hr;injection hr with hv _
  left;rw[<-hv];rfl
 have h63':((n+m:Nat):Int)<=9223372036854775807:=by unfold maxLen at j0;omega
 have g0:=run_append_grow (P:=P) w t ty e i z ht hi hz ⟨g,0,none⟩ n cap xs (by rw[a0];exact d0.1) (d0.cells rfl) a m c news (by rw[a0];exact hl) c0 (by omega) h63' (growslice_fits (by omega) (by rw[i0];exact b0));rw[g0]at hr;injection hr with hv _
 right;rw[<-hv];rfl
def Zk{ops:Array Oper}{rest:List Oper}{o:Oper}{a:Act}{Q:Exit->Act->World->Prop}(f0:o.guard=none)(s x:Operand)(t:TypeId)
  (ho:o.op=.call {callee:=.builtin .append,args:=#[s,x],argTypes:=#[t,t]})
  (base:Nat) (e:TypeId) (i:TypeInfo) (z:Value) (size bytes:Nat) (ht:P.underlying t=some (.slice e)) (hi:P.info? e=some i) (hz:i.zero=some z)
  (b0:i.size=size) (g0:i.bytes=bytes) (h0:z.cells.size=size) (hsz:0<size)
  (v:Value) (n:Nat) (xs:List Value) (hs:a.eval s=v) (e0:w.ownsRow base e size v n xs)
  (ad:Addr) (m c:Nat) (news:List Value) (hx:a.eval x=.slice (some ad) m c) (hl:news.length=m*size) (hm:0<m) (c0:∀j u,news[j]?=some u->w.cell? (ad.add j)=some u) (h1:∀u∈news,u.oneCell'=true)
  (i0:n+m<=maxLen) (a0:(n+m)*bytes<=140737488355328) (d0:base<=w.heap.size)
  (h:∀v' w',w'.ownsRow base e size v' (n+m) (xs++news)->w.grownBy w' v.ownBlock->(v'.ownBlock=v.ownBlock\/v'.ownBlock=some w.heap.size)->wpList P ops Q rest (a.put o.dst v') w'):wpList P ops Q (o::rest) a w:=
 wpList_plain f0 λ_ hK=>by
  obtain⟨v',w',hr,h2,h3,h4⟩:=zq2 (P:=P) w base t o.type e i z size bytes ht hi hz b0 g0 h0 hsz v n xs e0 ad m c news hl c0 h1 i0 a0 d0 hm;have j0:=hK _ _ (h v' w' h2 h3 h4);unfold Oper.wp execOp;simp only[ho,resolve,invoke,builtin,Sem.run_bind,Sem.run_pure,Result.andThen_ok,List.map_toArray,List.map_cons,List.map_nil,hs,hx,hr];exact j0
end
def Zi(n:Fl.Node)(lv:Value):List Value:=[.int .i64 n.kind,.int .i64 n.level,.int .i64 n.a,.int .i64 n.b,.int .i64 n.c,lv]
def Xr:List Fl.Node->List Value->List Value
 |n::ns,lv::lvs=>Zi n lv++Xr ns lvs
 |_,_=>[]
def ysw:∀(ns:List Fl.Node) (lvs:List Value),lvs.length=ns.length->(Xr ns lvs).length=ns.length*6
 |[],[],_=>rfl
 |n::ns,lv::lvs,h=>by
  have:=ysw ns lvs (by simpa using h);simp only[Xr,Zi,List.length_append,List.length_cons,List.length_nil,this];omega
def zx8:∀(ns:List Fl.Node) (lvs:List Value) (n:Fl.Node) (lv:Value),lvs.length=ns.length->Xr (ns++[n]) (lvs++[lv])=Xr ns lvs++Zi n lv
 |[],[],n,lv,_=>by simp[Xr]
 |m::ns,l::lvs,n,lv,h=>by
  simp only[List.cons_append,Xr,zx8 ns lvs n lv (by simpa using h),List.append_assoc]
def za3:∀(ns:List Fl.Node) (lvs:List Value) (i j:Nat),lvs.length=ns.length->i<ns.length->j<6->(Xr ns lvs)[i*6+j]?=(Zi (Fl.nth ns i) (lvs.getD i (.slice none 0 0)))[j]?
 |n::ns,lv::lvs,0,j,_,_,hj=>by
  simp only[Xr,Nat.zero_mul,Nat.zero_add];rw[List.getElem?_append_left (by simp[Zi];omega)];rfl
 |n::ns,lv::lvs,i+1,j,h,hi,hj=>by
  have:=za3 ns lvs i j (by simpa using h) (by simpa using hi) hj;simp only[Xr];rw[List.getElem?_append_right (by simp[Zi];omega)];rw[show (i+1)*6+j - (Zi n lv).length=i*6+j from by simp[Zi];omega,this];rfl
def Vr{base:Nat}{w:World}{e:TypeId}{v:Value}{ns:List Fl.Node}{lvs:List Value}(h:w.ownsRow base e 6 v ns.length (Xr ns lvs))(hl:lvs.length=ns.length)(hi:∀i,i<ns.length->Zy w.heap.size w (lvs.getD i (.slice none 0 0)) (Fl.nth ns i).list):Zo w.heap.size w v ns:=by
 rcases h.2 with⟨rfl,h0⟩|⟨g,cap,cur,rfl,hb,hg,a0,b0,c0,ht⟩
 ·have:ns=[]:=Qi h0
  subst this;exact Zo.nil _ _
 refine⟨_,cap,rfl,a0,by omega,λ_=>⟨g,0,rfl,(Array.getElem?_eq_some_iff.1 hg).1,λi hil=>⟨lvs.getD i (.slice none 0 0),hi i hil,?_⟩⟩⟩
 have q:∀j u,j<6->(Zi (Fl.nth ns i) (lvs.getD i (.slice none 0 0)))[j]?=some u->w.cell? ⟨g,i*6+j,none⟩=some u:=λj u hj hu=>by
  have h1:=h.cells (g:=g) rfl (i*6+j) u (by rw[za3 ns lvs i j hl hil hj];exact hu)
  have h2:(⟨g,0,none⟩:Addr).add (i*6+j)=⟨g,i*6+j,none⟩:=by unfold Addr.add;split<;>simp_all
  rw[h2]at h1;exact h1
 simp only[Nat.zero_add];exact⟨q 0 _ (by omega) rfl,q 1 _ (by omega) rfl,q 2 _ (by omega) rfl,q 3 _ (by omega) rfl,q 4 _ (by omega) rfl,q 5 _ (by omega) rfl⟩
def zm5{w w':World}{lv:Value}{xs:List Int}{row:Option Nat}(h:Zy w.heap.size w lv xs)(c0:xs≠[]->lv.ownBlock≠row)(hg:w.grownBy w' row):Zy w'.heap.size w' lv xs:=by
 obtain⟨ao,cap,rfl,hc,hl,hx⟩:=h;refine⟨ao,cap,rfl,hc,hl,λb0=>?_⟩;obtain⟨b,off,rfl,hb,a0⟩:=hx b0;refine⟨b,off,rfl,Nat.lt_of_lt_of_le hb hg.size,λi hi=>?_⟩;exact hg.cell (a0 i hi) (by simpa [Value.ownBlock] using c0 b0)
def Jq{w w':World}{lv:Value}{xs:List Int}(h:Zy w.heap.size w lv xs)(hb:Below w.heap.size w w'):Zy w'.heap.size w' lv xs:=(h.below hb).mono hb.size
def yz4{w:World}{lv:Value}{xs:List Int}(h:Zy w.heap.size w lv xs)(o:Obj):Zy (w.alloc o).heap.size (w.alloc o) lv xs:=Jq h (bA)
def zy8{w:World}{lv:Value}{xs:List Int}(h:Zy w.heap.size w lv xs)(a0:xs≠[]):∃b,lv.ownBlock=some b/\b<w.heap.size:=by
 obtain⟨ao,cap,rfl,hc,hl,hx⟩:=h;obtain⟨b,off,rfl,hb,_⟩:=hx a0;exact⟨b,rfl,hb⟩
def Xe{w:World}{lv:Value}{xs:List Int}{a:Addr}{u:Value}(h:Zy w.heap.size w lv xs)(c0:xs≠[]->lv.ownBlock≠some a.block):Zy (w.setCell a u).heap.size (w.setCell a u) lv xs:=by
 have hs:(w.setCell a u).heap.size=w.heap.size:=by simp[World.setCell]
 obtain⟨ao,cap,rfl,hc,hl,hx⟩:=h;refine⟨ao,cap,rfl,hc,hl,λb0=>?_⟩;obtain⟨b,off,rfl,hb,a0⟩:=hx b0;refine⟨b,off,rfl,by omega,λi hi=>?_⟩;rw[Qc (w:=w) (Below.heap_setCell w a u b (by have:=c0 b0;simpa [Value.ownBlock] using this))];exact a0 i hi
def zvz{w:World}{base base':Nat}{e e':TypeId}{size size':Nat}{v v':Value}{n n':Nat}{xs xs':List Value}(h:w.ownsRow base e size v n xs)(h':w.ownsRow base' e' size' v' n' xs')(a0:e≠e'):v.ownBlock=none\/v.ownBlock≠v'.ownBlock:=by
 rcases h.2 with⟨rfl,_⟩|⟨g,cap,cur,rfl,hb,hg,_⟩
 ·left;rfl
 right
 rcases h'.2 with⟨rfl,_⟩|⟨g',cap',cur',rfl,hb',hg',_⟩
 ·simp[Value.ownBlock]
 intro hh;simp only[Value.ownBlock,Option.some.injEq]at hh;rw[hh]at hg;rw[hg]at hg';simp only[Option.some.injEq,Obj.cells.injEq]at hg';exact a0 hg'.2.1
def Xj(w:World)(lv:Value)(xs:List Int)(sv nv:Value):Prop:=Zy w.heap.size w lv xs/\(xs≠[]->lv.ownBlock≠sv.ownBlock/\lv.ownBlock≠nv.ownBlock)
def Xj.first{w w':World}{lv sv nv sv':Value}{xs:List Int}(h:Xj w lv xs sv nv)(hg:w.grownBy w' sv.ownBlock)(hw:sv'.ownBlock=sv.ownBlock\/sv'.ownBlock=some w.heap.size):Xj w' lv xs sv' nv:=by
 refine⟨zm5 h.1 (λhx=>(h.2 hx).1) hg,λhx=>⟨?_,(h.2 hx).2⟩⟩;rcases hw with hw|hw
 ·rw[hw];exact(h.2 hx).1
 obtain⟨b,hb,a0⟩:=zy8 h.1 hx;rw[hw,hb];intro hh;simp at hh;omega
def Xj.second{w w':World}{lv sv nv nv':Value}{xs:List Int}(h:Xj w lv xs sv nv)(hg:w.grownBy w' nv.ownBlock)(hw:nv'.ownBlock=nv.ownBlock\/nv'.ownBlock=some w.heap.size):Xj w' lv xs sv nv':=by
 refine⟨zm5 h.1 (λhx=>(h.2 hx).2) hg,λhx=>⟨(h.2 hx).1,?_⟩⟩;rcases hw with hw|hw
 ·rw[hw];exact(h.2 hx).2
 obtain⟨b,hb,a0⟩:=zy8 h.1 hx;rw[hw,hb];intro hh;simp at hh;omega
def Xj.alloc{w:World}{lv sv nv:Value}{xs:List Int}(h:Xj w lv xs sv nv)(o:Obj):Xj (w.alloc o) lv xs sv nv:=⟨yz4 h.1 o,h.2⟩
def Xj.below{w w':World}{lv sv nv:Value}{xs:List Int}(h:Xj w lv xs sv nv)(hb:Below w.heap.size w w'):Xj w' lv xs sv nv:=⟨Jq h.1 hb,h.2⟩
def Xj.new{w w':World}{lv sv nv:Value}{xs:List Int}(h:Zy w'.heap.size w' lv xs)(hf:∀b,lv.ownBlock=some b->w.heap.size<=b)(hs:∀b,sv.ownBlock=some b->b<w.heap.size)(hn:∀b,nv.ownBlock=some b->b<w.heap.size):Xj w' lv xs sv nv:=by
 refine⟨h,λhx=>?_⟩;obtain⟨b,hb,a0⟩:=zy8 h hx;have:=hf b hb;refine⟨λhh=>?_,λhh=>?_⟩
 ·have:=hs b (hh.symm.trans hb);omega
 have:=hn b (hh.symm.trans hb);omega
def Xj.set{w:World}{lv sv nv:Value}{xs:List Int}{a:Addr}{u:Value}(h:Xj w lv xs sv nv)(a0:xs≠[]->lv.ownBlock≠some a.block):Xj (w.setCell a u) lv xs sv nv:=⟨Xe h.1 a0,h.2⟩
structure Fam(w wr:World)(lv cv:Value)(fam:List (Value×List Int))(sv nv:Value)(n1 n2:Nat)(xs ys:List Value):Prop where
 hs:wr.ownsRow (w.heap.size+2) 3 1 sv n1 xs
 hn:wr.ownsRow (w.heap.size+2) 121 6 nv n2 ys
 hall:∀p,p∈fam->Xj wr p.1 p.2 sv nv/\(p.2≠[]->∀b,p.1.ownBlock=some b->w.heap.size+2<=b)
 c0:wr.cell? ⟨w.heap.size+1,0,none⟩=some lv
 c1:wr.cell? ⟨w.heap.size+1,1,none⟩=some cv
 d0:wr.cell? ⟨w.heap.size,0,none⟩=some (.slice none 0 0)
 d1:wr.cell? ⟨w.heap.size,1,none⟩=some (.slice none 0 0)
 f0:∀j,wr.frozen? ⟨w.heap.size,j,none⟩=false
 f1:∀j,wr.frozen? ⟨w.heap.size+1,j,none⟩=false
 hb:Below w.heap.size w wr
 hz:w.heap.size+2<=wr.heap.size
section
variable{w wr w':World}{lv cv:Value}{fam:List (Value×List Int)}{sv nv:Value}{n1 n2:Nat}{xs ys:List Value}
def Fam.below(h:Fam w wr lv cv fam sv nv n1 n2 xs ys)(hb:Below wr.heap.size wr w'):Fam w w' lv cv fam sv nv n1 n2 xs ys:=by
 have q:∀b o,b<wr.heap.size->w'.cell? ⟨b,o,none⟩=wr.cell? ⟨b,o,none⟩:=λb o a0=>hb.cell (p:=⟨b,o,none⟩) a0;have f:∀b o,b<wr.heap.size->w'.frozen? ⟨b,o,none⟩=wr.frozen? ⟨b,o,none⟩:=λb o a0=>hb.frozen (p:=⟨b,o,none⟩) a0;have hz:=h.hz;have hsz:=hb.size;have og:wr.grownBy w' none:=⟨hb.os,hb.tape,hb.output,hb.size,λk hk _=>hb.block k hk⟩;exact⟨h.hs.kept og (by cases sv.ownBlock<;>simp),h.hn.kept og (by cases nv.ownBlock<;>simp),λp hp=>⟨(h.hall p hp).1.below hb,(h.hall p hp).2⟩,(q _ _ (by omega)).trans h.c0,(q _ _ (by omega)).trans h.c1,(q _ _ (by omega)).trans h.d0,(q _ _ (by omega)).trans h.d1,λj=>(f _ _ (by omega)).trans (h.f0 j),λj=>(f _ _ (by omega)).trans (h.f1 j),h.hb.trans (hb.mono (by omega)),by omega⟩
def Fam.alloc(h:Fam w wr lv cv fam sv nv n1 n2 xs ys)(o:Obj):Fam w (wr.alloc o) lv cv fam sv nv n1 n2 xs ys:=h.below (bA)
def Fam.drew(h:Fam w wr lv cv fam sv nv n1 n2 xs ys):Fam w wr.drew lv cv fam sv nv n1 n2 xs ys:=h.below ((Below.refl _ _).drew)
def Fam.add(h:Fam w wr lv cv fam sv nv n1 n2 xs ys){lvn:Value}{l:List Int}{N:Nat}(hi:Zy wr.heap.size wr lvn l)(hf:∀b,lvn.ownBlock=some b->N<=b)(a0:∀b,sv.ownBlock=some b->b<N)(b0:∀b,nv.ownBlock=some b->b<N)(hN:w.heap.size+2<=N):Fam w wr lv cv (fam++[(lvn,l)]) sv nv n1 n2 xs ys:=by
 refine⟨h.hs,h.hn,λp hp=>?_,h.c0,h.c1,h.d0,h.d1,h.f0,h.f1,h.hb,h.hz⟩;simp only[List.mem_append,List.mem_singleton]at hp;rcases hp with hp|rfl
 ·exact h.hall p hp
 refine⟨⟨hi,λhx=>?_⟩,λ_ b hb=>by have:=hf b hb;omega⟩;obtain⟨b,hb,e0⟩:=zy8 hi hx;have:=hf b hb;exact⟨λhh=>by have:=a0 b (hh.symm.trans hb);omega,λhh=>by have:=b0 b (hh.symm.trans hb);omega⟩
def Fam.oldne(h:Fam w wr lv cv fam sv nv n1 n2 xs ys):(∀b,b<w.heap.size+2->some b≠sv.ownBlock)/\(∀b,b<w.heap.size+2->some b≠nv.ownBlock):=
 ⟨λb hb hh=>by have:=(h.hs.lt b hh.symm).1;omega,λb hb hh=>by have:=(h.hn.lt b hh.symm).1;omega⟩
def Fam.first(h:Fam w wr lv cv fam sv nv n1 n2 xs ys){sv':Value}{n1':Nat}{xs':List Value}(ho:w'.ownsRow (w.heap.size+2) 3 1 sv' n1' xs')(hg:wr.grownBy w' sv.ownBlock)(hw:sv'.ownBlock=sv.ownBlock\/sv'.ownBlock=some wr.heap.size):Fam w w' lv cv fam sv' nv n1' n2 xs' ys:=by
 have hz:=h.hz;have a0:=h.oldne.1;have f:∀b j,b<w.heap.size+2->w'.frozen? ⟨b,j,none⟩=wr.frozen? ⟨b,j,none⟩:=λb j b0=>Qd (w:=wr) (hg.block b (by omega) (a0 b b0));refine⟨ho,h.hn.kept hg ?_,λp hp=>⟨(h.hall p hp).1.first hg hw,(h.hall p hp).2⟩,hg.cell h.c0 (a0 _ (by simp)),hg.cell h.c1 (a0 _ (by simp)),hg.cell h.d0 (a0 _ (by simp)),hg.cell h.d1 (a0 _ (by simp)),λj=>(f _ _ (by omega)).trans (h.f0 j),λj=>(f _ _ (by omega)).trans (h.f1 j),h.hb.grown hg (by omega) (λg hgg=>by have:=(h.hs.lt g hgg).1;omega),by have:=hg.size;omega⟩;exact zvz h.hn h.hs (by decide)
def Fam.second(h:Fam w wr lv cv fam sv nv n1 n2 xs ys){nv':Value}{n2':Nat}{ys':List Value}(ho:w'.ownsRow (w.heap.size+2) 121 6 nv' n2' ys')(hg:wr.grownBy w' nv.ownBlock)(hw:nv'.ownBlock=nv.ownBlock\/nv'.ownBlock=some wr.heap.size):Fam w w' lv cv fam sv nv' n1 n2' xs ys':=by
 have hz:=h.hz;have a0:=h.oldne.2;have f:∀b j,b<w.heap.size+2->w'.frozen? ⟨b,j,none⟩=wr.frozen? ⟨b,j,none⟩:=λb j b0=>Qd (w:=wr) (hg.block b (by omega) (a0 b b0));refine⟨h.hs.kept hg ?_,ho,λp hp=>⟨(h.hall p hp).1.second hg hw,(h.hall p hp).2⟩,hg.cell h.c0 (a0 _ (by simp)),hg.cell h.c1 (a0 _ (by simp)),hg.cell h.d0 (a0 _ (by simp)),hg.cell h.d1 (a0 _ (by simp)),λj=>(f _ _ (by omega)).trans (h.f0 j),λj=>(f _ _ (by omega)).trans (h.f1 j),h.hb.grown hg (by omega) (λg hgg=>by have:=(h.hn.lt g hgg).1;omega),by have:=hg.size;omega⟩;exact zvz h.hs h.hn (by decide)
def Fam.store(h:Fam w wr lv cv fam sv nv n1 n2 xs ys)(u:Value):Fam w (wr.setCell ⟨w.heap.size+1,1,none⟩ u) lv u fam sv nv n1 n2 xs ys:=by
 have hz:=h.hz
 have hs:(wr.setCell ⟨w.heap.size+1,1,none⟩ u).heap.size=wr.heap.size:=by simp[World.setCell]
 have q:∀j,(wr.setCell ⟨w.heap.size+1,1,none⟩ u).cell? ⟨w.heap.size,j,none⟩=wr.cell? ⟨w.heap.size,j,none⟩:=λj=>by apply Qg;intro hh;injection hh with h2;omega
 refine⟨ownsRow_setCell_below h.hs (by simp) u,ownsRow_setCell_below h.hn (by simp) u,λp hp=>⟨(h.hall p hp).1.set (λhx=>?_),(h.hall p hp).2⟩,?_,World.cell?_setCell_same' _ _ _ (by simp[h.c1]),(q 0).trans h.d0,(q 1).trans h.d1,λj=>by rw[World.frozen?_setCell];exact h.f0 j,λj=>by rw[World.frozen?_setCell];exact h.f1 j,h.hb.setCell (by simp) u,by omega⟩
 ·intro hh
  have h3:w.heap.size+2<=w.heap.size+1:=(h.hall p hp).2 hx _ hh;omega
 have h4:(wr.setCell ⟨w.heap.size+1,1,none⟩ u).cell? ⟨w.heap.size+1,0,none⟩=wr.cell? ⟨w.heap.size+1,0,none⟩:=by
  apply Qg;intro hh;injection hh with _ h2;exact absurd h2 (by decide)
 rw[h4];exact h.c0
end
def Ym:List Fl.Node->List Value->List (Value×List Int)
 |n::ns,lv::lvs=>(lv,n.list)::Ym ns lvs
 |_,_=>[]
def Uo:∀(ns:List Fl.Node) (lvs:List Value) (n:Fl.Node) (lv:Value),lvs.length=ns.length->Ym (ns++[n]) (lvs++[lv])=Ym ns lvs++[(lv,n.list)]
 |[],[],n,lv,_=>rfl
 |m::ns,l::lvs,n,lv,h=>by simp only[List.cons_append,Ym,Uo ns lvs n lv (by simpa using h)]
def Vk:∀(ns:List Fl.Node) (lvs:List Value) (i:Nat),lvs.length=ns.length->i<ns.length->(lvs.getD i (.slice none 0 0),(Fl.nth ns i).list)∈Ym ns lvs
 |n::ns,lv::lvs,0,_,_=>by simp[Ym,Fl.nth]
 |n::ns,lv::lvs,i+1,h,hi=>by
  have:=Vk ns lvs i (by simpa using h) (by simpa using hi);simp only[Ym,List.mem_cons];right;exact this
structure zy1(s:List UInt8)(M q0:Nat)(w:World)(lv:Value)(ls:List Int)(wr:World)(k q:Nat)(sv nv:Value)(st:List Int)(acc:List Fl.Node)(lvs:List Value):Prop where
 hk:k<=M
 hq:q<=s.length
 hst:st.length=k
 hacc:acc.length=k
 hlvs:lvs.length=k
 hrun:Fl.nodesA s M 0 q0 [] []=Fl.nodesA s (M - k) k q st acc
 hf:Fam w wr lv nv ((lv,ls)::Ym acc lvs) sv nv k k (st.map (Value.int .i64)) (Xr acc lvs)
def zy1.nodes{s:List UInt8}{M q0:Nat}{w wr:World}{lv:Value}{ls:List Int}{k q:Nat}{sv nv:Value}{st:List Int}{acc:List Fl.Node}{lvs:List Value}(h:zy1 s M q0 w lv ls wr k q sv nv st acc lvs):Zo wr.heap.size wr nv acc:=
 Vr (by rw[h.hacc];exact h.hf.hn) (by rw[h.hacc,h.hlvs]) (λi hi=>(h.hf.hall _ (by simp only[List.mem_cons];right;exact Vk acc lvs i (by rw[h.hacc,h.hlvs]) hi)).1.1)
def zy1.locals{s:List UInt8}{M q0:Nat}{w wr:World}{lv:Value}{ls:List Int}{k q:Nat}{sv nv:Value}{st:List Int}{acc:List Fl.Node}{lvs:List Value}(h:zy1 s M q0 w lv ls wr k q sv nv st acc lvs):Zy wr.heap.size wr lv ls:=(h.hf.hall (lv,ls) (by simp)).1.1
def Fam.res{w wr:World}{lv cv:Value}{fam:List (Value×List Int)}{sv nv:Value}{n1 n2:Nat}{xs ys:List Value}(h:Fam w wr lv cv fam sv nv n1 n2 xs ys)(u u':Value):
  ((wr.setCell ⟨w.heap.size,0,none⟩ u).setCell ⟨w.heap.size,1,none⟩ u').ownsRow (w.heap.size+2) 121 6 nv n2 ys/\
  ∀p,p∈fam->Zy ((wr.setCell ⟨w.heap.size,0,none⟩ u).setCell ⟨w.heap.size,1,none⟩ u').heap.size ((wr.setCell ⟨w.heap.size,0,none⟩ u).setCell ⟨w.heap.size,1,none⟩ u') p.1 p.2:=by
 refine⟨ownsRow_setCell_below (ownsRow_setCell_below h.hn (by simp) u) (by simp) u',λp hp=>?_⟩
 have a0:p.2≠[]->p.1.ownBlock≠some w.heap.size:=λhx hh=>by
  have h3:w.heap.size+2<=w.heap.size:=(h.hall p hp).2 hx _ hh;omega
 exact Xe (Xe (h.hall p hp).1.1 a0) a0
def zy1.ends{s:List UInt8}{M q0:Nat}{w wr w':World}{lv:Value}{ls:List Int}{k q:Nat}{sv nv:Value}{st:List Int}{acc:List Fl.Node}{lvs:List Value}(h:zy1 s M q0 w lv ls wr k q sv nv st acc lvs)(hb:Below wr.heap.size wr w')(u u':Value):
  Zy ((w'.setCell ⟨w.heap.size,0,none⟩ u).setCell ⟨w.heap.size,1,none⟩ u').heap.size ((w'.setCell ⟨w.heap.size,0,none⟩ u).setCell ⟨w.heap.size,1,none⟩ u') lv ls/\
  Zo ((w'.setCell ⟨w.heap.size,0,none⟩ u).setCell ⟨w.heap.size,1,none⟩ u').heap.size ((w'.setCell ⟨w.heap.size,0,none⟩ u).setCell ⟨w.heap.size,1,none⟩ u') nv acc:=by
 have hr:=(h.hf.below hb).res u u';exact⟨hr.2 (lv,ls) (by simp),Vr (by rw[h.hacc];exact hr.1) (by rw[h.hacc,h.hlvs]) (λi hi=>hr.2 _ (by simp only[List.mem_cons];right;exact Vk acc lvs i (by rw[h.hacc,h.hlvs]) hi))⟩
def Xq{w:World}{base:Nat}{e:TypeId}{size:Nat}{v:Value}{n:Nat}{xs:List Value}(h:w.ownsRow base e size v n xs):∃ao cap,v=.slice ao n cap:=by
 rcases h.2 with⟨rfl,rfl⟩|⟨g,cap,cur,rfl,_⟩
 ·exact⟨_,_,rfl⟩
 exact⟨_,_,rfl⟩
def za4{w:World}{e:TypeId}(vs:List Value):∀j u,vs[j]?=some u->(w.alloc (.cells vs.toArray e)).cell? ((⟨w.heap.size,0,none⟩:Addr).add j)=some u:=by
 intro j u hj
 have h2:(⟨w.heap.size,0,none⟩:Addr).add j=⟨w.heap.size,j,none⟩:=by unfold Addr.add;split<;>simp_all
 rw[h2,World.cell?_alloc_new];simpa using hj
def zy1.step{s:List UInt8}{M q0:Nat}{w wr w':World}{lv:Value}{ls:List Int}{k q:Nat}{sv nv sv' nv':Value}{st:List Int}{acc:List Fl.Node}{lvs:List Value}{nd:Fl.Node}{af fb:Int}{lvn:Value}(h:zy1 s M q0 w lv ls wr k q sv nv st acc lvs)(b0:k<M)(ho:Fl.one s q k=(nd,af,fb))(c0:0<=af)(a0:af<=s.length)
  (hf:Fam w w' lv nv' (((lv,ls)::Ym acc lvs)++[(lvn,nd.list)]) sv' nv' (k+1) (k+1) (st.map (Value.int .i64)++[.int .i64 (q:Int)]) (Xr acc lvs++Zi nd lvn)):
  zy1 s M q0 w lv ls w' (k+1) af.toNat sv' nv' (st++[(q:Int)]) (acc++[nd]) (lvs++[lvn]):=by
 refine⟨by omega,by omega,by simp[h.hst],by simp[h.hacc],by simp[h.hlvs],?_,?_⟩
 ·rw[h.hrun,show M - k=(M - (k+1))+1 from by omega];simp only[Fl.nodesA,ho];rw[if_neg (by omega)]
 have hlen:lvs.length=acc.length:=by rw[h.hacc,h.hlvs]
 rw[Uo _ _ _ _ hlen,zx8 _ _ _ _ hlen,List.map_append];exact hf
def Zq(e p:Int):List PanicEntry:=[{v:=.iface 171 (.agg #[.int .i64 e,.int .i64 p]),recovered:=false}]
structure Mv(w w':World)(b:Nat):Prop where
 g:w.grownBy w' (some b)
 o:∀j,j≠1->w'.cell? ⟨b,j,none⟩=w.cell? ⟨b,j,none⟩
 f:∀j,w'.frozen? ⟨b,j,none⟩=w.frozen? ⟨b,j,none⟩
def Mv.refl(w:World)(b:Nat):Mv w w b:=⟨World.grownBy.refl _ _,λ_ _=>rfl,λ_=>rfl⟩
def Mv.trans{w w1 w2:World}{b:Nat}(h:Mv w w1 b)(k:Mv w1 w2 b):Mv w w2 b:=
 ⟨⟨k.g.os.trans h.g.os,k.g.tape.trans h.g.tape,k.g.output.trans h.g.output,Nat.le_trans h.g.size k.g.size,λi hi a0=>(k.g.block i (Nat.lt_of_lt_of_le hi h.g.size) a0).trans (h.g.block i hi a0)⟩,λj hj=>(k.o j hj).trans (h.o j hj),λj=>(k.f j).trans (h.f j)⟩
def Mv.lt{w w':World}{b:Nat}(h:Mv w w' b)(hb:b<w.heap.size):b<w'.heap.size:=Nat.lt_of_lt_of_le hb h.g.size
def Mv.set(w:World)(b:Nat)(u:Value):Mv w (w.setCell ⟨b,1,none⟩ u) b:=by
 refine⟨⟨rfl,rfl,rfl,by simp[World.setCell],λk hk a0=>Below.heap_setCell _ _ _ _ (by intro h;exact a0 (by rw[h]))⟩,λj hj=>?_,λj=>World.frozen?_setCell _ _ _ _⟩;apply Qg;intro hh;injection hh with _ h2;exact hj h2.symm
def Mv.of_below{w w':World}{b:Nat}(h:Below w.heap.size w w')(hb:b<w.heap.size):Mv w w' b:=
 ⟨⟨h.os,h.tape,h.output,h.size,λk hk _=>h.block k hk⟩,λj _=>h.cell (p:=⟨b,j,none⟩) hb,λj=>h.frozen (p:=⟨b,j,none⟩) hb⟩
def Mv.grown{w w':World}{b:Nat}{row:Option Nat}(h:w.grownBy w' row)(hr:some b≠row)(hb:b<w.heap.size)(hall:∀k,row=some k->w.heap.size<=k):Mv w w' b:=
 ⟨⟨h.os,h.tape,h.output,h.size,λk hk _=>h.block k hk (λe=>by have:=hall k e.symm;omega)⟩,λj _=>Qc (w:=w) (h.block b hb hr),λj=>Qd (w:=w) (h.block b hb hr)⟩
def Mv.below{w w':World}{b B:Nat}(h:Mv w w' b)(hB:B<=b)(hb:b<w.heap.size):Below B w w':=
 ⟨h.g.os,h.g.tape,h.g.output,h.g.size,λk hk=>h.g.block k (by omega) (by simp;omega)⟩
def Mv.andGrown{w w1 w2:World}{b:Nat}{row:Option Nat}(h:Mv w w1 b)(g:w1.grownBy w2 row)(hb:b<w.heap.size)(hall:∀k,row=some k->w.heap.size<=k):Mv w w2 b:=by
 have a0:∀k,k<w.heap.size->some k≠row:=λk hk e=>by have:=hall k e.symm;omega
 have hz:=h.g.size;refine⟨⟨g.os.trans h.g.os,g.tape.trans h.g.tape,g.output.trans h.g.output,Nat.le_trans h.g.size g.size,λk hk b0=>(g.block k (by omega) (a0 k hk)).trans (h.g.block k hk b0)⟩,λj hj=>?_,λj=>?_⟩
 ·exact(Qc (w:=w1) (a:=⟨b,j,none⟩) (g.block b (by omega) (a0 b hb))).trans (h.o j hj)
 exact(Qd (w:=w1) (a:=⟨b,j,none⟩) (g.block b (by omega) (a0 b hb))).trans (h.f j)
def Mv.alloc{w w1:World}{b:Nat}(h:Mv w w1 b)(hb:b<w.heap.size)(o:Obj):Mv w (w1.alloc o) b:=h.andGrown (World.grownBy_alloc w1 o none) hb (λk e=>by cases e)
def Mv.andBelow{w w1 w2:World}{b:Nat}(h:Mv w w1 b)(k:Below w1.heap.size w1 w2)(hb:b<w.heap.size):Mv w w2 b:=h.trans (Mv.of_below k (h.lt hb))
def Mv.drew{w w':World}{b:Nat}(h:Mv w w' b):Mv w w'.drew b:=h.trans ⟨⟨rfl,rfl,rfl,Nat.le_refl _,λ_ _ _=>rfl⟩,λ_ _=>rfl,λ_=>rfl⟩
def Mv.drewN{w w':World}{b:Nat}(h:Mv w w' b)(n:Nat):Mv w (w'.drewN n) b:=h.trans ⟨⟨rfl,rfl,rfl,Nat.le_refl _,λ_ _ _=>rfl⟩,λ_ _=>rfl,λ_=>rfl⟩
structure Dr(w:World)(b:Nat)(ao:Option Addr)(cap:Nat)(s:List UInt8)(p:Nat):Prop where
 c0:w.cell? ⟨b,0,none⟩=some (.slice ao s.length cap)
 c1:w.cell? ⟨b,1,none⟩=some (.int .i64 p)
 f1:w.frozen? ⟨b,1,none⟩=false
 hb:s≠[]->∃bb bo,ao=some ⟨bb,bo,none⟩/\bb≠b/\∀i,i<s.length->w.cell? ⟨bb,bo+i,none⟩=some (.int .u8 (s.getD i 0).toNat)
 hp:p<=s.length
 hs:s.length<=1099511627776
def Dr.lt{w:World}{b:Nat}{ao:Option Addr}{cap:Nat}{s:List UInt8}{p:Nat}(h:Dr w b ao cap s p):b<w.heap.size:=Qe w _ h.c0
def Dr.move{w w':World}{b:Nat}{ao:Option Addr}{cap:Nat}{s:List UInt8}{p q:Nat}(h:Dr w b ao cap s p)(m:Mv w w' b)(c:w'.cell? ⟨b,1,none⟩=some (.int .i64 q))(hq:q<=s.length):Dr w' b ao cap s q:=by
 refine⟨(m.o 0 (by decide)).trans h.c0,c,(m.f 1).trans h.f1,λb0=>?_,hq,h.hs⟩;obtain⟨bb,bo,ha,a0,hc⟩:=h.hb b0;exact⟨bb,bo,ha,a0,λi hi=>m.g.cell (hc i hi) (by simpa using a0)⟩
def Dr.set{w:World}{b:Nat}{ao:Option Addr}{cap:Nat}{s:List UInt8}{p q:Nat}(h:Dr w b ao cap s p)(hq:q<=s.length):Dr (w.setCell ⟨b,1,none⟩ (.int .i64 q)) b ao cap s q:=
 h.move (Mv.set _ _ _) (World.cell?_setCell_same' _ _ _ (by simp[h.c1])) hq
def Dr.at{w:World}{b:Nat}{ao:Option Addr}{cap:Nat}{s:List UInt8}{p:Nat}(h:Dr w b ao cap s p)(a0:p<s.length):∃bb bo,ao=some ⟨bb,bo,none⟩/\bb≠b/\w.cell? ⟨bb,bo+p,none⟩=some (.int .u8 (s.getD p 0).toNat):=by
 obtain⟨bb,bo,ha,b0,hc⟩:=h.hb (by intro hh;rw[hh]at a0;simp at a0);exact⟨bb,bo,ha,b0,hc p a0⟩
namespace Fl
def numB(s:List UInt8)(p:Nat)(lo hi:Int):Int×Int×Int:=
 if(num s p).2.1<0 then(0,-1,(num s p).2.2) else if(num s p).1<lo\/hi<(num s p).1 then(0,-1,(p:Int)) else((num s p).1,(num s p).2.1,0)
end Fl
section
variable{P:Program}{w:World}{ops:Array Oper}{rest:List Oper}{o:Oper}{a:Act}{Q:Exit->Act->World->Prop}
def Jy(a0:o.guard=none)(t:TypeId)(parts:Array (Nat×Operand))(ho:o.op=.build t parts)(arr:Array Value)
  (hrun:(Instr.build t (parts.map λ(i,x)=>(i,a.eval x))).run P w=.ok (.agg arr) w) (h:wpList P ops Q rest (a.put o.dst (.agg arr)) w):wpList P ops Q (o::rest) a w:=
 wpList_plain a0 λ_ hK=>by
  have b0:=hK _ _ h;unfold Oper.wp execOp;simp only[ho,Sem.run_bind,hrun,Result.andThen_ok,Sem.run_pure];exact b0
def zz2(a0:o.guard=none)(x y:Operand)(t:TypeId)(ho:o.op=.store t x y)(w:World)(c c':Array Value)(hx:a.eval x=.pointer (some ⟨w.heap.size,0,none⟩))(hy:a.eval y=.agg c')
  (hi:(P.info? t).map (·.size)=some c'.size) (hsz:c.size=c'.size) (h1:c'.all (·.oneCell')=true) (h:wpList P ops Q rest (a.put o.dst undef) (w.alloc (.cells c' t))):wpList P ops Q (o::rest) a (w.alloc (.cells c t)):=
 wpList_plain a0 λ_ hK=>by
  have b0:=hK _ _ h;unfold Oper.wp execOp;simp only[ho,Sem.run_bind,hx,hy,run_storeAt_new w t c c' hi hsz h1,Result.andThen_ok,Sem.run_pure];exact b0
def Uz(a0:o.guard=none)(x y:Operand)(t:TypeId)(ho:o.op=.store t x y)(w:World)(N:Nat)(c c':Array Value)(hx:a.eval x=.pointer (some ⟨N,0,none⟩))(hN:w.heap.size=N)(hy:a.eval y=.agg c')
  (hi:(P.info? t).map (·.size)=some c'.size) (hsz:c.size=c'.size) (h1:c'.all (·.oneCell')=true) (h:wpList P ops Q rest (a.put o.dst undef) (w.alloc (.cells c' t))):wpList P ops Q (o::rest) a (w.alloc (.cells c t)):=by
 subst hN;exact zz2 a0 x y t ho w c c' hx hy hi hsz h1 h
def zk8(x y:Operand)(t:TypeId)(ho:o.op=.store t x y)(w:World)(c c':Array Value)(hx:a.eval x=.pointer (some ⟨w.heap.size,0,none⟩))(hy:a.eval y=.agg c')
  (hi:(P.info? t).map (·.size)=some c'.size) (hsz:c.size=c'.size) (h1:c'.all (·.oneCell')=true):(execOp a.eval o).run P (w.alloc (.cells c t))=.ok .skip (w.alloc (.cells c' t)):=by
 unfold execOp;simp only[ho,Sem.run_bind,hx,hy,run_storeAt_new w t c c' hi hsz h1,Result.andThen_ok,Sem.run_pure]
def zm6(a0:o.guard=none)(x:Operand)(t:TypeId)(ho:o.op=.load t x)(g:Nat)(hx:a.eval x=.pointer (some ⟨g,0,none⟩))(arr:Array Value)(te:TypeId)(fr:Nat×Nat)(hg:w.heap[g]?=some (.cells arr te fr))
  (d:TypeDesc) (hu:P.underlying t=some d) (hd:(match d with| .struct _| .array _ _=>true|_=>false)=true) (hi:(P.info? t).map (·.size)=some arr.size) (h:wpList P ops Q rest (a.put o.dst (.agg arr)) w):wpList P ops Q (o::rest) a w:=
 wpList_plain a0 λ_ hK=>by
  have b0:=hK _ _ h;unfold Oper.wp execOp;simp only[ho,Sem.run_bind,hx,Instr.loadAt,Instr.sureAddr,Sem.run_pure,Result.andThen_ok,run_loadVar_row w g te t arr fr d hg hu hd hi];exact b0
def Vq(a0:o.guard=none)(x y:Operand)(t:TypeId)(ho:o.op=.store t x y)(g:Nat)(hx:a.eval x=.pointer (some ⟨g,0,none⟩))(c c':Array Value)(hy:a.eval y=.agg c')(te:TypeId)(hg:w.heap[g]?=some (.cells c te (0,0)))
  (hi:(P.info? t).map (·.size)=some c'.size) (hsz:c.size=c'.size) (h1:c'.all (·.oneCell')=true) (h:wpList P ops Q rest (a.put o.dst undef) (w.setRow g c')):wpList P ops Q (o::rest) a w:=
 wpList_plain a0 λ_ hK=>by
  have b0:=hK _ _ h;unfold Oper.wp execOp;simp only[ho,Sem.run_bind,hx,hy,Instr.storeAt,Instr.sureAddr,Sem.run_pure,Result.andThen_ok,run_storeVar_row w g te t c c' hg hi hsz h1];exact b0
def Yg{L:Act->Prop}(a0:o.guard=none)(v:Value)(hrun:(execOp a.eval o).run P w=.ok (.value v) w)(h:wpStill P ops w L rest (a.put o.dst v)):wpStill P ops w L (o::rest) a:=by
 unfold wpStill;simp only[Region.wanted,a0,if_true,Oper.still,hrun,Oper.stillUpon,true_and];exact h
def zz1(x:Operand)(t:TypeId)(ho:o.op=.load t x)(g:Nat)(hx:a.eval x=.pointer (some ⟨g,0,none⟩))(arr:Array Value)(te:TypeId)(fr:Nat×Nat)(hg:w.heap[g]?=some (.cells arr te fr))
  (d:TypeDesc) (hu:P.underlying t=some d) (hd:(match d with| .struct _| .array _ _=>true|_=>false)=true) (hi:(P.info? t).map (·.size)=some arr.size):(execOp a.eval o).run P w=.ok (.value (.agg arr)) w:=by
 unfold execOp;simp only[ho,Sem.run_bind,hx,Instr.loadAt,Instr.sureAddr,Sem.run_pure,Result.andThen_ok,run_loadVar_row w g te t arr fr d hg hu hd hi]
def Ve(m x:Operand)(t:TypeId)(ho:o.op=.lookup t m x true)(mv kv v:Value)(hm:a.eval m=mv)(hx:a.eval x=kv)(hrun:(Instr.lookup t mv kv true).run P w=.ok v w):(execOp a.eval o).run P w=.ok (.value v) w:=by
 unfold execOp;simp only[ho,Sem.run_bind,hm,hx,hrun,Result.andThen_ok,Sem.run_pure]
def zr8{P:Program}{fn:Func}{p:Tmp}{ty:TypeId}(h:fn.results=#[.cell p ty])(tmps:Array Value)(w:World)(ad:Addr)(v:Value)(ha:tmps.getD p undef=.pointer (some ad))(hl:(loadVar ty ad).run P w=.ok v w):
  (results fn tmps).run P w=.ok v w:=by
 have ha':tmps[p]?.getD undef=.pointer (some ad):=by rw[<-ha,Array.getD_eq_getD_getElem?]
 simp only[results,h];simp[Sem.run_bind,Result.andThen,ha',asAddr,hl]
end
def zvy(n p:Int)(w:World):Calls prog 59 #[.int .i64 n,.int .i64 p] w λe w'=>e=.panicked (Zq n p)/\Below w.heap.size w w':=by
 go_enter func59,ntmps59
 go_wp2;exact⟨rfl,rfl,Below.refl _ _⟩
def Ux(b:Nat)(p:Int)(w:World):Calls prog 80 #[.pointer (some ⟨b,0,none⟩),.bool true,.int .i64 p] w λe w'=>e=.returned (.tuple #[])/\w'=w:=by
 go_enter func80,ntmps80
 go_wp2
 go_end0
 exact⟨rfl,rfl⟩
def Xz(b:Nat)(p:Int)(w:World):Calls prog 80 #[.pointer (some ⟨b,0,none⟩),.bool false,.int .i64 p] w λe w'=>e=.panicked (Zq 8 p)/\Below w.heap.size w w':=by
 go_enter func80,ntmps80
 go_wp2_with (go_at_call 59;refine(zvy _ _ _).mono ?_;rintro e w' ⟨rfl,hb⟩)
 exact⟨rfl,rfl,hb⟩
def zk9{b:Nat}{ao:Option Addr}{cap:Nat}{s:List UInt8}{p:Nat}{w:World}(h:Dr w b ao cap s p)(a0:p<s.length):
  Calls prog 81 #[.pointer (some ⟨b,0,none⟩)] w λe w'=>e=.returned (.int .u8 (s.getD p 0).toNat)/\Mv w w' b/\w'.cell? ⟨b,1,none⟩=some (.int .i64 ((p+1:Nat):Int)):=by
 obtain⟨bb,bo,rfl,b0,hc⟩:=h.at a0;have c0:=h.c0;have c1:=h.c1;have f1:=h.f1;have hs:=h.hs;generalize (s.getD p 0).toNat=x at*;clear h
 go_enter func81,ntmps81
 go_wp2_with fail
 go_still_tail 16,(by kernel_rfl)
 go_wp2_with (go_at_call 80;refine(Ux _ _ _).mono ?_;rintro e w' ⟨rfl,rfl⟩)
 go_quiet (fail)
 go_wp2;go_ret;exact⟨rfl,(Mv.set _ _ _).drew.drewN _,by simp;exact World.cell?_setCell_same' _ _ _ (by simp[c1])⟩
def zoz{b:Nat}{ao:Option Addr}{cap:Nat}{s:List UInt8}{p:Nat}{w:World}(h:Dr w b ao cap s p)(a0:¬p<s.length):
  Calls prog 81 #[.pointer (some ⟨b,0,none⟩)] w λe w'=>e=.panicked (Zq 8 s.length)/\Mv w w' b:=by
 have hlb:=h.lt;have c0:=h.c0;have c1:=h.c1;have f1:=h.f1;have hs:=h.hs;clear h
 go_enter func81,ntmps81
 go_wp2_with fail
 go_still_tail 16,(by kernel_rfl)
 go_wp2_with (go_at_call 80;refine(Xz _ _ _).mono ?_;rintro e w' ⟨rfl,hb⟩;exact⟨rfl,rfl,Mv.of_below ((Below.refl _ _).drew.trans hb) hlb⟩)
def Yf{P:Program}{id:Nat}{Q:Exit->Act->World->Prop}{a:Act}{w:World}{l:List Oper}(n g d g' d':Nat)(hm:P.follows .mixedOrders=true)(hB:Region.lexTailB .any l.toArray n=true)(hg:((l.toArray[g]?).bind λx=>x.dst)=some d)(hg':((l.toArray[g']?).bind λx=>x.dst)=some d')
  (h:∀ops:Array Oper,((ops[g]?).bind λx=>x.dst)=some d->((ops[g']?).bind λx=>x.dst)=some d'->wpStill P ops {w with drawn:=w.drawn+1} (λa'=>wpList P ops Q (l.drop n) a' {w with drawn:=w.drawn+1}) (l.take n) a):(Code.region id l.toArray true).wp P Q a w:=
 wp_region_still_tail n hm hB (h _ hg hg')
end Go.Proofs.YtminjljgedopkaaGreatDoor
