import Derived.Test.YtaaejabalinojaaGreatDoorM02
import Derived.Laws.RangeAny
import Derived.RegionTactic
import Derived.Lib.Strings
set_option linter.all false
set_option maxRecDepth 100000
set_option maxHeartbeats 40000000
namespace Go.Proofs.YtaaejabalinojaaGreatDoor
open Go.RowKit Go.Proofs.Tryz
def yv8(c:UInt8):Fl.isLow c=true ↔ (97:Int)<=(c.toNat:Int)/\(c.toNat:Int)<=122:=by
 simp[Fl.isLow,UInt8.le_iff_toNat_le];omega
def zh3(c:UInt8):Fl.isDig c=true ↔ (48:Int)<=(c.toNat:Int)/\(c.toNat:Int)<=57:=by
 simp[Fl.isDig,UInt8.le_iff_toNat_le];omega
def zmw(p:UInt8->Bool)(s:ByteArray)(k:Nat)(h:k<s.size)(ha:(s.data.toList.take k).all p=true)(hp:p s[k]=true):(s.data.toList.take (k+1)).all p=true:=by
 rw[zs0 s k h,List.all_append,ha];simpa using hp
def yv9(p:UInt8->Bool)(s:ByteArray)(k:Nat)(h:k<s.size)(hp:¬p s[k]=true):s.data.toList.all p=false:=by
 rw[Bool.eq_false_iff];intro hall;exact hp (List.all_eq_true.1 hall _ (mem_at s k h))
def zuz(s:ByteArray)(m k:Nat)(h:k<s.size)(hp:(s[k].toNat:Int)<48\/57<(s[k].toNat:Int)):Fl.number s.data.toList m=(0,false):=by
 unfold Fl.number;rw[yv9 Fl.isDig s k h (by rw[zh3];omega)];rfl
def yt8(s:ByteArray)(m v:Nat)(h:s.data.toList.all Fl.isDig=true)(hv:Fl.val (s.data.toList.take m)=v):Fl.number s.data.toList m=(v,Fl.numOk s.data.toList m):=by
 unfold Fl.number;rw[if_pos h,hv]
def yp8(l:List UInt8)(h:0<l.length):l.headD 0=l[0]:=by
 match l,h with
 |a::l,_=>rfl
def zb1(s:ByteArray)(h:0<s.size):s.data.toList.headD 0=s[0]:=by
 rw[yp8 _ (by simpa using h)];rfl
def yly(s:ByteArray)(m:Nat)(h:0<s.size)(h2:s.size<=m)(h3:(s[0].toNat:Int)=48):Fl.numOk s.data.toList m=((s.size:Int)==1):=by
 have e:s.data.toList.length=s.size:=by simp
 have e2:s[0]=48:=by rw[<-UInt8.toNat_inj];show s[0].toNat=48;omega
 unfold Fl.numOk;rw[zb1 s h,e,e2,decide_eq_true h,decide_eq_true h2];rw[Bool.eq_iff_iff];simp;omega
def yt9(s:ByteArray)(m:Nat)(h:0<s.size)(h2:s.size<=m)(h3:¬(s[0].toNat:Int)=48):Fl.numOk s.data.toList m=true:=by
 have e:s.data.toList.length=s.size:=by simp
 have e2:s[0]≠48:=by intro hh;apply h3;rw[hh];rfl
 unfold Fl.numOk;rw[zb1 s h,e,decide_eq_true h,decide_eq_true h2];simp[e2]
def ytz(s:ByteArray)(m:Nat)(h2:¬s.size<=m):Fl.numOk s.data.toList m=false:=by
 have e:s.data.toList.length=s.size:=by simp
 unfold Fl.numOk;rw[e,decide_eq_false h2];simp
def yty(s:ByteArray)(m:Nat)(h2:¬0<s.size):Fl.numOk s.data.toList m=false:=by
 have e:s.data.toList.length=s.size:=by simp
 unfold Fl.numOk;rw[e,decide_eq_false h2];simp
def ytx(s:ByteArray)(m:Nat)(w:World)(hs:s.size<=maxLen)(hm:m<=10):Calls prog 53 #[.string s,.int .i64 m] w λe w'=>e=.returned (.tuple #[.int .i64 (Fl.number s.data.toList m).1,.bool (Fl.number s.data.toList m).2])/\w'=w:=by
 unfold maxLen at hs
 go_enter func53,ntmps53
 go_wp2
 go_loop [6,7] (λv i=>∃k:Nat,k<=s.size/\i=.int .i64 k/\(s.data.toList.take k).all Fl.isDig=true/\v=.int .i64 (Fl.val ((s.data.toList.take k).take m))) (λ_ i=>s.size - (intOf i).toNat)
 case atStart=>exact⟨0,Nat.zero_le _,rfl,rfl,by simp[Fl.val]⟩
 case round=>
  obtain⟨k,hk,rfl,hall,rfl⟩:=hrel;have HA:=Zz hall;have hv:Fl.val ((s.data.toList.take k).take m)<10000000000:=Fl.val_le _ m (by rw[List.all_eq_true]at hall⊢;intro x hx;exact hall x (List.mem_of_mem_take hx)) (by simp;omega) hm;clear hall;generalize hg:Fl.val ((s.data.toList.take k).take m)=v at*;have HG:=Zz hg;clear hg
  by_cases a0:k<s.size
  ·by_cases b0:k<m
   ·go_wp2
    ·go_ret2;exact⟨by rw[zuz s m k a0 (by omega)];rfl,rfl⟩
    ·go_round
     case rel=>
      refine⟨k+1,by omega,by go_num,zmw _ s k a0 HA.out (by rw[zh3];omega),?_⟩;have h1:=HG.out;rw[List.take_of_length_le (by simp;omega)]at h1;rw[List.take_of_length_le (by simp;omega),zs0 s k a0,Fl.val_snoc,h1]
      congr 1;omega
     case measure=>simp[intOf];omega
    go_ret2;exact⟨by rw[zuz s m k a0 (by omega)];rfl,rfl⟩
   go_wp2
   ·go_ret2;exact⟨by rw[zuz s m k a0 (by omega)];rfl,rfl⟩
   ·go_round
    case rel=>
     refine⟨k+1,by omega,by go_num,zmw _ s k a0 HA.out (by rw[zh3];omega),?_⟩;have h1:=HG.out;rw[List.take_take,Nat.min_eq_left (by omega)]at h1⊢;rw[h1]
    case measure=>simp[intOf];omega
   go_ret2;exact⟨by rw[zuz s m k a0 (by omega)];rfl,rfl⟩
  have HN:Hid (Fl.number s.data.toList m=(v,Fl.numOk s.data.toList m)):=yt8 s m v (by rw[<-zry s k a0];exact HA.out) (by have:=HG.out;rwa [zry s k a0]at this);go_wp2
  ·go_ret2;exact⟨by rw[HN.out];exact zj3 rfl (yly s m (by assumption) (by assumption) (by assumption)).symm,rfl⟩
  ·go_ret2;exact⟨by rw[HN.out];exact zj3 rfl (yt9 s m (by assumption) (by assumption) (by assumption)).symm,rfl⟩
  ·go_ret2;exact⟨by rw[HN.out];exact zj3 rfl (ytz s m (by assumption)).symm,rfl⟩
  go_ret2;exact⟨by rw[HN.out];exact zj3 rfl (yty s m (by assumption)).symm,rfl⟩
def ytw(m v pos:Nat)(l:List UInt8)(h:pos<l.length):Fl.lnumF m v (l.drop pos)=if Fl.isDig (l.getD pos 0)=false then none else if(m - ((l.getD pos 0).toNat - 48)) / 10<v then none else Fl.lnumF m (10*v+((l.getD pos 0).toNat - 48)) (l.drop (pos+1)):=by
 rw[List.drop_eq_getElem_cons h,Fl.lnumF];simp[Qa,h]
def Vg(w:World)(s:ByteArray)(pos:Nat):Below w.heap.size w (w.iter s pos):=bA
def yx4(l:List UInt8)(m:Nat)(w:World)(hl:l.length<=100000)(o0:9<=m)(hm:m<=4000000000):
  Calls prog 147 #[.string ⟨l.toArray⟩,.int .i64 m] w λe w'=>e=.returned (.tuple #[.int .i64 ((Fl.lnum m l).getD 0),.bool (Fl.lnum m l).isSome])/\Below w.heap.size w w':=by
 by_cases h0:l=[]
 ·subst h0
  go_enter func147,ntmps147
  go_wp2
  go_ret2
  exact⟨rfl,Below.refl _ _⟩
 have l0:0<l.length:=List.length_pos_iff.2 h0;have hsz:(⟨l.toArray⟩:ByteArray).size=l.length:=rfl;have hh:l.headD 0=(⟨l.toArray⟩:ByteArray)[0]:=by
  cases l with
  |nil=>simp at l0
  |cons a r=>rfl
 have b0:l.isEmpty=false:=by simpa using h0
 by_cases a0:l.headD 0=48/\l.length≠1
 ·have HF:Hid (Fl.lnum m l=none):=by
   show _=_;unfold Fl.lnum;rw[if_neg h0,if_pos a0]
  have b1:((((⟨l.toArray⟩:ByteArray)[0]).toNat:Int)==48)=true:=(by rw[<-hh,a0.1];rfl);have b2:(l==[48])=false:=by
   rw[Qh];rintro rfl;exact a0.2 rfl
  clear hh a0 h0
  go_enter func147,ntmps147
  go_wp2
  go_ret2
  exact⟨by rw[HF.out];rfl,Below.refl _ _⟩
 have HF:Hid (Fl.lnum m l=Fl.lnumF m 0 l):=by
  show _=_;unfold Fl.lnum;rw[if_neg h0,if_neg a0]
 have hA:((((⟨l.toArray⟩:ByteArray)[0]).toNat:Int)==48)=false\/((((⟨l.toArray⟩:ByteArray)[0]).toNat:Int)==48)=true/\(l==[48])=true:=by
  by_cases h1:l.headD 0=48
  ·right
   refine⟨by rw[<-hh,h1];rfl,?_⟩;have h2:l.length=1:=Classical.byContradiction λh=>a0 ⟨h1,h⟩
   match l,h2,h1 with
   |[a],_,h1=>simp at h1;subst h1;rfl
  left
  rw[Qh];intro h2;apply h1;rw[hh];exact UInt8.toNat_inj.1 (by show _=48;omega)
 have f0:Hid (∀pos (h:pos<l.length),((⟨l.toArray⟩:ByteArray)[pos]'h)=l.getD pos 0):=by
  intro pos h;show l.toArray[pos]=_;simp[Qa,h]
 have p0:(9:Int)<=(m:Int):=by omega
 have q0:(m:Int)<=4000000000:=by omega
 clear hh a0 h0 hsz;rcases hA with b1|⟨b1,b2⟩
 all_goals
  go_enter func147,ntmps147
  go_wp2_with fail
  go_loopw [6] (λn wr=>∃(pos v:Nat),wr=w.iter ⟨l.toArray⟩ pos/\n=.int .i64 v/\pos<=l.length/\v<=m/\Fl.lnumF m 0 l=Fl.lnumF m v (l.drop pos)) (λ_ wr=>l.length - wr.iterPos w.heap.size)
  case atStart=>exact⟨0,0,rfl,rfl,by omega,by omega,rfl⟩
  case round=>
   obtain⟨pos,v,rfl,rfl,r0,s0,hr⟩:=hrel;have HR:=Zz hr;clear hr
   by_cases hp:pos<l.length
   ·obtain⟨c,hc⟩:=nmE (l.getD pos 0)
    have hst:=ytw m v pos l hp;rw[<-hc]at hst;have d0:=Zz hst;have c0:(⟨l.toArray⟩:ByteArray)[pos]'hp=c:=(by rw[f0.out pos hp,hc]);clear hst hc
    by_cases ha:c.toNat<128
    ·have i0:∀ty,(Instr.next (.pointer (some ⟨w.heap.size,0,none⟩)) true ty).run prog (w.iter ⟨l.toArray⟩ pos)=.ok (.tuple #[.bool true,.int .i64 pos,.int .i32 (c.toNat:Int)]) (w.iter ⟨l.toArray⟩ (pos+1)):=λty=>by
      have:=run_next_ascii (P:=prog) w ⟨l.toArray⟩ pos ty hp (by rw[c0];exact ha);rw[c0]at this;exact this
     have j0:Fl.isDig c=true ↔ 48<=c.toNat/\c.toNat<=57:=Fl.isDig_nat c;have k0:=Zz j0;clear c0 j0;generalize hcn:c.toNat=cn at*
     by_cases hd:48<=cn/\cn<=57
     ·have t0:(48:Int)<=(cn:Int):=by omega
      have u0:(cn:Int)<=57:=(by omega);have e0:Fl.isDig c=true:=k0.out.2 hd;have v0:(v:Int)<=4000000000:=(by omega)
      by_cases hq:(m - (cn - 48)) / 10<v
      ·have m0:((m:Int) - ((cn:Int) - 48)) / 10<(v:Int):=by omega
       have HE:Hid (Fl.lnum m l=none):=by
        show _=_;rw[HF.out,HR.out,d0.out,if_neg (by rw[e0];decide),if_pos hq]
       clear hcn hd hq e0;go_wp2
       go_ret2
       exact⟨by rw[HE.out];rfl,Vg _ _ _⟩
      have m0:(v:Int)<=((m:Int) - ((cn:Int) - 48)) / 10:=(by omega);have HE:Hid (Fl.lnumF m 0 l=Fl.lnumF m (10*v+(cn - 48)) (l.drop (pos+1))):=by
       show _=_;rw[HR.out,d0.out,if_neg (by rw[e0];decide),if_neg hq]
      have n0:10*v+(cn - 48)<=m:=(by omega);clear hcn hd hq e0;go_wp2
      go_roundw
      case rel=>exact⟨pos+1,10*v+(cn - 48),rfl,by go_num,by omega,n0,HE.out⟩
      case measure=>simp;omega
     have HE:Hid (Fl.lnum m l=none):=by
      show _=_;rw[HF.out,HR.out,d0.out,if_pos]
      cases hh:Fl.isDig c with
      |false=>rfl
      |true=>exact absurd (k0.out.1 hh) hd
     clear hcn;have g0:(cn:Int) - 48<0\/9<(cn:Int) - 48:=(by omega);have x0:(cn:Int)<128:=(by omega);rcases g0 with g0|g0
     all_goals
      go_wp2
      go_ret2
      exact⟨by rw[HE.out];rfl,Vg _ _ _⟩
    obtain⟨h1,h2⟩:=decode_high (⟨l.toArray⟩:ByteArray) pos hp (by rw[c0];omega);have h3:=decode_le (⟨l.toArray⟩:ByteArray) pos;have i0:∀ty,(Instr.next (.pointer (some ⟨w.heap.size,0,none⟩)) true ty).run prog (w.iter ⟨l.toArray⟩ pos)=_:=λty=>run_next_any w ⟨l.toArray⟩ pos ty hp;have HE:Hid (Fl.lnum m l=none):=by
     show _=_;rw[HF.out,HR.out,d0.out,if_pos]
     cases hh:Fl.isDig c with
     |false=>rfl
     |true=>have:=(Fl.isDig_nat c).1 hh;omega
    generalize (Utf8.decode (⟨l.toArray⟩:ByteArray) pos).1=r at*;generalize (Utf8.decode (⟨l.toArray⟩:ByteArray) pos).2=rw at*;have y0:(128:Int)<=(r:Int):=(by omega);have z0:(r:Int)<=2147483647:=(by omega);clear h1 h3 c0;go_wp2
    go_ret2
    exact⟨by rw[HE.out];rfl,Vg _ _ _⟩
   have HE:Hid (Fl.lnum m l=some v):=by
    show _=_;rw[HF.out,HR.out,List.drop_of_length_le (by omega)];rfl
   have i0:∀ty,(Instr.next (.pointer (some ⟨w.heap.size,0,none⟩)) true ty).run prog (w.iter ⟨l.toArray⟩ pos)=_:=λty=>run_next_end w ⟨l.toArray⟩ pos ty hp;go_wp2
   go_ret2
   exact⟨by rw[HE.out];rfl,Vg _ _ _⟩
def zf5(c:UInt8):Fl.isLow c=true ↔ 97<=c.toNat/\c.toNat<=122:=by
 unfold Fl.isLow;rw[Bool.and_eq_true,decide_eq_true_eq,decide_eq_true_eq,UInt8.le_iff_toNat_le,UInt8.le_iff_toNat_le];rfl
def zf6(p:UInt8->Bool)(l:List UInt8)(i:Nat)(h:i<l.length)(hp:p (l.getD i 0)=false):l.all p=false:=by
 rw[Bool.eq_false_iff];intro ha;rw[List.all_eq_true]at ha;have:=ha (l.getD i 0) (by rw[Qa,Qb h];simp)
 rw[hp]at this;cases this
def ylx(p:UInt8->Bool)(l:List UInt8)(h:∀i,i<l.length->p (l.getD i 0)=true):l.all p=true:=by
 rw[List.all_eq_true];intro x hx;obtain⟨i,hi,rfl⟩:=List.getElem_of_mem hx;have:=h i hi
 rwa [Qa,Qb hi]at this
def ytv(l:List UInt8)(w:World)(hl:l.length<=100000):
  Calls prog 132 #[.string ⟨l.toArray⟩] w λe w'=>e=.returned (.bool (Fl.named l))/\Below w.heap.size w w':=by
 have hsz:(⟨l.toArray⟩:ByteArray).size=l.length:=rfl;have b0:Hid (∀pos (h:pos<l.length),((⟨l.toArray⟩:ByteArray)[pos]'h)=l.getD pos 0):=by
  intro pos h;show l.toArray[pos]=_;simp[Qa,h]
 clear hsz
 go_enter func132,ntmps132
 go_wp2_with fail
 go_loopw [] (λwr=>∃(pos:Nat),wr=w.iter ⟨l.toArray⟩ pos/\pos<=l.length/\∀i,i<pos->Fl.isLow (l.getD i 0)=true) (λwr=>l.length - wr.iterPos w.heap.size)
 case atStart=>exact⟨0,rfl,by omega,λi hi=>by omega⟩
 case round=>
  obtain⟨pos,rfl,j0,hr⟩:=hrel;have HR:=Zz hr;clear hr
  by_cases hp:pos<l.length
  ·obtain⟨c,hc⟩:=nmE (l.getD pos 0)
   have a0:(⟨l.toArray⟩:ByteArray)[pos]'hp=c:=(by rw[b0.out pos hp,hc]);have HC:=Zz hc;clear hc
   by_cases ha:c.toNat<128
   ·have e0:∀ty,(Instr.next (.pointer (some ⟨w.heap.size,0,none⟩)) true ty).run prog (w.iter ⟨l.toArray⟩ pos)=.ok (.tuple #[.bool true,.int .i64 pos,.int .i32 (c.toNat:Int)]) (w.iter ⟨l.toArray⟩ (pos+1)):=λty=>by
     have:=run_next_ascii (P:=prog) w ⟨l.toArray⟩ pos ty hp (by rw[a0];exact ha);rw[a0]at this;exact this
    have f0:Hid (Fl.isLow c=true ↔ 97<=c.toNat/\c.toNat<=122):=zf5 c;clear a0;generalize hcn:c.toNat=cn at*
    by_cases hd:97<=cn/\cn<=122
    ·have k0:(97:Int)<=(cn:Int):=by omega
     have l0:(cn:Int)<=122:=(by omega);have g0:Hid (Fl.isLow c=true):=f0.out.2 hd;clear hcn hd;go_wp2
     go_roundw
     case rel=>
      refine⟨pos+1,rfl,by omega,λi hi=>?_⟩
      by_cases h0:i=pos
      ·subst h0;rw[<-HC.out];exact g0.out
      exact HR.out i (by omega)
     case measure=>simp;omega
    have HE:Hid (Fl.named l=false):=by
     show _=_;unfold Fl.named;rw[zf6 _ l pos hp (by rw[<-HC.out];rw[Bool.eq_false_iff];intro h;exact hd (f0.out.1 h))];rfl
    clear hcn;have c0:(cn:Int)<97\/97<=(cn:Int)/\122<(cn:Int):=(by omega);rcases c0 with c0|⟨c0,m0⟩
    all_goals
     go_wp2;go_ret;exact⟨by rw[HE.out];rfl,Vg _ _ _⟩
   obtain⟨h1,h2⟩:=decode_high (⟨l.toArray⟩:ByteArray) pos hp (by rw[a0];omega);have h3:=decode_le (⟨l.toArray⟩:ByteArray) pos;have e0:∀ty,(Instr.next (.pointer (some ⟨w.heap.size,0,none⟩)) true ty).run prog (w.iter ⟨l.toArray⟩ pos)=_:=λty=>run_next_any w ⟨l.toArray⟩ pos ty hp;have HE:Hid (Fl.named l=false):=by
    show _=_;unfold Fl.named;rw[zf6 _ l pos hp (by rw[<-HC.out];rw[Bool.eq_false_iff];intro h;have:=(zf5 c).1 h;omega)];rfl
   generalize (Utf8.decode (⟨l.toArray⟩:ByteArray) pos).1=r at*;generalize (Utf8.decode (⟨l.toArray⟩:ByteArray) pos).2=rw at*;have d0:(128:Int)<=(r:Int):=(by omega);have n0:(r:Int)<=2147483647:=(by omega);clear h1 h3 a0;go_wp2;go_ret;exact⟨by rw[HE.out];rfl,Vg _ _ _⟩
  have HA:Hid (l.all Fl.isLow=true):=ylx _ l (λi hi=>HR.out i (by omega));have e0:∀ty,(Instr.next (.pointer (some ⟨w.heap.size,0,none⟩)) true ty).run prog (w.iter ⟨l.toArray⟩ pos)=_:=λty=>run_next_end w ⟨l.toArray⟩ pos ty hp
  by_cases h1:1<=l.length
  ·by_cases h6:l.length<=6
   ·have d0:(1:Int)<=(l.length:Int):=by omega
    have i0:(l.length:Int)<=6:=(by omega);have HE:Hid (Fl.named l=true):=(by show _=_;unfold Fl.named;rw[HA.out];simp;omega);go_wp2;go_ret;exact⟨by rw[HE.out];rfl,Vg _ _ _⟩
   have d0:(1:Int)<=(l.length:Int):=(by omega);have i0:¬(l.length:Int)<=6:=(by omega);have HE:Hid (Fl.named l=false):=(by show _=_;unfold Fl.named;rw[HA.out];simp;omega);go_wp2;go_ret;exact⟨by rw[HE.out];rfl,Vg _ _ _⟩
  have d0:¬(1:Int)<=(l.length:Int):=(by omega);have HE:Hid (Fl.named l=false):=(by show _=_;unfold Fl.named;rw[HA.out];simp;omega);go_wp2;go_ret;exact⟨by rw[HE.out];rfl,Vg _ _ _⟩
def zm2(l:List UInt8)(w:World)(hl:l.length<=100000):
  Calls prog 133 #[.string ⟨l.toArray⟩] w λe w'=>e=.returned (.tuple #[.int .i64 ((Fl.lnum 999999999 l).getD 0),.bool (Fl.lnum 999999999 l).isSome])/\Below w.heap.size w w':=by
 have HN:Hid (Calls prog 147 #[.string ⟨l.toArray⟩,.int .i64 999999999] w λe w'=>e=.returned (.tuple #[.int .i64 ((Fl.lnum 999999999 l).getD 0),.bool (Fl.lnum 999999999 l).isSome])/\Below w.heap.size w w'):=yx4 l 999999999 w hl (by decide) (by decide);generalize (((Fl.lnum 999999999 l).getD 0:Nat):Int)=v at*;generalize (Fl.lnum 999999999 l).isSome=b at*
 go_enter func133,ntmps133
 go_wp2_with fail
 refine HN.out.mono ?_;rintro e w1 ⟨rfl,hb⟩;go_wp2
 go_ret2
 exact⟨rfl,hb⟩
def ys0(l:List UInt8):(l=[43]/\Fl.place Fl.signs l=0)\/(l=[45]/\Fl.place Fl.signs l=1)\/(l=[42]/\Fl.place Fl.signs l=2)\/(l=[60]/\Fl.place Fl.signs l=3)\/(l=[61,61]/\Fl.place Fl.signs l=4)\/((l==[43])=false/\(l==[45])=false/\(l==[42])=false/\(l==[60])=false/\(l==[61,61])=false/\Fl.place Fl.signs l= -1):=by
 by_cases h1:l=[43]
 ·subst h1;left;exact⟨rfl,rfl⟩
 by_cases h2:l=[45]
 ·subst h2;right;left;exact⟨rfl,rfl⟩
 by_cases h3:l=[42]
 ·subst h3;right;right;left;exact⟨rfl,rfl⟩
 by_cases h4:l=[60]
 ·subst h4;right;right;right;left;exact⟨rfl,rfl⟩
 by_cases h5:l=[61,61]
 ·subst h5;right;right;right;right;left;exact⟨rfl,rfl⟩
 right;right;right;right;right
 refine⟨by simpa using h1,by simpa using h2,by simpa using h3,by simpa using h4,by simpa using h5,Fl.place_miss l Fl.signs λj hj=>?_⟩;have hj:j<5:=hj;rcases(show j=0\/j=1\/j=2\/j=3\/j=4 by omega) with rfl|rfl|rfl|rfl|rfl<;>simp[Fl.signs]<;>(intro h;exact absurd h.symm (by assumption))
def zp2(l:List UInt8)(w:World)(hl:l.length<=100000):
  Calls prog 134 #[.string ⟨l.toArray⟩] w λe w'=>e=.returned (.tuple #[.int .i64 ((Fl.place Fl.signs l).toNat:Int),.bool (decide (0<=Fl.place Fl.signs l))])/\w'=w:=by
 rcases ys0 l with⟨rfl,h⟩|⟨rfl,h⟩|⟨rfl,h⟩|⟨rfl,h⟩|⟨rfl,h⟩|⟨h1,h2,h3,h4,h5,h⟩
 all_goals
  rw[h];clear h
  go_enter func134,ntmps134
  go_wp2
  go_ret2
  exact⟨rfl,rfl⟩
def zj4(w:World)(v:Value)(ss:List ByteArray):Prop:=
 ∃ao cap,v=.slice ao ss.length cap/\ss.length<=maxLen/\(∀s∈ss,s.size<=maxLen)/\
  (ss≠[]->∃b off,ao=some ⟨b,off,none⟩/\∀i,i<ss.length->w.cell? ⟨b,off+i,none⟩=some (.string (ss.getD i ByteArray.empty)))
def bl(ss:List ByteArray):List (List UInt8):=ss.map ByteArray.toList
def yvz(ss:List ByteArray)(k:Nat)(h:k<ss.length):(bl ss).getD k []=(ss.getD k ByteArray.empty).toList:=by
 simp[bl,Qa,h]
def zf7(ss:List ByteArray):(bl ss).length=ss.length:=by simp[bl]
def zb2(s:ByteArray)(m:Nat)(w:World)(hs:s.size<=maxLen)(hm:m<=10):Calls prog 53 #[.string s,.int .i64 m] w λe w'=>e=.returned (.tuple #[.int .i64 (Fl.number s.toList m).1,.bool (Fl.number s.toList m).2])/\w'=w:=by
 rw[ByteArray.toList_eq];exact ytx s m w hs hm
def zpv(v:Value)(ss:List ByteArray)(s:ByteArray)(w:World)(hv:zj4 w v ss):Calls prog 28 #[v,.string s] w λe w'=>e=.returned (.int .i64 (Fl.place (bl ss) s.toList))/\w'=w:=by
 obtain⟨ao,cap,rfl,hl,_,hc⟩:=hv;unfold maxLen at hl
 go_enter func28,ntmps28
 go_wp2
 go_loop [5] (λi=>∃k:Nat,k<=ss.length/\i=.int .i64 k/\∀j,j<k->((bl ss).getD j []==s.toList)=false) (λi=>ss.length - (intOf i).toNat)
 case atStart=>exact⟨0,Nat.zero_le _,rfl,λj hj=>by omega⟩
 case round=>
  obtain⟨k,hk,rfl,hno⟩:=hrel;have HN:=Zz hno;clear hno
  by_cases b0:k<ss.length
  ·obtain⟨b,off,rfl,a0⟩:=hc (by intro h;rw[h]at b0;simp at b0)
   have c0:=a0 k b0;obtain⟨x,hx⟩:=nmE (ss.getD k ByteArray.empty);rw[<-hx]at c0;have HX:=Zz hx;clear hx a0 hc;go_wp2
   ·have hE:(x.toList==s.toList)=true:=by assumption
    go_ret;exact⟨Uj (Fl.place_hit _ _ k HN.out (by rw[zf7];exact b0) (by rw[yvz _ _ b0,<-HX.out];exact hE)).symm,rfl⟩
   have hE:(x.toList==s.toList)=false:=(by assumption)
   go_round
   case rel=>exact⟨k+1,by omega,by go_num,λj hj=>by
    by_cases d0:j<k
    ·exact HN.out j d0
    have:j=k:=by omega
    rw[this,yvz _ _ b0,<-HX.out];exact hE⟩
   case measure=>simp[intOf];omega
  go_wp2;go_ret;exact⟨Uj (Fl.place_miss _ _ (λj hj=>HN.out j (by rw[zf7]at hj;omega))).symm,rfl⟩
def Tryz.infoStr:(Tryz.prog.info? 9).map (λi=>(i.zero,i.size,i.bytes))=some (some (.string ⟨#[]⟩),1,16):=by kernel_rfl
def strV(l:List UInt8):Value:=.string ⟨l.toArray⟩
def ylw{w:World}{base:Nat}{e:TypeId}{v:Value}{n:Nat}{xs:List Value}(h:w.ownsRow base e 1 v n xs)(hn:0<n):∃g cap,v=.slice (some ⟨g,0,none⟩) n cap/\base<=g/\g<w.heap.size:=by
 rcases h.2 with⟨rfl,h0⟩|⟨g,cap,cur,rfl,hb,hg,_⟩
 ·omega
 exact⟨g,cap,rfl,hb,(Array.getElem?_eq_some_iff.1 hg).1⟩
def ext_one(s:ByteArray)(k:Nat)(h:k<s.size)(cu:List UInt8):Value.string (⟨cu.toArray⟩++s.extract k (k+1))=strV (cu++[s[k]]):=by
 have e:s.extract k (k+1)=⟨[s[k]].toArray⟩:=by
  have h1:(s.extract k (k+1)).data.toList=[s[k]]:=by
   rw[Lib.extract_data,List.drop_eq_getElem_cons (by simpa using h)];simp;rfl
  have h2:=Lib.mk_data (s.extract k (k+1));rw[h1]at h2;exact h2.symm
 rw[e];unfold strV;rw[ByteArray.mk_append_mk]
def ylv(dn:List (List UInt8))(cu cu':List UInt8):((dn++[cu]).map strV).set dn.length (strV cu')=(dn++[cu']).map strV:=by
 simp[List.set_append]
def Xw{w:World}{e:TypeId}{x:Value}:∀j u,[x][j]?=some u->(w.alloc (.cells #[x] e)).cell? ((⟨w.heap.size,0,none⟩:Addr).add j)=some u:=by
 intro j u hj
 match j,hj with
 |0,hj=>simp at hj;subst hj;simp[Addr.add]
def yk0(s:ByteArray)(c:UInt8)(w:World)(hs:s.size<=100000):
  Calls prog 11 #[.string s,.int .u8 c.toNat] w λe w'=>∃v,e=.returned v/\w'.ownsRow w.heap.size 9 1 v (Fl.cut c s.data.toList).length ((Fl.cut c s.data.toList).map strV)/\Below w.heap.size w w':=by
 obtain⟨i0,hi,j0,k0,l0⟩:=info_parts Tryz.infoStr
 go_enter func11,ntmps11
 go_wp2
 go_loopw [5,6] (λv i wr=>∃(k:Nat) (dn:List (List UInt8)) (cu:List UInt8),k<=s.size/\i=.int .i64 k/\Fl.cutTo c (s.data.toList.take k)=(dn,cu)/\wr.ownsRow w.heap.size 9 1 v (dn.length+1) ((dn++[cu]).map strV)/\Below w.heap.size w wr) (λ_ i _=>s.size - (intOf i).toNat)
 case atStart=>
  refine⟨0,[],[],by omega,rfl,rfl,⟨rfl,.inr ⟨w.heap.size,1,#[.string ⟨#[]⟩],rfl,Nat.le_refl _,heap_alloc_new w _,by simp,by simp[maxLen],rfl,rfl⟩⟩,bA⟩
 case round=>
  obtain⟨k,dn,cu,hk,rfl,f0,a0,b0⟩:=hrel;have HC:=Zz f0;have g0:=Fl.cutTo_le c (s.data.toList.take k);rw[f0]at g0;simp only[List.length_take]at g0;have q0:dn.length<=k:=(by omega);have r0:cu.length<=k:=(by omega);have m0:=b0.size;obtain⟨g,cap,rfl,n0,s0⟩:=ylw a0 (by omega);clear f0 g0
  by_cases e0:k<s.size
  ·by_cases hx:s[k]=c
   ·have b1:((s[k].toNat:Int)==(c.toNat:Int))=true:=by rw[hx];simp
    have HX:=Zz hx;clear hx
    go_wp2_with (at_builtin;refine wpList_append_own _ rfl _ _ 41 rfl w.heap.size 9 i0 (.string ⟨#[]⟩) 1 16 underlying41 hi j0 k0 l0 rfl (by decide) _ _ _ rfl (a0.alloc _) ⟨_,0,none⟩ 1 1 [.string ⟨#[]⟩] rfl rfl Xw ?c2 ?c3 ?c4 ?c5 ?_)
    case c2=>first|rfl|(intro u hu;simp at hu;subst hu;rfl)
    case c3=>unfold maxLen;omega
    case c4=>omega
    case c5=>first|omega|(simp;omega)
    intro v' w1 hown' c0 _;have R1:w1.ownsRow w.heap.size 9 1 v' ((dn++[cu]).length+1) ((dn++[cu]++[[]]).map strV):=by
     have e1:(dn++[cu]++[[]]).map strV=dn.map strV++[strV cu,.string ⟨#[]⟩]:=(by simp[strV]);rw[e1,List.length_append,List.length_singleton];exact hown'
    have R2:Below w.heap.size w w1:=(b0.alloc m0 _).grown c0 (by simp;omega) (λg hg=>(a0.lt g hg).1);have o0:=Zz R1;clear hown' c0 a0 R1;go_wp2
    go_roundw
    case rel=>exact⟨k+1,dn++[cu],[],by omega,by go_num,by rw[zs0 s k e0,Fl.cutTo_snoc,HC.out];simp[Fl.cutStep,HX.out],o0.out,R2⟩
    case measure=>simp[intOf];omega
   have b1:((s[k].toNat:Int)==(c.toNat:Int))=false:=(by rw[Qh];intro hh;exact hx (UInt8.toNat_inj.1 (by omega)));have HX:=Zz hx;clear hx;have h0:wr.cell? ⟨g,dn.length,none⟩=some (.string ⟨cu.toArray⟩):=by
    rw[a0.cellAt dn.length (by omega)];simp[strV]
   have t0:wr.frozen? ⟨g,dn.length,none⟩=false:=a0.frozenAt _;have hst:=a0.stored dn.length (.string (⟨cu.toArray⟩++s.extract k (k+1)));have p0:=Zz hst.1;have HB:Hid (Below w.heap.size w (wr.setCell ⟨g,dn.length,none⟩ (.string (⟨cu.toArray⟩++s.extract k (k+1))))):=b0.setCell n0 _;clear hst a0 b0;have u0:(k:Int)<(s.size:Int):=(by omega);have v0:((⟨cu.toArray⟩:ByteArray).size:Int)<=100000:=(by show ((cu.toArray.size:Nat):Int)<=100000;simp;omega)
   go_wp2_with fail
   go_region
   all_goals
    go_wp2
    go_roundw
    case rel=>exact⟨k+1,dn,cu++[s[k]],by omega,by go_num,by rw[zs0 s k e0,Fl.cutTo_snoc,HC.out];simp[Fl.cutStep,HX.out],by rw[<-ylv dn cu,<-ext_one s k e0];exact p0.out,HB.out.drew⟩
    case measure=>simp[intOf];omega
  have d0:Fl.cut c s.data.toList=dn++[cu]:=by
   unfold Fl.cut;rw[<-zry s k e0,HC.out]
  have HF:=Zz d0;clear d0;go_wp2;go_ret;exact⟨_,rfl,by rw[HF.out,List.length_append,List.length_singleton];exact a0,b0⟩
def Zg(B:Nat)(w:World)(v:Value)(ws:List (List UInt8)):Prop:=
 ∃ao cap,v=.slice ao ws.length cap/\ws.length<=cap/\cap<=maxLen/\ws.length<=100000/\(∀x∈ws,x.length<=100000)/\
  (ws≠[]->∃b off,ao=some ⟨b,off,none⟩/\b<B/\∀i,i<ws.length->w.cell? ⟨b,off+i,none⟩=some (strV (ws.getD i [])))
def Zg.below{B:Nat}{w w':World}{v:Value}{ws:List (List UInt8)}(h:Zg B w v ws)(hb:Below B w w'):Zg B w' v ws:=by
 obtain⟨ao,cap,h1,h2,h3,h4,h5,h6⟩:=h;refine⟨ao,cap,h1,h2,h3,h4,h5,λa0=>?_⟩;obtain⟨b,off,e,hb',hc⟩:=h6 a0;exact⟨b,off,e,hb',λi hi=>(hb.cell (p:=⟨b,off+i,none⟩) hb').trans (hc i hi)⟩
def Zg.mono{B B':Nat}{w:World}{v:Value}{ws:List (List UInt8)}(h:Zg B w v ws)(hB:B<=B'):Zg B' w v ws:=by
 obtain⟨ao,cap,h1,h2,h3,h4,h5,h6⟩:=h;refine⟨ao,cap,h1,h2,h3,h4,h5,λa0=>?_⟩;obtain⟨b,off,e,hb',hc⟩:=h6 a0;exact⟨b,off,e,by omega,hc⟩
def Zg.drop{B:Nat}{w:World}{b off n cap:Nat}{ws:List (List UInt8)}(h:Zg B w (.slice (some ⟨b,off,none⟩) n cap) ws)(k:Nat)(hk:k<=n):Zg B w (.slice (some ⟨b,off+k,none⟩) (n - k) (cap - k)) (ws.drop k):=by
 obtain⟨ao,cap',h1,h2,h3,h4,h5,h6⟩:=h;simp only[Value.slice.injEq]at h1;obtain⟨rfl,rfl,rfl⟩:=h1;refine⟨_,_,by rw[List.length_drop],by rw[List.length_drop];omega,by omega,by rw[List.length_drop];omega,λx hx=>h5 x (List.mem_of_mem_drop hx),λa0=>?_⟩
 have hn:ws≠[]:=by rintro rfl;simp at a0
 obtain⟨b',off',e,hb',hc⟩:=h6 hn;simp only[Option.some.injEq,Addr.mk.injEq,and_true]at e;obtain⟨rfl,rfl⟩:=e;refine⟨_,_,rfl,hb',λi hi=>?_⟩;rw[List.length_drop]at hi;rw[Nat.add_assoc,hc (k+i) (by omega)];simp[Qa]
def Zg.of_own{base:Nat}{w:World}{e:TypeId}{v:Value}{n:Nat}{ws:List (List UInt8)}(h:w.ownsRow base e 1 v n (ws.map strV))(hl:ws.length<=100000)(h5:∀x∈ws,x.length<=100000):Zg w.heap.size w v ws:=by
 have hl:ws.length=n:=by have:=h.1;simpa using this
 rcases h.2 with⟨rfl,h0⟩|⟨g,cap,cur,rfl,hb,hg,b0,a0,c0,ht⟩
 ·have:ws=[]:=Qi (by omega)
  subst this;exact⟨none,0,rfl,by simp,by simp[maxLen],by simp,by simp,λh=>absurd rfl h⟩
 refine⟨_,cap,by rw[hl],by omega,a0,by omega,h5,λd0=>⟨g,0,rfl,(Array.getElem?_eq_some_iff.1 hg).1,λi hi=>?_⟩⟩;have h1:=h.cells (g:=g) rfl i (strV (ws.getD i [])) (by simp[Qa,hi])
 have h2:(⟨g,0,none⟩:Addr).add i=⟨g,0+i,none⟩:=by unfold Addr.add;split<;>simp_all
 rw[h2]at h1;exact h1
def Ua(W:World)(k:Nat)(s:ByteArray)(pos:Nat):World:={W with heap:=W.heap.setIfInBounds k (.stringIter s pos)}
def next_at(W:World)(k:Nat)(s:ByteArray)(pos:Nat)(ty:TypeId)(hk:W.heap[k]?=some (.stringIter s pos))(h:pos<s.size)(ha:(s[pos]'h).toNat<128):
  (Instr.next (.pointer (some ⟨k,0,none⟩)) true ty).run prog W=.ok (.tuple #[.bool true,.int .i64 pos,.int .i32 (s[pos]'h).toNat]) (Ua W k s (pos+1)):=by
 simp only[Instr.next,getObj,setObj,Sem.run_bind,Sem.run,hk,Result.andThen,h,if_true,decode_ascii s pos h ha];simp[goInt,Sem.run,hk,Ua]
def yx5(W:World)(k:Nat)(s:ByteArray)(pos:Nat)(ty:TypeId)(hk:W.heap[k]?=some (.stringIter s pos))(h:¬pos<s.size):
  (Instr.next (.pointer (some ⟨k,0,none⟩)) true ty).run prog W=.ok (.tuple #[.bool false]) W:=by
 simp[Instr.next,getObj,Sem.run,hk,h]
def ys1{W:World}{k:Nat}{s:ByteArray}{pos:Nat}(hk:k<W.heap.size):(Ua W k s pos).heap[k]?=some (.stringIter s pos):=by
 simp[Ua,hk]
def zb3(W:World)(k:Nat)(s:ByteArray)(pos:Nat):(Ua W k s pos).heap.size=W.heap.size:=by simp[Ua]
def zd7(W:World)(k:Nat)(s:ByteArray)(pos j:Nat)(hj:j≠k):(Ua W k s pos).heap[j]?=W.heap[j]?:=by
 simp only[Ua];rw[Array.getElem?_setIfInBounds_ne (by omega)]
def zd8{B:Nat}{w W:World}(h:Below B w W){k:Nat}(hk:B<=k)(s:ByteArray)(pos:Nat):Below B w (Ua W k s pos):=
 ⟨h.os,h.tape,h.output,by rw[zb3];exact h.size,λj hj=>by rw[zd7 _ _ _ _ _ (by omega)];exact h.block j hj⟩
def zb4(B:Nat)(sh:List UInt8)(v:Value)(ws:List (List UInt8))(w:World)(hv:Zg B w v ws)(hB:B<=w.heap.size)(y0:∀c∈sh,c=110\/c=97\/c=111)(T0:sh.length<=4):
  Calls prog 107 #[.string ⟨sh.toArray⟩,v] w λe w'=>e=.returned (.bool (Fl.fitAll sh ws))/\Below w.heap.size w w':=by
 obtain⟨ao,cap,rfl,hl,I0,hn,i0,hc⟩:=hv
 by_cases hlen:ws.length=sh.length
 ·have b0:((ws.length:Int) !=(sh.length:Int))=false:=by rw[hlen];simp
  have j0:Hid (∀pos (h:pos<sh.length),((⟨sh.toArray⟩:ByteArray)[pos]'h)=sh.getD pos 0):=by
   intro pos h;show sh.toArray[pos]=_;simp[Qa,h]
  have z0:Hid (Fl.fitAll sh ws=true ↔ ∀i,i<sh.length->Fl.fit1 (sh.getD i 0) (ws.getD i [])=true):=Fl.fitAll_iff sh ws hlen;have J0:=Zz y0;have HL:=Zz hlen;have K0:=Zz i0;have HC:=Zz hc;clear hlen y0 i0 hc
  go_enter func107,ntmps107
  go_wp2_with fail
  go_loopw [] (λwr=>∃(pos:Nat),wr.heap[w.heap.size]?=some (.stringIter ⟨sh.toArray⟩ pos)/\Below w.heap.size w wr/\pos<=sh.length/\∀i,i<pos->Fl.fit1 (sh.getD i 0) (ws.getD i [])=true) (λwr=>sh.length - wr.iterPos w.heap.size)
  case atStart=>exact⟨0,World.iter_heap _ _ _,Vg _ _ _,by omega,λi hi=>by omega⟩
  case round=>
   obtain⟨pos,d0,a0,U0,hr⟩:=hrel;have HR:=Zz hr;have L0:w.heap.size<wr.heap.size:=(Array.getElem?_eq_some_iff.1 d0).1;have e0:wr.iterPos w.heap.size=pos:=(by unfold World.iterPos;rw[d0]);have k0:=Zz e0;clear hr e0
   by_cases hp:pos<sh.length
   ·obtain⟨c,g0⟩:=nmE (sh.getD pos 0)
    have l0:(⟨sh.toArray⟩:ByteArray)[pos]'hp=c:=(by rw[j0.out pos hp,g0]);have m0:c=110\/c=97\/c=111:=J0.out c (by rw[g0,Qa,Qb hp];simp)
    have ha:c.toNat<128:=by rcases m0 with rfl|rfl|rfl<;>decide
    have A0:∀ty,(Instr.next (.pointer (some ⟨w.heap.size,0,none⟩)) true ty).run prog wr=.ok (.tuple #[.bool true,.int .i64 pos,.int .i32 (c.toNat:Int)]) (Ua wr w.heap.size ⟨sh.toArray⟩ (pos+1)):=λty=>by
     have:=next_at wr w.heap.size ⟨sh.toArray⟩ pos ty d0 hp (by rw[l0];exact ha);rw[l0]at this;exact this
    obtain⟨W1,h0⟩:=nmE (Ua wr w.heap.size ⟨sh.toArray⟩ (pos+1));rw[<-h0]at A0;have n0:Below w.heap.size w W1:=(by rw[h0];exact zd8 a0 (Nat.le_refl _) _ _);have B0:Hid (W1.heap[w.heap.size]?=some (.stringIter ⟨sh.toArray⟩ (pos+1))):=(by show _=_;rw[h0];exact ys1 L0);obtain⟨b,off,rfl,V0,c0⟩:=HC.out (by intro h;have:=HL.out;rw[h]at this;simp at this;omega);obtain⟨x,hx⟩:=nmE (ws.getD pos []);have hpw:pos<ws.length:=(by have:=HL.out;omega);have o0:x.length<=100000:=K0.out x (by rw[hx,Qa,Qb hpw];simp)
    have p0:∀W,Below w.heap.size w W->W.cell? ⟨b,off+pos,none⟩=some (.string ⟨x.toArray⟩):=λW hW=>by
     rw[hW.cell (p:=⟨b,off+pos,none⟩) (by show b<_;omega),c0 pos hpw,hx];rfl
    have q0:=Zz p0;have M0:=Zz n0;have HX:=Zz hx;have C0:=Zz g0;have N0:=p0 W1 n0;have O0:w.heap.size<W1.heap.size:=(Array.getElem?_eq_some_iff.1 B0.out).1;have W0:(pos:Int)<(ws.length:Int):=(by omega);clear c0 l0 h0 hx g0 p0 n0 d0 a0;obtain⟨nb,hnb⟩:=nmE (Fl.named x);obtain⟨kb,r0⟩:=nmE ((Fl.lnum 999999999 x).isSome);obtain⟨kv,D0⟩:=nmE (α:=Int) (((Fl.lnum 999999999 x).getD 0:Nat));obtain⟨ob,s0⟩:=nmE (decide (0<=Fl.place Fl.signs x));obtain⟨ov,E0⟩:=nmE (α:=Int) (((Fl.place Fl.signs x).toNat:Int))
    have HN:Hid (∀W,Calls prog 132 #[.string ⟨x.toArray⟩] W λe w'=>e=.returned (.bool nb)/\Below W.heap.size W w'):=λW=>by rw[hnb];exact ytv x W o0
    have HK:Hid (∀W,Calls prog 133 #[.string ⟨x.toArray⟩] W λe w'=>e=.returned (.tuple #[.int .i64 kv,.bool kb])/\Below W.heap.size W w'):=λW=>by rw[D0,r0];exact zm2 x W o0
    have HO:Hid (∀W,Calls prog 134 #[.string ⟨x.toArray⟩] W λe w'=>e=.returned (.tuple #[.int .i64 ov,.bool ob])/\w'=W):=λW=>by rw[E0,s0];exact zp2 x W o0
    have f0:Hid (Fl.fit1 c x=if c=110 then nb else if c=97 then(nb||kb) else ob):=by
     show _=_;rw[hnb,r0,s0,Fl.lnum_some];rcases m0 with rfl|rfl|rfl<;>simp[Fl.fit1,Fl.atom]
    have P0:Hid (Fl.fit1 c x=false->Fl.fitAll sh ws=false):=λh=>by
     rw[Bool.eq_false_iff];intro hh;have:=z0.out.1 hh pos hp
     rw[<-C0.out,<-HX.out,h]at this;cases this
    have t0:Hid (Fl.fit1 c x=true->∀i,i<pos+1->Fl.fit1 (sh.getD i 0) (ws.getD i [])=true):=λh i hi=>by
     by_cases Q0:i=pos
     ·subst Q0;rw[<-C0.out,<-HX.out];exact h
     exact HR.out i (by omega)
    clear hnb r0 D0 s0 E0 ha
    go_wp2_with fail
    refine(HN.out _).mono ?_;rintro e W2 ⟨rfl,u0⟩;have F0:Hid (Below w.heap.size w W2):=M0.out.trans (u0.mono (by omega));have G0:Hid (W2.heap[w.heap.size]?=some (.stringIter ⟨sh.toArray⟩ (pos+1))):=(u0.block _ O0).trans B0.out;have R0:=q0.out W2 F0.out;have S0:w.heap.size<W2.heap.size:=(Array.getElem?_eq_some_iff.1 G0.out).1;clear u0 N0
    go_wp2_with fail
    refine(HK.out _).mono ?_;rintro e W3 ⟨rfl,v0⟩;have x0:Hid (Below w.heap.size w W3):=F0.out.trans (v0.mono (by omega));have H0:Hid (W3.heap[w.heap.size]?=some (.stringIter ⟨sh.toArray⟩ (pos+1))):=(v0.block _ S0).trans G0.out;have X0:=q0.out W3 x0.out;clear v0 R0
    go_wp2_with fail
    refine(HO.out _).mono ?_;rintro e W4 ⟨rfl,rfl⟩;clear HN HK HO q0;rcases m0 with rfl|rfl|rfl<;>cases nb<;>cases kb<;>cases ob
    all_goals
     go_wp2
     first
     |(go_ret;exact⟨by rw[P0.out (by rw[f0.out];rfl)];rfl,x0.out⟩)
     |(go_roundw;(case rel=>exact⟨pos+1,H0.out,x0.out,by omega,t0.out (by rw[f0.out];rfl)⟩);(case measure=>rw[k0.out];simp[World.iterPos,H0.out];omega))
   have HA:Hid (Fl.fitAll sh ws=true):=z0.out.2 (λi hi=>HR.out i (by omega));have A0:∀ty,(Instr.next (.pointer (some ⟨w.heap.size,0,none⟩)) true ty).run prog wr=.ok (.tuple #[.bool false]) wr:=λty=>yx5 wr w.heap.size ⟨sh.toArray⟩ pos ty d0 hp;have HB:=Zz a0;clear d0 a0;go_wp2;go_ret;exact⟨by rw[HA.out];rfl,HB.out⟩
 have b0:((ws.length:Int) !=(sh.length:Int))=true:=by rw[bne_iff_ne];omega
 have HE:Hid (Fl.fitAll sh ws=false):=by
  show _=_;rw[Bool.eq_false_iff];intro h;exact hlen (Fl.fitAll_len sh ws h)
 clear hc i0
 go_enter func107,ntmps107
 go_wp2;go_ret;exact⟨by rw[HE.out];rfl,Below.refl _ _⟩
section
variable{P:Program}(w:World)
def zb5(base:Nat)(t ty e:TypeId)(i:TypeInfo)(z:Value)(size bytes:Nat)(ht:P.underlying t=some (.slice e))(hi:P.info? e=some i)(hz:i.zero=some z)
  (a0:i.size=size) (i0:i.bytes=bytes) (m0:z.cells.size=size) (hsz:0<size)
  (v:Value) (n:Nat) (xs:List Value) (d0:w.ownsRow base e size v n xs)
  (a:Addr) (m c:Nat) (news:List Value) (hl:news.length=m*size) (c0:∀j u,news[j]?=some u->w.cell? (a.add j)=some u) (h1:∀u∈news,u.oneCell'=true)
  (j0:n+m<=maxLen) (b0:(n+m)*bytes<=140737488355328) (f0:base<=w.heap.size) (hm:0<m):
  ∃v' w',(Builtin.append_ #[t,t] ty #[v,.slice (some a) m c]).run P w=.ok v' w'/\w'.ownsRow base e size v' (n+m) (xs++news)/\w.grownBy w' v.ownBlock/\(v'.ownBlock=v.ownBlock\/v'.ownBlock=some w.heap.size):=by
 obtain⟨v',w',hr,ho,hg,_⟩:=run_append_own (P:=P) w base t ty e i z size bytes ht hi hz a0 i0 m0 hsz v n xs d0 a m c news hl c0 h1 j0 b0 f0;refine⟨v',w',hr,ho,hg,?_⟩;rcases d0.2 with⟨rfl,h0⟩|⟨g,cap,cur,rfl,p0,n0,q0,r0,o0,l0⟩
 ·subst h0
  have g0:=run_append_nil (P:=P) w t ty e i z ht hi hz a m c news (by rw[a0];exact hl) c0 hm (by unfold maxLen at j0;omega) (by rw[i0];simp only[Nat.zero_add]at b0;omega);rw[g0]at hr;injection hr with hv _
  right;rw[<-hv];rfl
 by_cases e0:n+m<=cap
 ·have k0:n*i.size+news.length<=cur.size:=by
   rw[o0,hl,a0,<-Nat.add_mul];exact Nat.mul_le_mul_right _ e0
  have g0:=run_append_room (P:=P) w t ty e i ht hi g n cap cur n0 a m c news (by rw[a0];exact hl) c0 h1 e0 k0;rw[g0]at hr;injection hr with hv _
  left;rw[<-hv];rfl
 have h63':((n+m:Nat):Int)<=9223372036854775807:=by unfold maxLen at j0;omega
 have g0:=run_append_grow (P:=P) w t ty e i z ht hi hz ⟨g,0,none⟩ n cap xs (by rw[a0];exact d0.1) (d0.cells rfl) a m c news (by rw[a0];exact hl) c0 (by omega) h63' (growslice_fits (by omega) (by rw[i0];exact b0));rw[g0]at hr;injection hr with hv _
 right;rw[<-hv];rfl
def Zj{ops:Array Oper}{rest:List Oper}{o:Oper}{a:Act}{Q:Exit->Act->World->Prop}(f0:o.guard=none)(s x:Operand)(t:TypeId)
  (ho:o.op=.call {callee:=.builtin .append,args:=#[s,x],argTypes:=#[t,t]})
  (base:Nat) (e:TypeId) (i:TypeInfo) (z:Value) (size bytes:Nat) (ht:P.underlying t=some (.slice e)) (hi:P.info? e=some i) (hz:i.zero=some z)
  (b0:i.size=size) (g0:i.bytes=bytes) (h0:z.cells.size=size) (hsz:0<size)
  (v:Value) (n:Nat) (xs:List Value) (hs:a.eval s=v) (e0:w.ownsRow base e size v n xs)
  (ad:Addr) (m c:Nat) (news:List Value) (hx:a.eval x=.slice (some ad) m c) (hl:news.length=m*size) (hm:0<m) (c0:∀j u,news[j]?=some u->w.cell? (ad.add j)=some u) (h1:∀u∈news,u.oneCell'=true)
  (i0:n+m<=maxLen) (a0:(n+m)*bytes<=140737488355328) (d0:base<=w.heap.size)
  (h:∀v' w',w'.ownsRow base e size v' (n+m) (xs++news)->w.grownBy w' v.ownBlock->(v'.ownBlock=v.ownBlock\/v'.ownBlock=some w.heap.size)->wpList P ops Q rest (a.put o.dst v') w'):wpList P ops Q (o::rest) a w:=
 wpList_plain f0 λ_ hK=>by
  obtain⟨v',w',hr,h2,h3,h4⟩:=zb5 (P:=P) w base t o.type e i z size bytes ht hi hz b0 g0 h0 hsz v n xs e0 ad m c news hl c0 h1 i0 a0 d0 hm;have j0:=hK _ _ (h v' w' h2 h3 h4);unfold Oper.wp execOp;simp only[ho,resolve,invoke,builtin,Sem.run_bind,Sem.run_pure,Result.andThen_ok,List.map_toArray,List.map_cons,List.map_nil,hs,hx,hr];exact j0
end
def Yb(n:Fl.Node)(lv:Value):List Value:=[.int .i64 n.kind,.int .i64 n.level,.int .i64 n.a,.int .i64 n.b,.int .i64 n.c,lv]
def flat:List Fl.Node->List Value->List Value
 |n::ns,lv::lvs=>Yb n lv++flat ns lvs
 |_,_=>[]
def zo0:∀(ns:List Fl.Node) (lvs:List Value) (n:Fl.Node) (lv:Value),lvs.length=ns.length->flat (ns++[n]) (lvs++[lv])=flat ns lvs++Yb n lv
 |[],[],n,lv,_=>by simp[flat]
 |m::ns,l::lvs,n,lv,h=>by
  simp only[List.cons_append,flat,zo0 ns lvs n lv (by simpa using h),List.append_assoc]
def yvy:∀(ns:List Fl.Node) (lvs:List Value) (i j:Nat),lvs.length=ns.length->i<ns.length->j<6->(flat ns lvs)[i*6+j]?=(Yb (Fl.nth ns i) (lvs.getD i (.slice none 0 0)))[j]?
 |n::ns,lv::lvs,0,j,_,_,hj=>by
  simp only[flat,Nat.zero_mul,Nat.zero_add];rw[List.getElem?_append_left (by simp[Yb];omega)];rfl
 |n::ns,lv::lvs,i+1,j,h,hi,hj=>by
  have:=yvy ns lvs i j (by simpa using h) (by simpa using hi) hj;simp only[flat];rw[List.getElem?_append_right (by simp[Yb];omega)];rw[show (i+1)*6+j - (Yb n lv).length=i*6+j from by simp[Yb];omega,this];rfl
def zw4{base:Nat}{w:World}{e:TypeId}{v:Value}{ns:List Fl.Node}{lvs:List Value}(h:w.ownsRow base e 6 v ns.length (flat ns lvs))(hl:lvs.length=ns.length)(hi:∀i,i<ns.length->Zv w.heap.size w (lvs.getD i (.slice none 0 0)) (Fl.nth ns i).list):Yv w.heap.size w v ns:=by
 rcases h.2 with⟨rfl,h0⟩|⟨g,cap,cur,rfl,hb,hg,a0,b0,c0,ht⟩
 ·have:ns=[]:=Qi h0
  subst this;exact Yv.nil _ _
 refine⟨_,cap,rfl,a0,by omega,λ_=>⟨g,0,rfl,(Array.getElem?_eq_some_iff.1 hg).1,λi hil=>⟨lvs.getD i (.slice none 0 0),hi i hil,?_⟩⟩⟩
 have q:∀j u,j<6->(Yb (Fl.nth ns i) (lvs.getD i (.slice none 0 0)))[j]?=some u->w.cell? ⟨g,i*6+j,none⟩=some u:=λj u hj hu=>by
  have h1:=h.cells (g:=g) rfl (i*6+j) u (by rw[yvy ns lvs i j hl hil hj];exact hu)
  have h2:(⟨g,0,none⟩:Addr).add (i*6+j)=⟨g,i*6+j,none⟩:=by unfold Addr.add;split<;>simp_all
  rw[h2]at h1;exact h1
 simp only[Nat.zero_add];exact⟨q 0 _ (by omega) rfl,q 1 _ (by omega) rfl,q 2 _ (by omega) rfl,q 3 _ (by omega) rfl,q 4 _ (by omega) rfl,q 5 _ (by omega) rfl⟩
end Go.Proofs.YtaaejabalinojaaGreatDoor
