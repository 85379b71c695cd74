import Derived.Test.YtfhpibppblbgcaaGreatDoorM03
import Derived.Laws.RangeAny
import Derived.RegionTactic
import Derived.Lib.Strings
import Derived.Deep.QuietTactic
import Derived.Deep.WholeRow
import Derived.StillTailTactics
set_option linter.all false
set_option maxRecDepth 100000
set_option maxHeartbeats 40000000
namespace Go.Proofs.YtfhpibppblbgcaaGreatDoor
open Go.RowKit Go.Proofs.Tryz
variable{w w' W wr w1 w2:World}{base n B k n1 n2 M q0 q b cap p:Nat}{e:TypeId}{v u sv sv' nv' cv lvn:Value}{xs ls st:List Int}{ws:List (List UInt8)}{s:List UInt8}{P:Program}{ops:Array Oper}{rest:List Oper}{o:Oper}{a:Act}{Q:Exit->Act->World->Prop}{lvs ys:List Value}{acc:List Fl.ar}{ao:Option Addr}
def yr3(m v pos:Nat)(l:List UInt8)(h:pos<l.length):Fl.eK m v (l.drop pos)=if Fl.dV (l.getD pos 0)=false then none else if(m - ((l.getD pos 0).toNat - 48)) / 10<v then none else Fl.eK m (10*v+((l.getD pos 0).toNat - 48)) (l.drop (pos+1)):=by
 rw[List.drop_eq_getElem_cons h,Fl.eK];simp[Qa,h]
def Ux(w:World)(s:ByteArray)(pos:Nat):Bq w (w.iter s pos):=bA
def yv5(l:List UInt8)(m:Nat)(w:World)(hl:l.length<=100000)(o0:9<=m)(hm:m<=4000000000):
  Cq 161 #[.string ⟨l.toArray⟩,Iq m] w λe w'=>e=.returned (.tuple #[Iq ((Fl.eI m l).getD 0),.bool (Fl.eI m l).isSome])/\Bq w w':=by
 by_cases h0:l=[]
 ·subst h0
  go_enter func161,ntmps161
  go_wp2
  go_ret2
  exact⟨rfl,Below.refl _ _⟩
 have l0:0<l.length:=List.length_pos_iff.2 h0;have cF:(⟨l.toArray⟩:ByteArray).size=l.length:=rfl;have hh:l.headD 0=(⟨l.toArray⟩:ByteArray)[0]:=by
  cases l with
  |nil=>simp at l0
  |cons a r=>rfl
 have b0:l.isEmpty=false:=by simpa using h0
 by_cases a0:l.headD 0=48/\l.length≠1
 ·have HF:Hid (Fl.eI m l=none):=by
   show _=_;unfold Fl.eI;rw[if_neg h0,if_pos a0]
  have b1:((((⟨l.toArray⟩:ByteArray)[0]).toNat:Int)==48)=true:=(by rw[<-hh,a0.1];rfl);have b2:(l==[48])=false:=by
   rw[Qh];rintro rfl;exact a0.2 rfl
  clear hh a0 h0
  go_enter func161,ntmps161
  go_wp2
  go_ret2
  exact⟨by rw[HF.out];rfl,Below.refl _ _⟩
 have HF:Hid (Fl.eI m l=Fl.eK m 0 l):=by
  show _=_;unfold Fl.eI;rw[if_neg h0,if_neg a0]
 have hA:((((⟨l.toArray⟩:ByteArray)[0]).toNat:Int)==48)=false\/((((⟨l.toArray⟩:ByteArray)[0]).toNat:Int)==48)=true/\(l==[48])=true:=by
  by_cases h1:l.headD 0=48
  ·right
   refine⟨by rw[<-hh,h1];rfl,?_⟩;have h2:l.length=1:=Classical.byContradiction λh=>a0 ⟨h1,h⟩
   match l,h2,h1 with
   |[a],_,h1=>simp at h1;subst h1;rfl
  left
  rw[Qh];intro h2;apply h1;rw[hh];exact UInt8.toNat_inj.1 (by show _=48;omega)
 have f0:Hid (∀pos (h:pos<l.length),((⟨l.toArray⟩:ByteArray)[pos]'h)=l.getD pos 0):=by
  intro pos h;show l.toArray[pos]=_;simp[Qa,h]
 have p0:(9:Int)<=(m:Int):=by omega
 have q0:(m:Int)<=4000000000:=by omega
 clear hh a0 h0 cF;rcases hA with b1|⟨b1,b2⟩
 all_goals
  go_enter func161,ntmps161
  go_wp2_with fail
  go_loopw [6] (λn wr=>∃(pos v:Nat),wr=w.iter ⟨l.toArray⟩ pos/\n=Iq v/\pos<=l.length/\v<=m/\Fl.eK m 0 l=Fl.eK m v (l.drop pos)) (λ_ wr=>l.length - wr.iterPos w.heap.size)
  case atStart=>exact⟨0,0,rfl,rfl,by omega,by omega,rfl⟩
  case round=>
   obtain⟨pos,v,rfl,rfl,r0,s0,hr⟩:=hrel;have HR:=Zz hr;clear hr
   by_cases hp:pos<l.length
   ·obtain⟨c,hc⟩:=nmE (l.getD pos 0)
    have cG:=yr3 m v pos l hp;rw[<-hc]at cG;have d0:=Zz cG;have c0:(⟨l.toArray⟩:ByteArray)[pos]'hp=c:=(by rw[f0 pos hp,hc]);clear cG hc
    by_cases ha:c.toNat<128
    ·have i0:∀ty,(Instr.next (Pq w.heap.size) true ty).run prog (w.iter ⟨l.toArray⟩ pos)=.ok (.tuple #[.bool true,Iq pos,.int .i32 (c.toNat:Int)]) (w.iter ⟨l.toArray⟩ (pos+1)):=λty=>by
      have:=run_next_ascii (P:=prog) w ⟨l.toArray⟩ pos ty hp (by rw[c0];exact ha);rw[c0]at this;exact this
     have j0:Fl.dV c=true ↔ 48<=c.toNat/\c.toNat<=57:=Fl.eC c;have k0:=Zz j0;clear c0 j0;generalize hcn:c.toNat=cn at*
     by_cases hd:48<=cn/\cn<=57
     ·have t0:(48:Int)<=(cn:Int):=by omega
      have u0:(cn:Int)<=57:=(by omega);have e0:Fl.dV c=true:=k0.2 hd;have v0:(v:Int)<=4000000000:=(by omega)
      by_cases hq:(m - (cn - 48)) / 10<v
      ·have m0:((m:Int) - ((cn:Int) - 48)) / 10<(v:Int):=by omega
       have HE:Hid (Fl.eI m l=none):=by
        show _=_;rw[HF.out,HR.out,d0.out,if_neg (by rw[e0];decide),if_pos hq]
       clear hcn hd hq e0;go_wp2
       go_ret2
       exact⟨by rw[HE.out];rfl,Ux _ _ _⟩
      have m0:(v:Int)<=((m:Int) - ((cn:Int) - 48)) / 10:=(by omega);have HE:Hid (Fl.eK m 0 l=Fl.eK m (10*v+(cn - 48)) (l.drop (pos+1))):=by
       show _=_;rw[HR.out,d0.out,if_neg (by rw[e0];decide),if_neg hq]
      have n0:10*v+(cn - 48)<=m:=(by omega);clear hcn hd hq e0;go_wp2
      go_roundw
      case rel=>exact⟨pos+1,10*v+(cn - 48),rfl,by go_num,by omega,n0,HE⟩
      case measure=>simp;omega
     have HE:Hid (Fl.eI m l=none):=by
      show _=_;rw[HF.out,HR.out,d0.out,if_pos]
      cases hh:Fl.dV c with
      |false=>rfl
      |true=>exact absurd (k0.1 hh) hd
     clear hcn;have g0:(cn:Int) - 48<0\/9<(cn:Int) - 48:=(by omega);have x0:(cn:Int)<128:=(by omega);rcases g0 with g0|g0
     all_goals
      go_wp2
      go_ret2
      exact⟨by rw[HE.out];rfl,Ux _ _ _⟩
    obtain⟨h1,h2⟩:=decode_high (⟨l.toArray⟩:ByteArray) pos hp (by rw[c0];omega);have h3:=decode_le (⟨l.toArray⟩:ByteArray) pos;have i0:∀ty,(Instr.next (Pq w.heap.size) true ty).run prog (w.iter ⟨l.toArray⟩ pos)=_:=λty=>run_next_any w ⟨l.toArray⟩ pos ty hp;have HE:Hid (Fl.eI m l=none):=by
     show _=_;rw[HF.out,HR.out,d0.out,if_pos]
     cases hh:Fl.dV c with
     |false=>rfl
     |true=>have:=(Fl.eC c).1 hh;omega
    generalize (Utf8.decode (⟨l.toArray⟩:ByteArray) pos).1=r at*;generalize (Utf8.decode (⟨l.toArray⟩:ByteArray) pos).2=rw at*;have y0:(128:Int)<=(r:Int):=(by omega);have z0:(r:Int)<=2147483647:=(by omega);clear h1 h3 c0;go_wp2
    go_ret2
    exact⟨by rw[HE.out];rfl,Ux _ _ _⟩
   have HE:Hid (Fl.eI m l=some v):=by
    show _=_;rw[HF.out,HR.out,List.drop_of_length_le (by omega)];rfl
   have i0:∀ty,(Instr.next (Pq w.heap.size) true ty).run prog (w.iter ⟨l.toArray⟩ pos)=_:=λty=>run_next_end w ⟨l.toArray⟩ pos ty hp;go_wp2
   go_ret2
   exact⟨by rw[HE.out];rfl,Ux _ _ _⟩
def zd2(c:UInt8):Fl.fW c=true ↔ 97<=c.toNat/\c.toNat<=122:=by
 unfold Fl.fW;rw[Bool.and_eq_true,decide_eq_true_eq,decide_eq_true_eq,UInt8.le_iff_toNat_le,UInt8.le_iff_toNat_le];rfl
def zd3(p:UInt8->Bool)(l:List UInt8)(i:Nat)(h:i<l.length)(hp:p (l.getD i 0)=false):l.all p=false:=by
 rw[Bool.eq_false_iff];intro ha;rw[List.all_eq_true]at ha;have:=ha (l.getD i 0) (by rw[Qa,Qb h];simp)
 rw[hp]at this;cases this
def yj7(p:UInt8->Bool)(l:List UInt8)(h:∀i,i<l.length->p (l.getD i 0)=true):l.all p=true:=by
 rw[List.all_eq_true];intro x hx;obtain⟨i,hi,rfl⟩:=List.getElem_of_mem hx;have:=h i hi
 rwa [Qa,Qb hi]at this
def yr4(l:List UInt8)(w:World)(hl:l.length<=100000):
  Cq 147 #[.string ⟨l.toArray⟩] w λe w'=>e=.returned (.bool (Fl.dk l))/\Bq w w':=by
 have cF:(⟨l.toArray⟩:ByteArray).size=l.length:=rfl;have b0:Hid (∀pos (h:pos<l.length),((⟨l.toArray⟩:ByteArray)[pos]'h)=l.getD pos 0):=by
  intro pos h;show l.toArray[pos]=_;simp[Qa,h]
 clear cF
 go_enter func147,ntmps147
 go_wp2_with fail
 go_loopw [] (λwr=>∃(pos:Nat),wr=w.iter ⟨l.toArray⟩ pos/\pos<=l.length/\∀i,i<pos->Fl.fW (l.getD i 0)=true) (λwr=>l.length - wr.iterPos w.heap.size)
 case atStart=>exact⟨0,rfl,by omega,λi hi=>by omega⟩
 case round=>
  obtain⟨pos,rfl,j0,hr⟩:=hrel;have HR:=Zz hr;clear hr
  by_cases hp:pos<l.length
  ·obtain⟨c,hc⟩:=nmE (l.getD pos 0)
   have a0:(⟨l.toArray⟩:ByteArray)[pos]'hp=c:=(by rw[b0 pos hp,hc]);have HC:=Zz hc;clear hc
   by_cases ha:c.toNat<128
   ·have e0:∀ty,(Instr.next (Pq w.heap.size) true ty).run prog (w.iter ⟨l.toArray⟩ pos)=.ok (.tuple #[.bool true,Iq pos,.int .i32 (c.toNat:Int)]) (w.iter ⟨l.toArray⟩ (pos+1)):=λty=>by
     have:=run_next_ascii (P:=prog) w ⟨l.toArray⟩ pos ty hp (by rw[a0];exact ha);rw[a0]at this;exact this
    have f0:Hid (Fl.fW c=true ↔ 97<=c.toNat/\c.toNat<=122):=zd2 c;clear a0;generalize hcn:c.toNat=cn at*
    by_cases hd:97<=cn/\cn<=122
    ·have k0:(97:Int)<=(cn:Int):=by omega
     have l0:(cn:Int)<=122:=(by omega);have g0:Hid (Fl.fW c=true):=f0.2 hd;clear hcn hd;go_wp2
     go_roundw
     case rel=>
      refine⟨pos+1,rfl,by omega,λi hi=>?_⟩
      by_cases h0:i=pos
      ·subst h0;rw[<-HC.out];exact g0
      exact HR i (by omega)
     case measure=>simp;omega
    have HE:Hid (Fl.dk l=false):=by
     show _=_;unfold Fl.dk;rw[zd3 _ l pos hp (by rw[<-HC.out];rw[Bool.eq_false_iff];intro h;exact hd (f0.1 h))];rfl
    clear hcn;have c0:(cn:Int)<97\/97<=(cn:Int)/\122<(cn:Int):=(by omega);rcases c0 with c0|⟨c0,m0⟩
    all_goals
     go_wp2;go_ret;exact⟨by rw[HE.out];rfl,Ux _ _ _⟩
   obtain⟨h1,h2⟩:=decode_high (⟨l.toArray⟩:ByteArray) pos hp (by rw[a0];omega);have h3:=decode_le (⟨l.toArray⟩:ByteArray) pos;have e0:∀ty,(Instr.next (Pq w.heap.size) true ty).run prog (w.iter ⟨l.toArray⟩ pos)=_:=λty=>run_next_any w ⟨l.toArray⟩ pos ty hp;have HE:Hid (Fl.dk l=false):=by
    show _=_;unfold Fl.dk;rw[zd3 _ l pos hp (by rw[<-HC.out];rw[Bool.eq_false_iff];intro h;have:=(zd2 c).1 h;omega)];rfl
   generalize (Utf8.decode (⟨l.toArray⟩:ByteArray) pos).1=r at*;generalize (Utf8.decode (⟨l.toArray⟩:ByteArray) pos).2=rw at*;have d0:(128:Int)<=(r:Int):=(by omega);have n0:(r:Int)<=2147483647:=(by omega);clear h1 h3 a0;go_wp2;go_ret;exact⟨by rw[HE.out];rfl,Ux _ _ _⟩
  have HA:Hid (l.all Fl.fW=true):=yj7 _ l (λi hi=>HR i (by omega));have e0:∀ty,(Instr.next (Pq w.heap.size) true ty).run prog (w.iter ⟨l.toArray⟩ pos)=_:=λty=>run_next_end w ⟨l.toArray⟩ pos ty hp
  by_cases h1:1<=l.length
  ·by_cases h6:l.length<=6
   ·have d0:(1:Int)<=(l.length:Int):=by omega
    have i0:(l.length:Int)<=6:=(by omega);have HE:Hid (Fl.dk l=true):=(by show _=_;unfold Fl.dk;rw[HA.out];simp;omega);go_wp2;go_ret;exact⟨by rw[HE.out];rfl,Ux _ _ _⟩
   have d0:(1:Int)<=(l.length:Int):=(by omega);have i0:¬(l.length:Int)<=6:=(by omega);have HE:Hid (Fl.dk l=false):=(by show _=_;unfold Fl.dk;rw[HA.out];simp;omega);go_wp2;go_ret;exact⟨by rw[HE.out];rfl,Ux _ _ _⟩
  have d0:¬(1:Int)<=(l.length:Int):=(by omega);have HE:Hid (Fl.dk l=false):=(by show _=_;unfold Fl.dk;rw[HA.out];simp;omega);go_wp2;go_ret;exact⟨by rw[HE.out];rfl,Ux _ _ _⟩
def zk0(l:List UInt8)(w:World)(hl:l.length<=100000):
  Cq 148 #[.string ⟨l.toArray⟩] w λe w'=>e=.returned (.tuple #[Iq ((Fl.eI 999999999 l).getD 0),.bool (Fl.eI 999999999 l).isSome])/\Bq w w':=by
 have HN:Hid (Cq 161 #[.string ⟨l.toArray⟩,Iq 999999999] w λe w'=>e=.returned (.tuple #[Iq ((Fl.eI 999999999 l).getD 0),.bool (Fl.eI 999999999 l).isSome])/\Bq w w'):=yv5 l 999999999 w hl (by decide) (by decide);generalize (((Fl.eI 999999999 l).getD 0:Nat):Int)=v at*;generalize (Fl.eI 999999999 l).isSome=b at*
 go_enter func148,ntmps148
 go_wp2_with fail
 refine HN.mono ?_;rintro e w1 ⟨rfl,hb⟩;go_wp2
 go_ret2
 exact⟨rfl,hb⟩
def yr5(l:List UInt8):(l=[43]/\Fl.ai Fl.cH l=0)\/(l=[45]/\Fl.ai Fl.cH l=1)\/(l=[42]/\Fl.ai Fl.cH l=2)\/(l=[60]/\Fl.ai Fl.cH l=3)\/(l=[61,61]/\Fl.ai Fl.cH l=4)\/((l==[43])=false/\(l==[45])=false/\(l==[42])=false/\(l==[60])=false/\(l==[61,61])=false/\Fl.ai Fl.cH l= -1):=by
 by_cases h1:l=[43]
 ·subst h1;left;exact⟨rfl,rfl⟩
 by_cases h2:l=[45]
 ·subst h2;right;left;exact⟨rfl,rfl⟩
 by_cases h3:l=[42]
 ·subst h3;right;right;left;exact⟨rfl,rfl⟩
 by_cases h4:l=[60]
 ·subst h4;right;right;right;left;exact⟨rfl,rfl⟩
 by_cases h5:l=[61,61]
 ·subst h5;right;right;right;right;left;exact⟨rfl,rfl⟩
 right;right;right;right;right
 refine⟨by simpa using h1,by simpa using h2,by simpa using h3,by simpa using h4,by simpa using h5,Fl.iz l Fl.cH λj hj=>?_⟩;have hj:j<5:=hj;rcases(show j=0\/j=1\/j=2\/j=3\/j=4 by omega) with rfl|rfl|rfl|rfl|rfl<;>simp[Fl.cH]<;>(intro h;exact absurd h.symm (by assumption))
def zox(l:List UInt8)(w:World)(hl:l.length<=100000):
  Cq 149 #[.string ⟨l.toArray⟩] w λe w'=>e=.returned (.tuple #[Iq ((Fl.ai Fl.cH l).toNat:Int),.bool (decide (0<=Fl.ai Fl.cH l))])/\w'=w:=by
 rcases yr5 l with⟨rfl,h⟩|⟨rfl,h⟩|⟨rfl,h⟩|⟨rfl,h⟩|⟨rfl,h⟩|⟨h1,h2,h3,h4,h5,h⟩
 all_goals
  rw[h];clear h
  go_enter func149,ntmps149
  go_wp2
  go_ret2
  exact⟨rfl,rfl⟩
def zh0(w:World)(v:Value)(ss:List ByteArray):Prop:=
 ∃ao cap,v=.slice ao ss.length cap/\ss.length<=maxLen/\(∀s∈ss,s.size<=maxLen)/\
  (ss≠[]->∃b off,ao=some (Aq b off)/\∀i,i<ss.length->w.cell? (Aq b (off+i))=some (.string (ss.getD i ByteArray.empty)))
def bl(ss:List ByteArray):List (List UInt8):=ss.map ByteArray.toList
def yt8(ss:List ByteArray)(k:Nat)(h:k<ss.length):(bl ss).getD k []=(ss.getD k ByteArray.empty).toList:=by
 simp[bl,Qa,h]
def zd4(ss:List ByteArray):(bl ss).length=ss.length:=by simp[bl]
def yz0(s:ByteArray)(m:Nat)(w:World)(hs:s.size<=maxLen)(hm:m<=10):Cq 26 #[.string s,Iq m] w λe w'=>e=.returned (.tuple #[Iq (Fl.bZ s.toList m).1,.bool (Fl.bZ s.toList m).2])/\w'=w:=by
 rw[ByteArray.toList_eq];exact yr2 s m w hs hm
def zn8(v:Value)(ss:List ByteArray)(s:ByteArray)(w:World)(hv:zh0 w v ss):Cq 17 #[v,.string s] w λe w'=>e=.returned (Iq (Fl.ai (bl ss) s.toList))/\w'=w:=by
 obtain⟨ao,cap,rfl,hl,_,hc⟩:=hv;unfold maxLen at hl
 go_enter func17,ntmps17
 go_wp2
 go_loop [5] (λi=>∃k:Nat,k<=ss.length/\i=Iq k/\∀j,j<k->((bl ss).getD j []==s.toList)=false) (λi=>ss.length - (intOf i).toNat)
 case atStart=>exact⟨0,Nat.zero_le _,rfl,λj hj=>by omega⟩
 case round=>
  obtain⟨k,hk,rfl,du⟩:=hrel;have HN:=Zz du;clear du
  by_cases b0:k<ss.length
  ·obtain⟨b,off,rfl,a0⟩:=hc (by intro h;rw[h]at b0;simp at b0)
   have c0:=a0 k b0;obtain⟨x,hx⟩:=nmE (ss.getD k ByteArray.empty);rw[<-hx]at c0;have HX:=Zz hx;clear hx a0 hc;go_wp2
   ·have hE:(x.toList==s.toList)=true:=by assumption
    go_ret;exact⟨zz8 (Fl.kL _ _ k HN (by rw[zd4];exact b0) (by rw[yt8 _ _ b0,<-HX.out];exact hE)).symm,rfl⟩
   have hE:(x.toList==s.toList)=false:=(by assumption)
   go_round
   case rel=>exact⟨k+1,by omega,by go_num,λj hj=>by
    by_cases d0:j<k
    ·exact HN j d0
    have:j=k:=by omega
    rw[this,yt8 _ _ b0,<-HX.out];exact hE⟩
   case measure=>simp[intOf];omega
  go_wp2;go_ret;exact⟨zz8 (Fl.iz _ _ (λj hj=>HN j (by rw[zd4]at hj;omega))).symm,rfl⟩
def Tryz.infoStr:(Tryz.prog.info? 9).map (λi=>(i.zero,i.size,i.bytes))=some (some (.string ⟨#[]⟩),1,16):=by kernel_rfl
def strV(l:List UInt8):Value:=.string ⟨l.toArray⟩
def yj8{xs:List Value}(h:w.ownsRow base e 1 v n xs)(hn:0<n):∃g cap,v=.slice (some (Aq g 0)) n cap/\base<=g/\g<w.heap.size:=by
 rcases h.2 with⟨rfl,h0⟩|⟨g,cap,cur,rfl,hb,hg,_⟩
 ·omega
 exact⟨g,cap,rfl,hb,(Array.getElem?_eq_some_iff.1 hg).1⟩
def ext_one(s:ByteArray)(k:Nat)(h:k<s.size)(cu:List UInt8):Value.string (⟨cu.toArray⟩++s.extract k (k+1))=strV (cu++[s[k]]):=by
 have e:s.extract k (k+1)=⟨[s[k]].toArray⟩:=by
  have h1:(s.extract k (k+1)).data.toList=[s[k]]:=by
   rw[Lib.extract_data,List.drop_eq_getElem_cons (by simpa using h)];simp;rfl
  have h2:=Lib.mk_data (s.extract k (k+1));rw[h1]at h2;exact h2.symm
 rw[e];unfold strV;rw[ByteArray.mk_append_mk]
def yj9(dn:List (List UInt8))(cu cu':List UInt8):((dn++[cu]).map strV).set dn.length (strV cu')=(dn++[cu']).map strV:=by
 simp[List.set_append]
def Xv{x:Value}:∀j u,[x][j]?=some u->(w.alloc (.cells #[x] e)).cell? (((Aq w.heap.size 0):Addr).add j)=some u:=by
 intro j u hj
 match j,hj with
 |0,hj=>simp at hj;subst hj;simp[Addr.add]
def yjz(s:ByteArray)(c:UInt8)(w:World)(hs:s.size<=100000):
  Cq 7 #[.string s,.int .u8 c.toNat] w λe w'=>∃v,e=.returned v/\w'.ownsRow w.heap.size 9 1 v (Fl.cut c s.data.toList).length ((Fl.cut c s.data.toList).map strV)/\Bq w w':=by
 obtain⟨i0,hi,j0,k0,l0⟩:=info_parts Tryz.infoStr
 go_enter func7,ntmps7
 go_wp2
 go_loopw [5,6] (λv i wr=>∃(k:Nat) (dn:List (List UInt8)) (cu:List UInt8),k<=s.size/\i=Iq k/\Fl.fB c (s.data.toList.take k)=(dn,cu)/\wr.ownsRow w.heap.size 9 1 v (dn.length+1) ((dn++[cu]).map strV)/\Bq w wr) (λ_ i _=>s.size - (intOf i).toNat)
 case atStart=>
  refine⟨0,[],[],by omega,rfl,rfl,⟨rfl,.inr ⟨w.heap.size,1,#[.string ⟨#[]⟩],rfl,Nat.le_refl _,heap_alloc_new w _,by simp,by simp[maxLen],rfl,rfl⟩⟩,bA⟩
 case round=>
  obtain⟨k,dn,cu,hk,rfl,f0,a0,b0⟩:=hrel;have HC:=Zz f0;have g0:=Fl.lR c (s.data.toList.take k);rw[f0]at g0;simp only[List.length_take]at g0;have q0:dn.length<=k:=(by omega);have r0:cu.length<=k:=(by omega);have m0:=b0.size;obtain⟨g,cap,rfl,n0,s0⟩:=yj8 a0 (by omega);clear f0 g0
  by_cases e0:k<s.size
  ·by_cases hx:s[k]=c
   ·have b1:((s[k].toNat:Int)==(c.toNat:Int))=true:=by rw[hx];simp
    have HX:=Zz hx;clear hx
    go_wp2_with (at_builtin;refine wpList_append_own _ rfl _ _ 32 rfl w.heap.size 9 i0 (.string ⟨#[]⟩) 1 16 underlying32 hi j0 k0 l0 rfl (by decide) _ _ _ rfl (a0.alloc _) (Aq _ 0) 1 1 [.string ⟨#[]⟩] rfl rfl Xv ?c2 ?c3 ?c4 ?c5 ?_)
    case c2=>first|rfl|(intro u hu;simp at hu;subst hu;rfl)
    case c3=>unfold maxLen;omega
    case c4=>omega
    case c5=>first|omega|(simp;omega)
    intro v' w1 hown' c0 _;have R1:w1.ownsRow w.heap.size 9 1 v' ((dn++[cu]).length+1) ((dn++[cu]++[[]]).map strV):=by
     have e1:(dn++[cu]++[[]]).map strV=dn.map strV++[strV cu,.string ⟨#[]⟩]:=(by simp[strV]);rw[e1,List.length_append,List.length_singleton];exact hown'
    have R2:Bq w w1:=(b0.alloc m0 _).grown c0 (by simp;omega) (λg hg=>(a0.lt g hg).1);have o0:=Zz R1;clear hown' c0 a0 R1;go_wp2
    go_roundw
    case rel=>exact⟨k+1,dn++[cu],[],by omega,by go_num,by rw[zsv s k e0,Fl.iu,HC.out];simp[Fl.cY,HX.out],o0,R2⟩
    case measure=>simp[intOf];omega
   have b1:((s[k].toNat:Int)==(c.toNat:Int))=false:=(by rw[Qh];intro hh;exact hx (UInt8.toNat_inj.1 (by omega)));have HX:=Zz hx;clear hx;have h0:wr.cell? (Aq g dn.length)=some (.string ⟨cu.toArray⟩):=by
    rw[a0.cellAt dn.length (by omega)];simp[strV]
   have t0:wr.frozen? (Aq g dn.length)=false:=a0.frozenAt _;have cG:=a0.stored dn.length (.string (⟨cu.toArray⟩++s.extract k (k+1)));have p0:=Zz cG.1;have HB:Hid (Bq w (wr.setCell (Aq g dn.length) (.string (⟨cu.toArray⟩++s.extract k (k+1))))):=b0.setCell n0 _;clear cG a0 b0;have u0:(k:Int)<(s.size:Int):=(by omega);have v0:((⟨cu.toArray⟩:ByteArray).size:Int)<=100000:=(by show ((cu.toArray.size:Nat):Int)<=100000;simp;omega)
   go_wp2_with fail
   go_region
   all_goals
    go_wp2
    go_roundw
    case rel=>exact⟨k+1,dn,cu++[s[k]],by omega,by go_num,by rw[zsv s k e0,Fl.iu,HC.out];simp[Fl.cY,HX.out],by rw[<-yj9 dn cu,<-ext_one s k e0];exact p0.out,HB.drew⟩
    case measure=>simp[intOf];omega
  have d0:Fl.cut c s.data.toList=dn++[cu]:=by
   unfold Fl.cut;rw[<-zp7 s k e0,HC.out]
  have HF:=Zz d0;clear d0;go_wp2;go_ret;exact⟨_,rfl,by rw[HF.out,List.length_append,List.length_singleton];exact a0,b0⟩
def Zf(B:Nat)(w:World)(v:Value)(ws:List (List UInt8)):Prop:=
 ∃ao cap,v=.slice ao ws.length cap/\ws.length<=cap/\cap<=maxLen/\ws.length<=100000/\(∀x∈ws,x.length<=100000)/\
  (ws≠[]->∃b off,ao=some (Aq b off)/\b<B/\∀i,i<ws.length->w.cell? (Aq b (off+i))=some (strV (ws.getD i [])))
def Zf.below(h:Zf B w v ws)(hb:Below B w w'):Zf B w' v ws:=by
 obtain⟨ao,cap,h1,h2,h3,h4,h5,h6⟩:=h;refine⟨ao,cap,h1,h2,h3,h4,h5,λa0=>?_⟩;obtain⟨b,off,e,hb',hc⟩:=h6 a0;exact⟨b,off,e,hb',λi hi=>(hb.cell (p:=(Aq b (off+i))) hb').trans (hc i hi)⟩
def Zf.mono{B':Nat}(h:Zf B w v ws)(hB:B<=B'):Zf B' w v ws:=by
 obtain⟨ao,cap,h1,h2,h3,h4,h5,h6⟩:=h;refine⟨ao,cap,h1,h2,h3,h4,h5,λa0=>?_⟩;obtain⟨b,off,e,hb',hc⟩:=h6 a0;exact⟨b,off,e,by omega,hc⟩
def Zf.drop{B:Nat}{w:World}{b off n cap:Nat}{ws:List (List UInt8)}(h:Zf B w (.slice (some (Aq b off)) n cap) ws)(k:Nat)(hk:k<=n):Zf B w (.slice (some (Aq b (off+k))) (n - k) (cap - k)) (ws.drop k):=by
 obtain⟨ao,cap',h1,h2,h3,h4,h5,h6⟩:=h;simp only[Value.slice.injEq]at h1;obtain⟨rfl,rfl,rfl⟩:=h1;refine⟨_,_,by rw[List.length_drop],by rw[List.length_drop];omega,by omega,by rw[List.length_drop];omega,λx hx=>h5 x (List.mem_of_mem_drop hx),λa0=>?_⟩
 have hn:ws≠[]:=by rintro rfl;simp at a0
 obtain⟨b',off',e,hb',hc⟩:=h6 hn;simp only[Option.some.injEq,Addr.mk.injEq,and_true]at e;obtain⟨rfl,rfl⟩:=e;refine⟨_,_,rfl,hb',λi hi=>?_⟩;rw[List.length_drop]at hi;rw[Nat.add_assoc,hc (k+i) (by omega)];simp[Qa]
def Zf.dE(h:w.ownsRow base e 1 v n (ws.map strV))(hl:ws.length<=100000)(h5:∀x∈ws,x.length<=100000):Zf w.heap.size w v ws:=by
 have hl:ws.length=n:=by have:=h.1;simpa using this
 rcases h.2 with⟨rfl,h0⟩|⟨g,cap,cur,rfl,hb,hg,b0,a0,c0,ht⟩
 ·have:ws=[]:=Qi (by omega)
  subst this;exact⟨none,0,rfl,by simp,by simp[maxLen],by simp,by simp,λh=>absurd rfl h⟩
 refine⟨_,cap,by rw[hl],by omega,a0,by omega,h5,λd0=>⟨g,0,rfl,(Array.getElem?_eq_some_iff.1 hg).1,λi hi=>?_⟩⟩;have h1:=h.cells (g:=g) rfl i (strV (ws.getD i [])) (by simp[Qa,hi])
 have h2:((Aq g 0):Addr).add i=(Aq g (0+i)):=by unfold Addr.add;split<;>simp_all
 rw[h2]at h1;exact h1
def Js(W:World)(k:Nat)(s:ByteArray)(pos:Nat):World:={W with heap:=W.heap.setIfInBounds k (.stringIter s pos)}
def next_at(W:World)(k:Nat)(s:ByteArray)(pos:Nat)(ty:TypeId)(hk:W.heap[k]?=some (.stringIter s pos))(h:pos<s.size)(ha:(s[pos]'h).toNat<128):
  (Instr.next (Pq k) true ty).run prog W=.ok (.tuple #[.bool true,Iq pos,.int .i32 (s[pos]'h).toNat]) (Js W k s (pos+1)):=by
 simp only[Instr.next,getObj,setObj,Sem.run_bind,Sem.run,hk,Result.andThen,h,if_true,decode_ascii s pos h ha];simp[goInt,Sem.run,hk,Js]
def yv6(W:World)(k:Nat)(s:ByteArray)(pos:Nat)(ty:TypeId)(hk:W.heap[k]?=some (.stringIter s pos))(h:¬pos<s.size):
  (Instr.next (Pq k) true ty).run prog W=.ok (.tuple #[.bool false]) W:=by
 simp[Instr.next,getObj,Sem.run,hk,h]
def yr6{s:ByteArray}{pos:Nat}(hk:k<W.heap.size):(Js W k s pos).heap[k]?=some (.stringIter s pos):=by
 simp[Js,hk]
def yz1(W:World)(k:Nat)(s:ByteArray)(pos:Nat):(Js W k s pos).heap.size=W.heap.size:=by simp[Js]
def zb6(W:World)(k:Nat)(s:ByteArray)(pos j:Nat)(hj:j≠k):(Js W k s pos).heap[j]?=W.heap[j]?:=by
 simp only[Js];rw[Array.getElem?_setIfInBounds_ne (by omega)]
def zb7(h:Below B w W)(hk:B<=k)(s:ByteArray)(pos:Nat):Below B w (Js W k s pos):=
 ⟨h.os,h.tape,h.output,by rw[yz1];exact h.size,λj hj=>by rw[zb6 _ _ _ _ _ (by omega)];exact h.block j hj⟩
def yz2(B:Nat)(sh:List UInt8)(v:Value)(ws:List (List UInt8))(w:World)(hv:Zf B w v ws)(hB:B<=w.heap.size)(y0:∀c∈sh,c=110\/c=97\/c=111)(T0:sh.length<=4):
  Cq 117 #[.string ⟨sh.toArray⟩,v] w λe w'=>e=.returned (.bool (Fl.bY sh ws))/\Bq w w':=by
 obtain⟨ao,cap,rfl,hl,I0,hn,i0,hc⟩:=hv
 by_cases bj:ws.length=sh.length
 ·have b0:((ws.length:Int) !=(sh.length:Int))=false:=by rw[bj];simp
  have j0:Hid (∀pos (h:pos<sh.length),((⟨sh.toArray⟩:ByteArray)[pos]'h)=sh.getD pos 0):=by
   intro pos h;show sh.toArray[pos]=_;simp[Qa,h]
  have z0:Hid (Fl.bY sh ws=true ↔ ∀i,i<sh.length->Fl.gu (sh.getD i 0) (ws.getD i [])=true):=Fl.ip sh ws bj;have J0:=Zz y0;have HL:=Zz bj;have K0:=Zz i0;have HC:=Zz hc;clear bj y0 i0 hc
  go_enter func117,ntmps117
  go_wp2_with fail
  go_loopw [] (λwr=>∃(pos:Nat),wr.heap[w.heap.size]?=some (.stringIter ⟨sh.toArray⟩ pos)/\Bq w wr/\pos<=sh.length/\∀i,i<pos->Fl.gu (sh.getD i 0) (ws.getD i [])=true) (λwr=>sh.length - wr.iterPos w.heap.size)
  case atStart=>exact⟨0,World.iter_heap _ _ _,Ux _ _ _,by omega,λi hi=>by omega⟩
  case round=>
   obtain⟨pos,d0,a0,U0,hr⟩:=hrel;have HR:=Zz hr;have L0:w.heap.size<wr.heap.size:=(Array.getElem?_eq_some_iff.1 d0).1;have e0:wr.iterPos w.heap.size=pos:=(by unfold World.iterPos;rw[d0]);have k0:=Zz e0;clear hr e0
   by_cases hp:pos<sh.length
   ·obtain⟨c,g0⟩:=nmE (sh.getD pos 0)
    have l0:(⟨sh.toArray⟩:ByteArray)[pos]'hp=c:=(by rw[j0 pos hp,g0]);have m0:c=110\/c=97\/c=111:=J0 c (by rw[g0,Qa,Qb hp];simp)
    have ha:c.toNat<128:=by rcases m0 with rfl|rfl|rfl<;>decide
    have A0:∀ty,(Instr.next (Pq w.heap.size) true ty).run prog wr=.ok (.tuple #[.bool true,Iq pos,.int .i32 (c.toNat:Int)]) (Js wr w.heap.size ⟨sh.toArray⟩ (pos+1)):=λty=>by
     have:=next_at wr w.heap.size ⟨sh.toArray⟩ pos ty d0 hp (by rw[l0];exact ha);rw[l0]at this;exact this
    obtain⟨W1,h0⟩:=nmE (Js wr w.heap.size ⟨sh.toArray⟩ (pos+1));rw[<-h0]at A0;have n0:Bq w W1:=(by rw[h0];exact zb7 a0 (Nat.le_refl _) _ _);have B0:Hid (W1.heap[w.heap.size]?=some (.stringIter ⟨sh.toArray⟩ (pos+1))):=(by show _=_;rw[h0];exact yr6 L0);obtain⟨b,off,rfl,V0,c0⟩:=HC (by intro h;have:=HL.out;rw[h]at this;simp at this;omega);obtain⟨x,hx⟩:=nmE (ws.getD pos []);have hpw:pos<ws.length:=(by have:=HL.out;omega);have o0:x.length<=100000:=K0 x (by rw[hx,Qa,Qb hpw];simp)
    have p0:∀W,Bq w W->W.cell? (Aq b (off+pos))=some (.string ⟨x.toArray⟩):=λW hW=>by
     rw[hW.cell (p:=(Aq b (off+pos))) (by show b<_;omega),c0 pos hpw,hx];rfl
    have q0:=Zz p0;have M0:=Zz n0;have HX:=Zz hx;have C0:=Zz g0;have N0:=p0 W1 n0;have O0:w.heap.size<W1.heap.size:=(Array.getElem?_eq_some_iff.1 B0).1;have W0:(pos:Int)<(ws.length:Int):=(by omega);clear c0 l0 h0 hx g0 p0 n0 d0 a0;obtain⟨nb,hnb⟩:=nmE (Fl.dk x);obtain⟨kb,r0⟩:=nmE ((Fl.eI 999999999 x).isSome);obtain⟨kv,D0⟩:=nmE (α:=Int) (((Fl.eI 999999999 x).getD 0:Nat));obtain⟨ob,s0⟩:=nmE (decide (0<=Fl.ai Fl.cH x));obtain⟨ov,E0⟩:=nmE (α:=Int) (((Fl.ai Fl.cH x).toNat:Int))
    have HN:Hid (∀W,Cq 147 #[.string ⟨x.toArray⟩] W λe w'=>e=.returned (.bool nb)/\Bq W w'):=λW=>by rw[hnb];exact yr4 x W o0
    have HK:Hid (∀W,Cq 148 #[.string ⟨x.toArray⟩] W λe w'=>e=.returned (.tuple #[Iq kv,.bool kb])/\Bq W w'):=λW=>by rw[D0,r0];exact zk0 x W o0
    have HO:Hid (∀W,Cq 149 #[.string ⟨x.toArray⟩] W λe w'=>e=.returned (.tuple #[Iq ov,.bool ob])/\w'=W):=λW=>by rw[E0,s0];exact zox x W o0
    have f0:Hid (Fl.gu c x=if c=110 then nb else if c=97 then(nb||kb) else ob):=by
     show _=_;rw[hnb,r0,s0,Fl.kH];rcases m0 with rfl|rfl|rfl<;>simp[Fl.gu,Fl.atom]
    have P0:Hid (Fl.gu c x=false->Fl.bY sh ws=false):=λh=>by
     rw[Bool.eq_false_iff];intro hh;have:=z0.1 hh pos hp
     rw[<-C0.out,<-HX.out,h]at this;cases this
    have t0:Hid (Fl.gu c x=true->∀i,i<pos+1->Fl.gu (sh.getD i 0) (ws.getD i [])=true):=λh i hi=>by
     by_cases Q0:i=pos
     ·subst Q0;rw[<-C0.out,<-HX.out];exact h
     exact HR i (by omega)
    clear hnb r0 D0 s0 E0 ha
    go_wp2_with fail
    refine(HN _).mono ?_;rintro e W2 ⟨rfl,u0⟩;have F0:Hid (Bq w W2):=M0.trans (u0.mono (by omega));have G0:Hid (W2.heap[w.heap.size]?=some (.stringIter ⟨sh.toArray⟩ (pos+1))):=(u0.block _ O0).trans B0.out;have R0:=q0 W2 F0.out;have S0:w.heap.size<W2.heap.size:=(Array.getElem?_eq_some_iff.1 G0).1;clear u0 N0
    go_wp2_with fail
    refine(HK _).mono ?_;rintro e W3 ⟨rfl,v0⟩;have x0:Hid (Bq w W3):=F0.trans (v0.mono (by omega));have H0:Hid (W3.heap[w.heap.size]?=some (.stringIter ⟨sh.toArray⟩ (pos+1))):=(v0.block _ S0).trans G0.out;have X0:=q0 W3 x0.out;clear v0 R0
    go_wp2_with fail
    refine(HO _).mono ?_;rintro e W4 ⟨rfl,rfl⟩;clear HN HK HO q0;rcases m0 with rfl|rfl|rfl<;>cases nb<;>cases kb<;>cases ob
    all_goals
     go_wp2
     first
     |(go_ret;exact⟨by rw[P0 (by rw[f0.out];rfl)];rfl,x0⟩)
     |(go_roundw;(case rel=>exact⟨pos+1,H0,x0,by omega,t0 (by rw[f0.out];rfl)⟩);(case measure=>rw[k0.out];simp[World.iterPos,H0.out];omega))
   have HA:Hid (Fl.bY sh ws=true):=z0.2 (λi hi=>HR i (by omega));have A0:∀ty,(Instr.next (Pq w.heap.size) true ty).run prog wr=.ok (.tuple #[.bool false]) wr:=λty=>yv6 wr w.heap.size ⟨sh.toArray⟩ pos ty d0 hp;have HB:=Zz a0;clear d0 a0;go_wp2;go_ret;exact⟨by rw[HA.out];rfl,HB⟩
 have b0:((ws.length:Int) !=(sh.length:Int))=true:=by rw[bne_iff_ne];omega
 have HE:Hid (Fl.bY sh ws=false):=by
  show _=_;rw[Bool.eq_false_iff];intro h;exact bj (Fl.bX sh ws h)
 clear hc i0
 go_enter func117,ntmps117
 go_wp2;go_ret;exact⟨by rw[HE.out];rfl,Below.refl _ _⟩
section
variable(w:World)
def zn9(base:Nat)(t ty e:TypeId)(i:TypeInfo)(z:Value)(size bytes:Nat)(ht:P.underlying t=some (.slice e))(hi:P.info? e=some i)(hz:i.zero=some z)
  (a0:i.size=size) (i0:i.bytes=bytes) (m0:z.cells.size=size) (cF:0<size)
  (v:Value) (n:Nat) (xs:List Value) (d0:w.ownsRow base e size v n xs)
  (a:Addr) (m c:Nat) (news:List Value) (hl:news.length=m*size) (c0:∀j u,news[j]?=some u->w.cell? (a.add j)=some u) (h1:∀u∈news,u.oneCell'=true)
  (j0:n+m<=maxLen) (b0:(n+m)*bytes<=140737488355328) (f0:base<=w.heap.size) (hm:0<m):
  ∃v' w',(Builtin.append_ #[t,t] ty #[v,.slice (some a) m c]).run P w=.ok v' w'/\w'.ownsRow base e size v' (n+m) (xs++news)/\w.grownBy w' v.ownBlock/\(v'.ownBlock=v.ownBlock\/v'.ownBlock=some w.heap.size):=by
 obtain⟨v',w',hr,ho,hg,_⟩:=run_append_own (P:=P) w base t ty e i z size bytes ht hi hz a0 i0 m0 cF v n xs d0 a m c news hl c0 h1 j0 b0 f0;refine⟨v',w',hr,ho,hg,?_⟩;rcases d0.2 with⟨rfl,h0⟩|⟨g,cap,cur,rfl,p0,n0,q0,r0,o0,l0⟩
 ·subst h0
  have g0:=run_append_nil (P:=P) w t ty e i z ht hi hz a m c news (by rw[a0];exact hl) c0 hm (by unfold maxLen at j0;omega) (by rw[i0];simp only[Nat.zero_add]at b0;omega);rw[g0]at hr;injection hr with hv _
  right;rw[<-hv];rfl
 by_cases e0:n+m<=cap
 ·have k0:n*i.size+news.length<=cur.size:=by
   rw[o0,hl,a0,<-Nat.add_mul];exact Nat.mul_le_mul_right _ e0
  have g0:=run_append_room (P:=P) w t ty e i ht hi g n cap cur n0 a m c news (by rw[a0];exact hl) c0 h1 e0 k0;rw[g0]at hr;injection hr with hv _
  left;rw[<-hv];rfl
 have h63':((n+m:Nat):Int)<=9223372036854775807:=by unfold maxLen at j0;omega
 have g0:=run_append_grow (P:=P) w t ty e i z ht hi hz (Aq g 0) n cap xs (by rw[a0];exact d0.1) (d0.cells rfl) a m c news (by rw[a0];exact hl) c0 (by omega) h63' (growslice_fits (by omega) (by rw[i0];exact b0));rw[g0]at hr;injection hr with hv _
 right;rw[<-hv];rfl
def Zj(f0:o.guard=none)(s x:Operand)(t:TypeId)
  (ho:o.op=.call {callee:=.builtin .append,args:=#[s,x],argTypes:=#[t,t]})
  (base:Nat) (e:TypeId) (i:TypeInfo) (z:Value) (size bytes:Nat) (ht:P.underlying t=some (.slice e)) (hi:P.info? e=some i) (hz:i.zero=some z)
  (b0:i.size=size) (g0:i.bytes=bytes) (h0:z.cells.size=size) (cF:0<size)
  (v:Value) (n:Nat) (xs:List Value) (hs:a.eval s=v) (e0:w.ownsRow base e size v n xs)
  (ad:Addr) (m c:Nat) (news:List Value) (hx:a.eval x=.slice (some ad) m c) (hl:news.length=m*size) (hm:0<m) (c0:∀j u,news[j]?=some u->w.cell? (ad.add j)=some u) (h1:∀u∈news,u.oneCell'=true)
  (i0:n+m<=maxLen) (a0:(n+m)*bytes<=140737488355328) (d0:base<=w.heap.size)
  (h:∀v' w',w'.ownsRow base e size v' (n+m) (xs++news)->w.grownBy w' v.ownBlock->(v'.ownBlock=v.ownBlock\/v'.ownBlock=some w.heap.size)->wpList P ops Q rest (a.put o.dst v') w'):wpList P ops Q (o::rest) a w:=
 wpList_plain f0 λ_ hK=>by
  obtain⟨v',w',hr,h2,h3,h4⟩:=zn9 (P:=P) w base t o.type e i z size bytes ht hi hz b0 g0 h0 cF v n xs e0 ad m c news hl c0 h1 i0 a0 d0 hm;have j0:=hK _ _ (h v' w' h2 h3 h4);unfold Oper.wp execOp;simp only[ho,resolve,invoke,builtin,Sem.run_bind,Sem.run_pure,Result.andThen_ok,List.map_toArray,List.map_cons,List.map_nil,hs,hx,hr];exact j0
end
def Yh(n:Fl.ar)(lv:Value):List Value:=[Iq n.kind,Iq n.ag,Iq n.a,Iq n.b,Iq n.c,lv]
def flat:List Fl.ar->List Value->List Value
 |n::ns,lv::lvs=>Yh n lv++flat ns lvs
 |_,_=>[]
def yjy:∀(ns:List Fl.ar) (lvs:List Value),lvs.length=ns.length->(flat ns lvs).length=ns.length*6
 |[],[],_=>rfl
 |n::ns,lv::lvs,h=>by
  have:=yjy ns lvs (by simpa using h);simp only[flat,Yh,List.length_append,List.length_cons,List.length_nil,this];omega
def zr0:∀(ns:List Fl.ar) (lvs:List Value) (n:Fl.ar) (lv:Value),lvs.length=ns.length->flat (ns++[n]) (lvs++[lv])=flat ns lvs++Yh n lv
 |[],[],n,lv,_=>by simp[flat]
 |m::ns,l::lvs,n,lv,h=>by
  simp only[List.cons_append,flat,zr0 ns lvs n lv (by simpa using h),List.append_assoc]
def yt9:∀(ns:List Fl.ar) (lvs:List Value) (i j:Nat),lvs.length=ns.length->i<ns.length->j<6->(flat ns lvs)[i*6+j]?=(Yh (Fl.nth ns i) (lvs.getD i Zq))[j]?
 |n::ns,lv::lvs,0,j,_,_,hj=>by
  simp only[flat,Nat.zero_mul,Nat.zero_add];rw[List.getElem?_append_left (by simp[Yh];omega)];rfl
 |n::ns,lv::lvs,i+1,j,h,hi,hj=>by
  have:=yt9 ns lvs i j (by simpa using h) (by simpa using hi) hj;simp only[flat];rw[List.getElem?_append_right (by simp[Yh];omega)];rw[show (i+1)*6+j - (Yh n lv).length=i*6+j from by simp[Yh];omega,this];rfl
def zy3{ns:List Fl.ar}(h:w.ownsRow base e 6 v ns.length (flat ns lvs))(hl:lvs.length=ns.length)(hi:∀i,i<ns.length->Zv w.heap.size w (lvs.getD i Zq) (Fl.nth ns i).aU):Yv w.heap.size w v ns:=by
 rcases h.2 with⟨rfl,h0⟩|⟨g,cap,cur,rfl,hb,hg,a0,b0,c0,ht⟩
 ·have:ns=[]:=Qi h0
  subst this;exact Yv.nil _ _
 refine⟨_,cap,rfl,a0,by omega,λ_=>⟨g,0,rfl,(Array.getElem?_eq_some_iff.1 hg).1,λi hil=>⟨lvs.getD i Zq,hi i hil,?_⟩⟩⟩
 have q:∀j u,j<6->(Yh (Fl.nth ns i) (lvs.getD i Zq))[j]?=some u->Cl w g (i*6+j) u:=λj u hj hu=>by
  have h1:=h.cells (g:=g) rfl (i*6+j) u (by rw[yt9 ns lvs i j hl hil hj];exact hu)
  have h2:((Aq g 0):Addr).add (i*6+j)=(Aq g (i*6+j)):=by unfold Addr.add;split<;>simp_all
  rw[h2]at h1;exact h1
 simp only[Nat.zero_add];exact⟨q 0 _ (by omega) rfl,q 1 _ (by omega) rfl,q 2 _ (by omega) rfl,q 3 _ (by omega) rfl,q 4 _ (by omega) rfl,q 5 _ (by omega) rfl⟩
def zh1{lv:Value}{row:Option Nat}(h:Zv w.heap.size w lv xs)(c0:xs≠[]->lv.ownBlock≠row)(hg:w.grownBy w' row):Zv w'.heap.size w' lv xs:=by
 obtain⟨ao,cap,rfl,hc,hl,hx⟩:=h;refine⟨ao,cap,rfl,hc,hl,λb0=>?_⟩;obtain⟨b,off,rfl,hb,a0⟩:=hx b0;refine⟨b,off,rfl,Qj hb hg.size,λi hi=>?_⟩;exact hg.cell (a0 i hi) (by simpa [Value.ownBlock] using c0 b0)
def zx0{lv:Value}(h:Zv w.heap.size w lv xs)(hb:Bq w w'):Zv w'.heap.size w' lv xs:=(h.below hb).mono hb.size
def yr7{lv:Value}(h:Zv w.heap.size w lv xs)(o:Obj):Zv (w.alloc o).heap.size (w.alloc o) lv xs:=zx0 h (bA)
def ztx{lv:Value}(h:Zv w.heap.size w lv xs)(a0:xs≠[]):∃b,lv.ownBlock=some b/\b<w.heap.size:=by
 obtain⟨ao,cap,rfl,hc,hl,hx⟩:=h;obtain⟨b,off,rfl,hb,_⟩:=hx a0;exact⟨b,rfl,hb⟩
def Uh{lv:Value}{a:Addr}(h:Zv w.heap.size w lv xs)(c0:xs≠[]->lv.ownBlock≠some a.block):Zv (w.setCell a u).heap.size (w.setCell a u) lv xs:=by
 have hs:(w.setCell a u).heap.size=w.heap.size:=by simp[World.setCell]
 obtain⟨ao,cap,rfl,hc,hl,hx⟩:=h;refine⟨ao,cap,rfl,hc,hl,λb0=>?_⟩;obtain⟨b,off,rfl,hb,a0⟩:=hx b0;refine⟨b,off,rfl,by omega,λi hi=>?_⟩;rw[Qc (w:=w) (Below.heap_setCell w a u b (by have:=c0 b0;simpa [Value.ownBlock] using this))];exact a0 i hi
def zr1{base':Nat}{e':TypeId}{size size':Nat}{v':Value}{n':Nat}{xs xs':List Value}(h:w.ownsRow base e size v n xs)(h':w.ownsRow base' e' size' v' n' xs')(a0:e≠e'):v.ownBlock=none\/v.ownBlock≠v'.ownBlock:=by
 rcases h.2 with⟨rfl,_⟩|⟨g,cap,cur,rfl,hb,hg,_⟩
 ·left;rfl
 right
 rcases h'.2 with⟨rfl,_⟩|⟨g',cap',cur',rfl,hb',hg',_⟩
 ·simp[Value.ownBlock]
 intro hh;simp only[Value.ownBlock,Option.some.injEq]at hh;rw[hh]at hg;rw[hg]at hg';simp only[Option.some.injEq,Obj.cells.injEq]at hg';exact a0 hg'.2.1
def Ug(w:World)(lv:Value)(xs:List Int)(sv nv:Value):Prop:=Zv w.heap.size w lv xs/\(xs≠[]->lv.ownBlock≠sv.ownBlock/\lv.ownBlock≠nv.ownBlock)
def Ug.first{lv nv:Value}(h:Ug w lv xs sv nv)(hg:w.grownBy w' sv.ownBlock)(hw:sv'.ownBlock=sv.ownBlock\/sv'.ownBlock=some w.heap.size):Ug w' lv xs sv' nv:=by
 refine⟨zh1 h.1 (λhx=>(h.2 hx).1) hg,λhx=>⟨?_,(h.2 hx).2⟩⟩;rcases hw with hw|hw
 ·rw[hw];exact(h.2 hx).1
 obtain⟨b,hb,a0⟩:=ztx h.1 hx;rw[hw,hb];intro hh;simp at hh;omega
def Ug.second{lv nv:Value}(h:Ug w lv xs sv nv)(hg:w.grownBy w' nv.ownBlock)(hw:nv'.ownBlock=nv.ownBlock\/nv'.ownBlock=some w.heap.size):Ug w' lv xs sv nv':=by
 refine⟨zh1 h.1 (λhx=>(h.2 hx).2) hg,λhx=>⟨(h.2 hx).1,?_⟩⟩;rcases hw with hw|hw
 ·rw[hw];exact(h.2 hx).2
 obtain⟨b,hb,a0⟩:=ztx h.1 hx;rw[hw,hb];intro hh;simp at hh;omega
def Ug.alloc{w:World}{lv sv nv:Value}{xs:List Int}(h:Ug w lv xs sv nv)(o:Obj):Ug (w.alloc o) lv xs sv nv:=⟨yr7 h.1 o,h.2⟩
def Ug.below{lv nv:Value}(h:Ug w lv xs sv nv)(hb:Bq w w'):Ug w' lv xs sv nv:=⟨zx0 h.1 hb,h.2⟩
def Ug.new{lv nv:Value}(h:Zv w'.heap.size w' lv xs)(hf:∀b,lv.ownBlock=some b->w.heap.size<=b)(hs:∀b,sv.ownBlock=some b->b<w.heap.size)(hn:∀b,nv.ownBlock=some b->b<w.heap.size):Ug w' lv xs sv nv:=by
 refine⟨h,λhx=>?_⟩;obtain⟨b,hb,a0⟩:=ztx h hx;have:=hf b hb;refine⟨λhh=>?_,λhh=>?_⟩
 ·have:=hs b (hh.symm.trans hb);omega
 have:=hn b (hh.symm.trans hb);omega
def Ug.set{lv nv:Value}{a:Addr}(h:Ug w lv xs sv nv)(a0:xs≠[]->lv.ownBlock≠some a.block):Ug (w.setCell a u) lv xs sv nv:=⟨Uh h.1 a0,h.2⟩
structure Fam(w wr:World)(lv cv:Value)(fam:List (Value×List Int))(sv nv:Value)(n1 n2:Nat)(xs ys:List Value):Prop where
 hs:wr.ownsRow (w.heap.size+2) 3 1 sv n1 xs
 hn:wr.ownsRow (w.heap.size+2) 176 6 nv n2 ys
 aK:∀p,p∈fam->Ug wr p.1 p.2 sv nv/\(p.2≠[]->∀b,p.1.ownBlock=some b->w.heap.size+2<=b)
 c0:wr.cell? (Aq (w.heap.size+1) 0)=some lv
 c1:wr.cell? (Aq (w.heap.size+1) 1)=some cv
 d0:wr.cell? (Aq w.heap.size 0)=some Zq
 d1:wr.cell? (Aq w.heap.size 1)=some Zq
 f0:∀j,wr.frozen? (Aq w.heap.size j)=false
 f1:∀j,wr.frozen? (Aq (w.heap.size+1) j)=false
 hb:Bq w wr
 hz:w.heap.size+2<=wr.heap.size
section
variable{lv:Value}{fam:List (Value×List Int)}{nv:Value}{xs:List Value}
def Fam.below(h:Fam w wr lv cv fam sv nv n1 n2 xs ys)(hb:Bq wr w'):Fam w w' lv cv fam sv nv n1 n2 xs ys:=by
 have q:∀b o,b<wr.heap.size->w'.cell? (Aq b o)=wr.cell? (Aq b o):=λb o a0=>hb.cell (p:=(Aq b o)) a0;have f:∀b o,b<wr.heap.size->w'.frozen? (Aq b o)=wr.frozen? (Aq b o):=λb o a0=>hb.frozen (p:=(Aq b o)) a0;have hz:=h.hz;have cF:=hb.size;have og:wr.grownBy w' none:=⟨hb.os,hb.tape,hb.output,hb.size,λk hk _=>hb.block k hk⟩;exact⟨h.hs.kept og (by cases sv.ownBlock<;>simp),h.hn.kept og (by cases nv.ownBlock<;>simp),λp hp=>⟨(h.aK p hp).1.below hb,(h.aK p hp).2⟩,(q _ _ (by omega)).trans h.c0,(q _ _ (by omega)).trans h.c1,(q _ _ (by omega)).trans h.d0,(q _ _ (by omega)).trans h.d1,λj=>(f _ _ (by omega)).trans (h.f0 j),λj=>(f _ _ (by omega)).trans (h.f1 j),h.hb.trans (hb.mono (by omega)),by omega⟩
def Fam.alloc(h:Fam w wr lv cv fam sv nv n1 n2 xs ys)(o:Obj):Fam w (wr.alloc o) lv cv fam sv nv n1 n2 xs ys:=h.below (bA)
def Fam.drew(h:Fam w wr lv cv fam sv nv n1 n2 xs ys):Fam w wr.drew lv cv fam sv nv n1 n2 xs ys:=h.below (dA)
def Fam.add(h:Fam w wr lv cv fam sv nv n1 n2 xs ys){l:List Int}{N:Nat}(hi:Zv wr.heap.size wr lvn l)(hf:∀b,lvn.ownBlock=some b->N<=b)(a0:∀b,sv.ownBlock=some b->b<N)(b0:∀b,nv.ownBlock=some b->b<N)(hN:w.heap.size+2<=N):Fam w wr lv cv (fam++[(lvn,l)]) sv nv n1 n2 xs ys:=by
 refine⟨h.hs,h.hn,λp hp=>?_,h.c0,h.c1,h.d0,h.d1,h.f0,h.f1,h.hb,h.hz⟩;simp only[List.mem_append,List.mem_singleton]at hp;rcases hp with hp|rfl
 ·exact h.aK p hp
 refine⟨⟨hi,λhx=>?_⟩,λ_ b hb=>by have:=hf b hb;omega⟩;obtain⟨b,hb,e0⟩:=ztx hi hx;have:=hf b hb;exact⟨λhh=>by have:=a0 b (hh.symm.trans hb);omega,λhh=>by have:=b0 b (hh.symm.trans hb);omega⟩
def Fam.nj(h:Fam w wr lv cv fam sv nv n1 n2 xs ys):(∀b,b<w.heap.size+2->some b≠sv.ownBlock)/\(∀b,b<w.heap.size+2->some b≠nv.ownBlock):=
 ⟨λb hb hh=>by have:=(h.hs.lt b hh.symm).1;omega,λb hb hh=>by have:=(h.hn.lt b hh.symm).1;omega⟩
def Fam.first(h:Fam w wr lv cv fam sv nv n1 n2 xs ys){sv':Value}{n1':Nat}{xs':List Value}(ho:w'.ownsRow (w.heap.size+2) 3 1 sv' n1' xs')(hg:wr.grownBy w' sv.ownBlock)(hw:sv'.ownBlock=sv.ownBlock\/sv'.ownBlock=some wr.heap.size):Fam w w' lv cv fam sv' nv n1' n2 xs' ys:=by
 have hz:=h.hz;have a0:=h.nj.1;have f:∀b j,b<w.heap.size+2->w'.frozen? (Aq b j)=wr.frozen? (Aq b j):=λb j b0=>Qd (w:=wr) (hg.block b (by omega) (a0 b b0));refine⟨ho,h.hn.kept hg ?_,λp hp=>⟨(h.aK p hp).1.first hg hw,(h.aK p hp).2⟩,hg.cell h.c0 (a0 _ (by simp)),hg.cell h.c1 (a0 _ (by simp)),hg.cell h.d0 (a0 _ (by simp)),hg.cell h.d1 (a0 _ (by simp)),λj=>(f _ _ (by omega)).trans (h.f0 j),λj=>(f _ _ (by omega)).trans (h.f1 j),h.hb.grown hg (by omega) (λg hgg=>by have:=(h.hs.lt g hgg).1;omega),by have:=hg.size;omega⟩;exact zr1 h.hn h.hs (by decide)
def Fam.second(h:Fam w wr lv cv fam sv nv n1 n2 xs ys){nv':Value}{n2':Nat}{ys':List Value}(ho:w'.ownsRow (w.heap.size+2) 176 6 nv' n2' ys')(hg:wr.grownBy w' nv.ownBlock)(hw:nv'.ownBlock=nv.ownBlock\/nv'.ownBlock=some wr.heap.size):Fam w w' lv cv fam sv nv' n1 n2' xs ys':=by
 have hz:=h.hz;have a0:=h.nj.2;have f:∀b j,b<w.heap.size+2->w'.frozen? (Aq b j)=wr.frozen? (Aq b j):=λb j b0=>Qd (w:=wr) (hg.block b (by omega) (a0 b b0));refine⟨h.hs.kept hg ?_,ho,λp hp=>⟨(h.aK p hp).1.second hg hw,(h.aK p hp).2⟩,hg.cell h.c0 (a0 _ (by simp)),hg.cell h.c1 (a0 _ (by simp)),hg.cell h.d0 (a0 _ (by simp)),hg.cell h.d1 (a0 _ (by simp)),λj=>(f _ _ (by omega)).trans (h.f0 j),λj=>(f _ _ (by omega)).trans (h.f1 j),h.hb.grown hg (by omega) (λg hgg=>by have:=(h.hn.lt g hgg).1;omega),by have:=hg.size;omega⟩;exact zr1 h.hs h.hn (by decide)
def Fam.store(h:Fam w wr lv cv fam sv nv n1 n2 xs ys)(u:Value):Fam w (wr.setCell (Aq (w.heap.size+1) 1) u) lv u fam sv nv n1 n2 xs ys:=by
 have hz:=h.hz
 have hs:(wr.setCell (Aq (w.heap.size+1) 1) u).heap.size=wr.heap.size:=by simp[World.setCell]
 have q:∀j,(wr.setCell (Aq (w.heap.size+1) 1) u).cell? (Aq w.heap.size j)=wr.cell? (Aq w.heap.size j):=λj=>by apply Qg;intro hh;injection hh with h2;omega
 refine⟨ownsRow_setCell_below h.hs (by simp) u,ownsRow_setCell_below h.hn (by simp) u,λp hp=>⟨(h.aK p hp).1.set (λhx=>?_),(h.aK p hp).2⟩,?_,World.cell?_setCell_same' _ _ _ (by simp[h.c1]),(q 0).trans h.d0,(q 1).trans h.d1,λj=>by rw[World.frozen?_setCell];exact h.f0 j,λj=>by rw[World.frozen?_setCell];exact h.f1 j,h.hb.setCell (by simp) u,by omega⟩
 ·intro hh
  have h3:w.heap.size+2<=w.heap.size+1:=(h.aK p hp).2 hx _ hh;omega
 have h4:(wr.setCell (Aq (w.heap.size+1) 1) u).cell? (Aq (w.heap.size+1) 0)=wr.cell? (Aq (w.heap.size+1) 0):=by
  apply Qg;intro hh;injection hh with _ h2;exact absurd h2 (by decide)
 rw[h4];exact h.c0
end
def Vu:List Fl.ar->List Value->List (Value×List Int)
 |n::ns,lv::lvs=>(lv,n.aU)::Vu ns lvs
 |_,_=>[]
def zv1:∀(ns:List Fl.ar) (lvs:List Value) (n:Fl.ar) (lv:Value),lvs.length=ns.length->Vu (ns++[n]) (lvs++[lv])=Vu ns lvs++[(lv,n.aU)]
 |[],[],n,lv,_=>rfl
 |m::ns,l::lvs,n,lv,h=>by simp only[List.cons_append,Vu,zv1 ns lvs n lv (by simpa using h)]
def zy4:∀(ns:List Fl.ar) (lvs:List Value) (i:Nat),lvs.length=ns.length->i<ns.length->(lvs.getD i Zq,(Fl.nth ns i).aU)∈Vu ns lvs
 |n::ns,lv::lvs,0,_,_=>by simp[Vu,Fl.nth]
 |n::ns,lv::lvs,i+1,h,hi=>by
  have:=zy4 ns lvs i (by simpa using h) (by simpa using hi);simp only[Vu,List.mem_cons];right;exact this
structure zv2(s:List UInt8)(M q0:Nat)(w:World)(lv:Value)(ls:List Int)(wr:World)(k q:Nat)(sv nv:Value)(st:List Int)(acc:List Fl.ar)(lvs:List Value):Prop where
 hk:k<=M
 hq:q<=s.length
 cG:st.length=k
 eL:acc.length=k
 fN:lvs.length=k
 eP:Fl.cK s M 0 q0 [] []=Fl.cK s (M - k) k q st acc
 hf:Fam w wr lv nv ((lv,ls)::Vu acc lvs) sv nv k k (st.map (Value.int .i64)) (flat acc lvs)
def zv2.nodes{lv:Value}{nv:Value}(h:zv2 s M q0 w lv ls wr k q sv nv st acc lvs):Yv wr.heap.size wr nv acc:=
 zy3 (by rw[h.eL];exact h.hf.hn) (by rw[h.eL,h.fN]) (λi hi=>(h.hf.aK _ (by simp only[List.mem_cons];right;exact zy4 acc lvs i (by rw[h.eL,h.fN]) hi)).1.1)
def zv2.am{lv:Value}{nv:Value}(h:zv2 s M q0 w lv ls wr k q sv nv st acc lvs):Zv wr.heap.size wr lv ls:=(h.hf.aK (lv,ls) (by simp)).1.1
def Fam.aV{lv:Value}{fam:List (Value×List Int)}{nv:Value}{xs:List Value}(h:Fam w wr lv cv fam sv nv n1 n2 xs ys)(u u':Value):
  ((wr.setCell (Aq w.heap.size 0) u).setCell (Aq w.heap.size 1) u').ownsRow (w.heap.size+2) 176 6 nv n2 ys/\
  ∀p,p∈fam->Zv ((wr.setCell (Aq w.heap.size 0) u).setCell (Aq w.heap.size 1) u').heap.size ((wr.setCell (Aq w.heap.size 0) u).setCell (Aq w.heap.size 1) u') p.1 p.2:=by
 refine⟨ownsRow_setCell_below (ownsRow_setCell_below h.hn (by simp) u) (by simp) u',λp hp=>?_⟩
 have a0:p.2≠[]->p.1.ownBlock≠some w.heap.size:=λhx hh=>by
  have h3:w.heap.size+2<=w.heap.size:=(h.aK p hp).2 hx _ hh;omega
 exact Uh (Uh (h.aK p hp).1.1 a0) a0
def zv2.bE{lv:Value}{nv:Value}(h:zv2 s M q0 w lv ls wr k q sv nv st acc lvs)(hb:Bq wr w')(u u':Value):
  Zv ((w'.setCell (Aq w.heap.size 0) u).setCell (Aq w.heap.size 1) u').heap.size ((w'.setCell (Aq w.heap.size 0) u).setCell (Aq w.heap.size 1) u') lv ls/\
  Yv ((w'.setCell (Aq w.heap.size 0) u).setCell (Aq w.heap.size 1) u').heap.size ((w'.setCell (Aq w.heap.size 0) u).setCell (Aq w.heap.size 1) u') nv acc:=by
 have hr:=(h.hf.below hb).aV u u';exact⟨hr.2 (lv,ls) (by simp),zy3 (by rw[h.eL];exact hr.1) (by rw[h.eL,h.fN]) (λi hi=>hr.2 _ (by simp only[List.mem_cons];right;exact zy4 acc lvs i (by rw[h.eL,h.fN]) hi))⟩
def Uo{size:Nat}{xs:List Value}(h:w.ownsRow base e size v n xs):∃ao cap,v=.slice ao n cap:=by
 rcases h.2 with⟨rfl,rfl⟩|⟨g,cap,cur,rfl,_⟩
 ·exact⟨_,_,rfl⟩
 exact⟨_,_,rfl⟩
def ytz(vs:List Value):∀j u,vs[j]?=some u->(w.alloc (.cells vs.toArray e)).cell? (((Aq w.heap.size 0):Addr).add j)=some u:=by
 intro j u hj
 have h2:((Aq w.heap.size 0):Addr).add j=(Aq w.heap.size j):=by unfold Addr.add;split<;>simp_all
 rw[h2,World.cell?_alloc_new];simpa using hj
def zv2.step{lv:Value}{nv:Value}{nd:Fl.ar}{af fb:Int}(h:zv2 s M q0 w lv ls wr k q sv nv st acc lvs)(b0:k<M)(ho:Fl.one s q k=(nd,af,fb))(c0:0<=af)(a0:af<=s.length)
  (hf:Fam w w' lv nv' (((lv,ls)::Vu acc lvs)++[(lvn,nd.aU)]) sv' nv' (k+1) (k+1) (st.map (Value.int .i64)++[Iq (q:Int)]) (flat acc lvs++Yh nd lvn)):
  zv2 s M q0 w lv ls w' (k+1) af.toNat sv' nv' (st++[(q:Int)]) (acc++[nd]) (lvs++[lvn]):=by
 refine⟨by omega,by omega,by simp[h.cG],by simp[h.eL],by simp[h.fN],?_,?_⟩
 ·rw[h.eP,show M - k=(M - (k+1))+1 from by omega];simp only[Fl.cK,ho];rw[if_neg (by omega)]
 have bj:lvs.length=acc.length:=by rw[h.eL,h.fN]
 rw[zv1 _ _ _ _ bj,zr0 _ _ _ _ bj,List.map_append];exact hf
def Ze(e p:Int):List PanicEntry:=[{v:=.iface 144 (.agg #[Iq e,Iq p]),recovered:=false}]
structure Mv(w w':World)(b:Nat):Prop where
 g:w.grownBy w' (some b)
 o:∀j,j≠1->w'.cell? (Aq b j)=w.cell? (Aq b j)
 f:∀j,w'.frozen? (Aq b j)=w.frozen? (Aq b j)
def Mv.refl(w:World)(b:Nat):Mv w w b:=⟨World.grownBy.refl _ _,λ_ _=>rfl,λ_=>rfl⟩
def Mv.trans{w w1 w2:World}{b:Nat}(h:Mv w w1 b)(k:Mv w1 w2 b):Mv w w2 b:=
 ⟨⟨k.g.os.trans h.g.os,k.g.tape.trans h.g.tape,k.g.output.trans h.g.output,Nat.le_trans h.g.size k.g.size,λi hi a0=>(k.g.block i (Qj hi h.g.size) a0).trans (h.g.block i hi a0)⟩,λj hj=>(k.o j hj).trans (h.o j hj),λj=>(k.f j).trans (h.f j)⟩
def Mv.lt(h:Mv w w' b)(hb:b<w.heap.size):b<w'.heap.size:=Qj hb h.g.size
def Mv.set(w:World)(b:Nat)(u:Value):Mv w (w.setCell (Aq b 1) u) b:=by
 refine⟨⟨rfl,rfl,rfl,by simp[World.setCell],λk hk a0=>Below.heap_setCell _ _ _ _ (by intro h;exact a0 (by rw[h]))⟩,λj hj=>?_,λj=>World.frozen?_setCell _ _ _ _⟩;apply Qg;intro hh;injection hh with _ h2;exact hj h2.symm
def Mv.cW(h:Bq w w')(hb:b<w.heap.size):Mv w w' b:=
 ⟨⟨h.os,h.tape,h.output,h.size,λk hk _=>h.block k hk⟩,λj _=>h.cell (p:=(Aq b j)) hb,λj=>h.frozen (p:=(Aq b j)) hb⟩
def Mv.grown{row:Option Nat}(h:w.grownBy w' row)(hr:some b≠row)(hb:b<w.heap.size)(aK:∀k,row=some k->w.heap.size<=k):Mv w w' b:=
 ⟨⟨h.os,h.tape,h.output,h.size,λk hk _=>h.block k hk (λe=>by have:=aK k e.symm;omega)⟩,λj _=>Qc (w:=w) (h.block b hb hr),λj=>Qd (w:=w) (h.block b hb hr)⟩
def Mv.below(h:Mv w w' b)(hB:B<=b)(hb:b<w.heap.size):Below B w w':=
 ⟨h.g.os,h.g.tape,h.g.output,h.g.size,λk hk=>h.g.block k (by omega) (by simp;omega)⟩
def Mv.dT{row:Option Nat}(h:Mv w w1 b)(g:w1.grownBy w2 row)(hb:b<w.heap.size)(aK:∀k,row=some k->w.heap.size<=k):Mv w w2 b:=by
 have a0:∀k,k<w.heap.size->some k≠row:=λk hk e=>by have:=aK k e.symm;omega
 have hz:=h.g.size;refine⟨⟨g.os.trans h.g.os,g.tape.trans h.g.tape,g.output.trans h.g.output,Nat.le_trans h.g.size g.size,λk hk b0=>(g.block k (by omega) (a0 k hk)).trans (h.g.block k hk b0)⟩,λj hj=>?_,λj=>?_⟩
 ·exact(Qc (w:=w1) (a:=(Aq b j)) (g.block b (by omega) (a0 b hb))).trans (h.o j hj)
 exact(Qd (w:=w1) (a:=(Aq b j)) (g.block b (by omega) (a0 b hb))).trans (h.f j)
def Mv.alloc{w w1:World}{b:Nat}(h:Mv w w1 b)(hb:b<w.heap.size)(o:Obj):Mv w (w1.alloc o) b:=h.dT (World.grownBy_alloc w1 o none) hb (λk e=>by cases e)
def Mv.ef(h:Mv w w1 b)(k:Bq w1 w2)(hb:b<w.heap.size):Mv w w2 b:=h.trans (Mv.cW k (h.lt hb))
def Mv.drew{w w':World}{b:Nat}(h:Mv w w' b):Mv w w'.drew b:=h.trans ⟨⟨rfl,rfl,rfl,Nat.le_refl _,λ_ _ _=>rfl⟩,λ_ _=>rfl,λ_=>rfl⟩
def Mv.drewN{w w':World}{b:Nat}(h:Mv w w' b)(n:Nat):Mv w (w'.drewN n) b:=h.trans ⟨⟨rfl,rfl,rfl,Nat.le_refl _,λ_ _ _=>rfl⟩,λ_ _=>rfl,λ_=>rfl⟩
structure Dr(w:World)(b:Nat)(ao:Option Addr)(cap:Nat)(s:List UInt8)(p:Nat):Prop where
 c0:w.cell? (Aq b 0)=some (.slice ao s.length cap)
 c1:w.cell? (Aq b 1)=some (Iq p)
 f1:w.frozen? (Aq b 1)=false
 hb:s≠[]->∃bb bo,ao=some (Aq bb bo)/\bb≠b/\∀i,i<s.length->w.cell? (Aq bb (bo+i))=some (.int .u8 (s.getD i 0).toNat)
 hp:p<=s.length
 hs:s.length<=1099511627776
def Dr.lt(h:Dr w b ao cap s p):b<w.heap.size:=Qe w _ h.c0
def Dr.move(h:Dr w b ao cap s p)(m:Mv w w' b)(c:w'.cell? (Aq b 1)=some (Iq q))(hq:q<=s.length):Dr w' b ao cap s q:=by
 refine⟨(m.o 0 (by decide)).trans h.c0,c,(m.f 1).trans h.f1,λb0=>?_,hq,h.hs⟩;obtain⟨bb,bo,ha,a0,hc⟩:=h.hb b0;exact⟨bb,bo,ha,a0,λi hi=>m.g.cell (hc i hi) (by simpa using a0)⟩
def Dr.set{w:World}{b:Nat}{ao:Option Addr}{cap:Nat}{s:List UInt8}{p q:Nat}(h:Dr w b ao cap s p)(hq:q<=s.length):Dr (w.setCell (Aq b 1) (Iq q)) b ao cap s q:=
 h.move (Mv.set _ _ _) (World.cell?_setCell_same' _ _ _ (by simp[h.c1])) hq
def Dr.at{w:World}{b:Nat}{ao:Option Addr}{cap:Nat}{s:List UInt8}{p:Nat}(h:Dr w b ao cap s p)(a0:p<s.length):∃bb bo,ao=some (Aq bb bo)/\bb≠b/\w.cell? (Aq bb (bo+p))=some (.int .u8 (s.getD p 0).toNat):=by
 obtain⟨bb,bo,ha,b0,hc⟩:=h.hb (by intro hh;rw[hh]at a0;simp at a0);exact⟨bb,bo,ha,b0,hc p a0⟩
namespace Fl
def dF(s:List UInt8)(p:Nat)(lo hi:Int):Int×Int×Int:=
 if(num s p).2.1<0 then(0,-1,(num s p).2.2) else if(num s p).1<lo\/hi<(num s p).1 then(0,-1,(p:Int)) else((num s p).1,(num s p).2.1,0)
end Fl
section
def Uu(a0:o.guard=none)(t:TypeId)(parts:Array (Nat×Operand))(ho:o.op=.build t parts)(arr:Array Value)
  (eP:(Instr.build t (parts.map λ(i,x)=>(i,a.eval x))).run P w=.ok (.agg arr) w) (h:wpList P ops Q rest (a.put o.dst (.agg arr)) w):wpList P ops Q (o::rest) a w:=
 wpList_plain a0 λ_ hK=>by
  have b0:=hK _ _ h;unfold Oper.wp execOp;simp only[ho,Sem.run_bind,eP,Result.andThen_ok,Sem.run_pure];exact b0
def Jk(a0:o.guard=none)(x y:Operand)(t:TypeId)(ho:o.op=.store t x y)(w:World)(c c':Array Value)(hx:a.eval x=Pq w.heap.size)(hy:a.eval y=.agg c')
  (hi:(P.info? t).map (·.size)=some c'.size) (cF:c.size=c'.size) (h1:c'.all (·.oneCell')=true) (h:wpList P ops Q rest (a.put o.dst undef) (w.alloc (.cells c' t))):wpList P ops Q (o::rest) a (w.alloc (.cells c t)):=
 wpList_plain a0 λ_ hK=>by
  have b0:=hK _ _ h;unfold Oper.wp execOp;simp only[ho,Sem.run_bind,hx,hy,run_storeAt_new w t c c' hi cF h1,Result.andThen_ok,Sem.run_pure];exact b0
def zx9(a0:o.guard=none)(x y:Operand)(t:TypeId)(ho:o.op=.store t x y)(w:World)(N:Nat)(c c':Array Value)(hx:a.eval x=Pq N)(hN:w.heap.size=N)(hy:a.eval y=.agg c')
  (hi:(P.info? t).map (·.size)=some c'.size) (cF:c.size=c'.size) (h1:c'.all (·.oneCell')=true) (h:wpList P ops Q rest (a.put o.dst undef) (w.alloc (.cells c' t))):wpList P ops Q (o::rest) a (w.alloc (.cells c t)):=by
 subst hN;exact Jk a0 x y t ho w c c' hx hy hi cF h1 h
def zf7(x y:Operand)(t:TypeId)(ho:o.op=.store t x y)(w:World)(c c':Array Value)(hx:a.eval x=Pq w.heap.size)(hy:a.eval y=.agg c')
  (hi:(P.info? t).map (·.size)=some c'.size) (cF:c.size=c'.size) (h1:c'.all (·.oneCell')=true):(execOp a.eval o).run P (w.alloc (.cells c t))=.ok .skip (w.alloc (.cells c' t)):=by
 unfold execOp;simp only[ho,Sem.run_bind,hx,hy,run_storeAt_new w t c c' hi cF h1,Result.andThen_ok,Sem.run_pure]
def zr2(a0:o.guard=none)(x:Operand)(t:TypeId)(ho:o.op=.load t x)(g:Nat)(hx:a.eval x=Pq g)(arr:Array Value)(te:TypeId)(fr:Nat×Nat)(hg:w.heap[g]?=some (.cells arr te fr))
  (d:TypeDesc) (hu:P.underlying t=some d) (hd:(match d with| .struct _| .array _ _=>true|_=>false)=true) (hi:(P.info? t).map (·.size)=some arr.size) (h:wpList P ops Q rest (a.put o.dst (.agg arr)) w):wpList P ops Q (o::rest) a w:=
 wpList_plain a0 λ_ hK=>by
  have b0:=hK _ _ h;unfold Oper.wp execOp;simp only[ho,Sem.run_bind,hx,Instr.loadAt,Instr.sureAddr,Sem.run_pure,Result.andThen_ok,run_loadVar_row w g te t arr fr d hg hu hd hi];exact b0
def Xn(a0:o.guard=none)(x y:Operand)(t:TypeId)(ho:o.op=.store t x y)(g:Nat)(hx:a.eval x=Pq g)(c c':Array Value)(hy:a.eval y=.agg c')(te:TypeId)(hg:w.heap[g]?=some (.cells c te (0,0)))
  (hi:(P.info? t).map (·.size)=some c'.size) (cF:c.size=c'.size) (h1:c'.all (·.oneCell')=true) (h:wpList P ops Q rest (a.put o.dst undef) (w.setRow g c')):wpList P ops Q (o::rest) a w:=
 wpList_plain a0 λ_ hK=>by
  have b0:=hK _ _ h;unfold Oper.wp execOp;simp only[ho,Sem.run_bind,hx,hy,Instr.storeAt,Instr.sureAddr,Sem.run_pure,Result.andThen_ok,run_storeVar_row w g te t c c' hg hi cF h1];exact b0
def Xh{L:Act->Prop}(a0:o.guard=none)(v:Value)(eP:(execOp a.eval o).run P w=.ok (.value v) w)(h:wpStill P ops w L rest (a.put o.dst v)):wpStill P ops w L (o::rest) a:=by
 unfold wpStill;simp only[Region.wanted,a0,if_true,Oper.still,eP,Oper.stillUpon,true_and];exact h
def zz5(x:Operand)(t:TypeId)(ho:o.op=.load t x)(g:Nat)(hx:a.eval x=Pq g)(arr:Array Value)(te:TypeId)(fr:Nat×Nat)(hg:w.heap[g]?=some (.cells arr te fr))
  (d:TypeDesc) (hu:P.underlying t=some d) (hd:(match d with| .struct _| .array _ _=>true|_=>false)=true) (hi:(P.info? t).map (·.size)=some arr.size):(execOp a.eval o).run P w=.ok (.value (.agg arr)) w:=by
 unfold execOp;simp only[ho,Sem.run_bind,hx,Instr.loadAt,Instr.sureAddr,Sem.run_pure,Result.andThen_ok,run_loadVar_row w g te t arr fr d hg hu hd hi]
def Jx(m x:Operand)(t:TypeId)(ho:o.op=.lookup t m x true)(mv kv v:Value)(hm:a.eval m=mv)(hx:a.eval x=kv)(eP:(Instr.lookup t mv kv true).run P w=.ok v w):(execOp a.eval o).run P w=.ok (.value v) w:=by
 unfold execOp;simp only[ho,Sem.run_bind,hm,hx,eP,Result.andThen_ok,Sem.run_pure]
def zow{fn:Func}{p:Tmp}{ty:TypeId}(h:fn.results=#[.cell p ty])(tmps:Array Value)(w:World)(ad:Addr)(v:Value)(ha:tmps.getD p undef=.pointer (some ad))(hl:(loadVar ty ad).run P w=.ok v w):
  (results fn tmps).run P w=.ok v w:=by
 have ha':tmps[p]?.getD undef=.pointer (some ad):=by rw[<-ha,Array.getD_eq_getD_getElem?]
 simp only[results,h];simp[Sem.run_bind,Result.andThen,ha',asAddr,hl]
end
end Go.Proofs.YtfhpibppblbgcaaGreatDoor
