import Derived.Test.YtaaejabalinojaaGreatDoorM02
import Derived.Deep.QuietTactic
import Derived.BigQuiet
import Derived.Deep.RegionWith
set_option linter.all false
set_option maxRecDepth 100000
set_option maxHeartbeats 40000000
namespace Go.Proofs.YtaaejabalinojaaGreatDoor
open Go.RowKit Go.Proofs.Tryz
def zqz{W w1:World}(hb:Below W.heap.size W w1):(∀b o,b<W.heap.size->w1.cell? ⟨b,o,none⟩=W.cell? ⟨b,o,none⟩)/\(∀b o,b<W.heap.size->w1.frozen? ⟨b,o,none⟩=W.frozen? ⟨b,o,none⟩):=
 ⟨λb o h=>hb.cell (p:=⟨b,o,none⟩) h,λb o h=>hb.frozen (p:=⟨b,o,none⟩) h⟩
def zg4(s:ByteArray)(k:Nat)(h:k<s.size):s.data.toList.drop k=s[k]::s.data.toList.drop (k+1):=by
 rw[List.drop_eq_getElem_cons (by simpa using h)];rfl
def zv7{r:Int×Int×Int}{a b c:Int}(h:r=(a,b,c)):Ending.returned (.tuple #[.int .i64 a,.int .i64 b,.int .i64 c])=.returned (.tuple #[.int .i64 r.1,.int .i64 r.2.1,.int .i64 r.2.2]):=by
 subst h;rfl
def ztz(s:ByteArray)(p q a x:Nat):Prop:=p<=q/\q<=p+4/\q<=s.size/\a<2147483648/\x=128 ^ (q - p)/\Fl.num s.data.toList p=Fl.numG p s.size (q - p) a x (s.data.toList.drop q)
def zg5{s:ByteArray}{p q a x:Nat}(h:ztz s p q a x)(a0:q<s.size)(hb:(s[q].toNat=0/\p<q)\/2147483648<=a+s[q].toNat % 128*x\/(q=p+4/\128<=s[q].toNat)):Fl.num s.data.toList p=(0,-1,(p:Int)):=by
 obtain⟨h1,h2,h3,h4,h5,h6⟩:=h;rw[h6,zg4 s q a0];simp only[Fl.numG];rw[if_pos (by omega)]
def zk0{s:ByteArray}{p q a x:Nat}(h:ztz s p q a x)(a0:q<s.size)(hb:¬((s[q].toNat=0/\p<q)\/2147483648<=a+s[q].toNat % 128*x\/(q=p+4/\128<=s[q].toNat)))(hc:s[q].toNat<128):Fl.num s.data.toList p=(((a+s[q].toNat % 128*x:Nat):Int),((q+1:Nat):Int),0):=by
 obtain⟨h1,h2,h3,h4,h5,h6⟩:=h;rw[h6,zg4 s q a0];simp only[Fl.numG];rw[if_neg (by omega),if_pos hc]
 congr 2;omega
def yjx{s:ByteArray}{p q a x:Nat}(h:ztz s p q a x)(a0:q<s.size)(hb:¬((s[q].toNat=0/\p<q)\/2147483648<=a+s[q].toNat % 128*x\/(q=p+4/\128<=s[q].toNat)))(hc:¬s[q].toNat<128):ztz s p (q+1) (a+s[q].toNat % 128*x) (x*128):=by
 obtain⟨h1,h2,h3,h4,h5,h6⟩:=h
 have b0:q≠p+4:=by intro e;exact hb (Or.inr (Or.inr ⟨e,by omega⟩))
 refine⟨by omega,by omega,by omega,by omega,?_,?_⟩
 ·rw[h5,show q+1 - p=(q - p)+1 from by omega,Nat.pow_succ]
 rw[h6,zg4 s q a0];simp only[Fl.numG];rw[if_neg (by omega),if_neg hc,show q+1 - p=(q - p)+1 from by omega]
def yjw{s:ByteArray}{p q a x:Nat}(h:ztz s p q a x)(a0:¬q<s.size):Fl.num s.data.toList p=(0,-1,(s.size:Int)):=by
 obtain⟨h1,h2,h3,h4,h5,h6⟩:=h;rw[h6,List.drop_of_length_le (by simp;omega)];rfl
def yjv{s:ByteArray}{p q a x:Nat}(h:ztz s p q a x):x<=268435456:=by
 rw[h.2.2.2.2.1];exact Nat.le_trans (Nat.pow_le_pow_right (by omega) (show q - p<=4 from by have:=h.2.1;omega)) (by decide)
def yi0(s:ByteArray)(p:Nat)(w:World)(hs:s.size<=4611686018427387904)(hp:p<=s.size):
  Calls prog 15 #[.string s,.int .i64 p] w λe w'=>e=.returned (.tuple #[.int .i64 (Fl.num s.data.toList p).1,.int .i64 (Fl.num s.data.toList p).2.1,.int .i64 (Fl.num s.data.toList p).2.2])/\w'=w:=by
 go_enter func15,ntmps15
 go_wp2
 go_loop [7,8,9] (λv u i=>∃q a x:Nat,ztz s p q a x/\v=.int .i64 a/\u=.int .i64 x/\i=.int .i64 q) (λ_ _ i=>s.size - (intOf i).toNat)
 case atStart=>exact⟨p,0,1,⟨by omega,by omega,hp,by omega,by simp,by simp[Fl.num]⟩,rfl,rfl,rfl⟩
 case round=>
  obtain⟨q,a,x,hr,rfl,rfl,rfl⟩:=hrel;have hx:=yjv hr;have ha:=hr.2.2.2.1;have c0:=hr.1;have d0:=hr.2.1;have HR:=Zz hr;clear hr
  by_cases a0:q<s.size
  ·have hc:s[q].toNat<256:=s[q].toNat_lt
   have e0:(0:Int)<=(s[q].toNat:Int) % 128*(x:Int):=Int.mul_nonneg (by omega) (by omega);have f0:(s[q].toNat:Int) % 128*(x:Int)<=127*268435456:=Int.mul_le_mul (by omega) (by omega) (by omega) (by omega);have b0:(((s[q].toNat % 128*x:Nat)):Int)=(s[q].toNat:Int) % 128*(x:Int):=(by simp);have HM:=Zz b0;clear b0
   by_cases h1:s[q].toNat=0
   ·have b1:((s[q].toNat:Int)==0)=true:=beq_iff_eq.2 (by omega)
    by_cases h2:p<q
    ·go_wp2
     go_ret3
     exact⟨zv7 (zg5 HR.out a0 (by first|omega|(have:=H4.out;omega))),rfl⟩
    have g0:q=p:=(by omega);subst g0;clear e0 f0 c0 d0 h2;have h3:¬(2147483648:Int)<=(a:Int):=(by omega);go_wp2
    go_ret3
    exact⟨zv7 (by rw[zk0 HR.out a0 (by have hz:s[q].toNat % 128*x=0:=(by rw[h1];simp);omega) (by omega)];simp[h1]),rfl⟩
   have b1:((s[q].toNat:Int)==0)=false:=beq_eq_false_iff_ne.2 (by omega)
   by_cases h3:(2147483648:Int)<=(a:Int)+(s[q].toNat:Int) % 128*(x:Int)
   ·go_wp2
    go_ret3
    exact⟨zv7 (zg5 HR.out a0 (by have:=HM.out;omega)),rfl⟩
   by_cases h4:q=p+4
   ·have b4:((q:Int)==(p:Int)+4)=true:=beq_iff_eq.2 (by omega)
    have H4:=Zz h4;clear h4
    by_cases h5:128<=s[q].toNat
    ·go_wp2
     go_ret3
     exact⟨zv7 (zg5 HR.out a0 (by first|omega|(have:=H4.out;omega))),rfl⟩
    go_wp2
    go_ret3
    exact⟨zv7 (by rw[zk0 HR.out a0 (by have:=HM.out;omega) (by omega)];simp),rfl⟩
   have b4:((q:Int)==(p:Int)+4)=false:=beq_eq_false_iff_ne.2 (by omega)
   by_cases h5:128<=s[q].toNat
   ·go_wp2
    go_round
    case rel=>exact⟨q+1,_,_,yjx HR.out a0 (by have:=HM.out;omega) (by omega),by simp,by simp,by go_num⟩
    case measure=>simp[intOf];omega
   go_wp2
   go_ret3
   exact⟨zv7 (by rw[zk0 HR.out a0 (by have:=HM.out;omega) (by omega)];simp),rfl⟩
  go_wp2
  go_ret3
  exact⟨zv7 (yjw HR.out a0),rfl⟩
def Tryz.infoInt:(Tryz.prog.info? 3).map (λi=>(i.zero,i.size,i.bytes))=some (some (.int .i64 0),1,8):=by kernel_rfl
def num_l(s:ByteArray)(p:Nat)(w:World)(hs:s.size<=4611686018427387904)(hp:p<=s.size)(v n b:Int)(h:Fl.num s.toList p=(v,n,b)):
  Calls prog 15 #[.string s,.int .i64 p] w λe w'=>e=.returned (.tuple #[.int .i64 v,.int .i64 n,.int .i64 b])/\w'=w:=by
 have:=yi0 s p w hs hp;rw[<-ByteArray.toList_eq,h]at this;exact this
def yzz{v:Value}{r:List Int×Int×Int}{l:List Int}{a b:Int}(h:r=(l,a,b)):Ending.returned (.tuple #[v,.int .i64 a,.int .i64 b])=.returned (.tuple #[v,.int .i64 r.2.1,.int .i64 r.2.2]):=by
 subst h;rfl
def zw9{w:World}{e:TypeId}{x:Value}:∀j u,[x][j]?=some u->(w.alloc (.cells #[x] e)).cell? ((⟨w.heap.size,0,none⟩:Addr).add j)=some u:=by
 intro j u hj
 match j,hj with
 |0,hj=>simp at hj;subst hj;simp[Addr.add]
def znw(s:ByteArray)(p n k q:Nat)(xs:List Int):Prop:=k<=n/\q<=s.size/\xs.length=k/\Fl.nums s.toList p n=Fl.numsA s.toList (n - k) q xs
def yi1{s:ByteArray}{p n k q:Nat}{xs:List Int}(h:znw s p n k q xs)(hk:k<n){v m b:Int}(hn:Fl.num s.toList q=(v,m,b))(hm:m<0):Fl.nums s.toList p n=([],-1,b):=by
 obtain⟨h1,h2,h3,h4⟩:=h;rw[h4,show n - k=(n - k - 1)+1 from by omega];simp only[Fl.numsA,hn,if_pos hm]
def ym0{s:ByteArray}{p n k q:Nat}{xs:List Int}(h:znw s p n k q xs)(hk:k<n){v m b:Int}(hn:Fl.num s.toList q=(v,m,b))(hm:¬m<0):znw s p n (k+1) m.toNat (xs++[v]):=by
 obtain⟨h1,h2,h3,h4⟩:=h
 have hl:q<=s.toList.length:=by rw[ByteArray.toList_eq];simpa using h2
 have a0:=Fl.num_ok s.toList q hl;rw[hn]at a0
 have hz:s.toList.length=s.size:=by rw[ByteArray.toList_eq];simp
 rw[hz]at a0;refine⟨by omega,by simp only at a0;omega,by simp[h3],?_⟩;rw[h4,show n - k=(n - (k+1))+1 from by omega];simp only[Fl.numsA,hn,if_neg hm]
def ym1(s:ByteArray)(p n:Nat)(w:World)(hs:s.size<=4611686018427387904)(hp:p<=s.size)(hn:n<=1000):
  Calls prog 16 #[.string s,.int .i64 p,.int .i64 n] w λe w'=>∃v,e=.returned (.tuple #[v,.int .i64 (Fl.nums s.toList p n).2.1,.int .i64 (Fl.nums s.toList p n).2.2])/\w'.ownsRow w.heap.size 3 1 v (Fl.nums s.toList p n).1.length ((Fl.nums s.toList p n).1.map (Value.int .i64))/\Below w.heap.size w w':=by
 obtain⟨i0,hi,j0,k0,l0⟩:=info_parts Tryz.infoInt
 go_enter func16,ntmps16
 go_wp2
 go_loopw [1,9,10] (λt v i wr=>∃(k q:Nat) (xs:List Int),znw s p n k q xs/\t=.int .i64 q/\i=.int .i64 k/\wr.ownsRow w.heap.size 3 1 v xs.length (xs.map (Value.int .i64))/\Below w.heap.size w wr) (λ_ _ i _=>n - (intOf i).toNat)
 case atStart=>exact⟨0,p,[],⟨by omega,hp,rfl,rfl⟩,rfl,rfl,World.ownsRow_nil _ _ _ _,Below.refl _ _⟩
 case round=>
  obtain⟨k,q,xs,hr,rfl,rfl,b0,c0⟩:=hrel;have HR:=Zz hr;have q0:=hr.1;have m0:=hr.2.1;have r0:xs.length<=1000:=(by have:=hr.2.2.1;omega);have n0:=c0.size;clear hr
  by_cases h0:k<n
  ·obtain⟨v,m,b,f0⟩:∃v m b,Fl.num s.toList q=(v,m,b):=⟨_,_,_,rfl⟩
   have HC:=num_l s q wr hs m0 v m b f0;have HN:=Zz f0;have g0:=Zz HC;clear f0 HC
   by_cases hm:m<0
   ·go_wp2_with (go_at_call 15;refine(g0.out).mono ?_;rintro e w' ⟨rfl,rfl⟩)
    have a0:=yi1 HR.out h0 HN.out hm
    go_ret3
    exact⟨_,yzz a0,by rw[a0];exact World.ownsRow_nil _ _ _ _,c0⟩
   go_wp2_with (first|(go_at_call 15;refine(g0.out).mono ?_;rintro e w' ⟨rfl,rfl⟩)|(at_builtin;refine wpList_append_own _ rfl _ _ 30 rfl w.heap.size 3 i0 (.int .i64 0) 1 8 underlying30 hi j0 k0 l0 rfl (by decide) _ _ _ rfl (b0.alloc _) ⟨_,0,none⟩ 1 1 [.int .i64 v] rfl rfl zw9 ?c2 ?c3 ?c4 ?c5 ?_))
   case c2=>intro u hu;simp at hu;subst hu;rfl
   case c3=>unfold maxLen;omega
   case c4=>omega
   case c5=>simp;omega
   intro v' w1 hown' d0 _;have e0:=ym0 HR.out h0 HN.out (by omega);have HS:=Zz e0;have o0:Below w.heap.size w w1:=(c0.alloc n0 _).grown d0 (by simp;omega) (λg hg=>(b0.lt g hg).1);have p0:w1.ownsRow w.heap.size 3 1 v' (xs++[v]).length ((xs++[v]).map (Value.int .i64)):=(by simpa using hown');clear e0 hown' d0 b0 g0;go_wp2
   go_roundw
   case rel=>exact⟨k+1,m.toNat,xs++[v],HS.out,by rw[Int.toNat_of_nonneg (by omega)],by go_num,p0,o0⟩
   case measure=>simp[intOf];omega
  have hkn':k=n:=(by omega);have a0:Fl.nums s.toList p n=(xs,(q:Int),0):=by
   have:=HR.out.2.2.2;rw[this,hkn',Nat.sub_self];rfl
  have HF:=Zz a0;clear a0 hkn';go_wp2
  go_ret3
  exact⟨_,yzz HF.out,by rw[HF.out];exact b0,c0⟩
def Js(n:Fl.Node)(lv:Value)(B:Nat)(w:World)(hB:B<=w.heap.size)(hl:Zv B w lv n.list):
  Calls prog 32 #[Vr n lv] w λe w'=>∃v,e=.returned v/\Zv w'.heap.size w' v (Yw n)/\Below w.heap.size w w':=by
 unfold Vr;obtain⟨ao,cap,rfl,hc,hm,hx⟩:=hl;have HL:Hid (Zv B w (.slice ao n.list.length cap) n.list):=⟨ao,cap,rfl,hc,hm,hx⟩;clear hx;obtain⟨k,l,a,b,c,ls⟩:=n;simp only at HL⊢
 by_cases k2:k=2
 ·subst k2
  go_enter func32,ntmps32
  go_wp2;go_ret;exact⟨_,rfl,Zv.fresh2 _ _ (Yw ⟨2,l,a,b,c,ls⟩) _ _ _ rfl rfl (by simp[Yw,maxLen]),(bA).alloc (by simp) _⟩
 by_cases k3:k=3
 ·subst k3
  go_enter func32,ntmps32
  go_wp2;go_ret;exact⟨_,rfl,Zv.fresh2 _ _ (Yw ⟨3,l,a,b,c,ls⟩) _ _ _ rfl rfl (by simp[Yw,maxLen]),(bA).alloc (by simp) _⟩
 by_cases k4:k=4
 ·subst k4
  go_enter func32,ntmps32
  go_wp2;go_ret;exact⟨_,rfl,Zv.fresh2 _ _ (Yw ⟨4,l,a,b,c,ls⟩) _ _ _ rfl rfl (by simp[Yw,maxLen]),(bA).alloc (by simp) _⟩
 by_cases k5:k=5
 ·subst k5
  go_enter func32,ntmps32
  go_wp2;go_ret;exact⟨_,rfl,Zv.fresh2 _ _ (Yw ⟨5,l,a,b,c,ls⟩) _ _ _ rfl rfl (by simp[Yw,maxLen]),(bA).alloc (by simp) _⟩
 by_cases k6:k=6
 ·subst k6
  go_enter func32,ntmps32
  go_wp2;go_ret;exact⟨_,rfl,Zv.fresh2 _ _ (Yw ⟨6,l,a,b,c,ls⟩) _ _ _ rfl rfl (by simp[Yw,maxLen]),(bA).alloc (by simp) _⟩
 by_cases k7:k=7
 ·subst k7
  go_enter func32,ntmps32
  go_wp2;go_ret;exact⟨_,rfl,(HL.out.mono hB).below (bA)|>.mono (by simp),bA⟩
 have b2:(k==2)=false:=beq_eq_false_iff_ne.2 k2;have b3:(k==3)=false:=beq_eq_false_iff_ne.2 k3;have b4:(k==4)=false:=beq_eq_false_iff_ne.2 k4;have b5:(k==5)=false:=beq_eq_false_iff_ne.2 k5;have b6:(k==6)=false:=beq_eq_false_iff_ne.2 k6;have b7:(k==7)=false:=beq_eq_false_iff_ne.2 k7
 have hp:Yw ⟨k,l,a,b,c,ls⟩=[]:=by simp[Yw,k2,k3,k4,k5,k6,k7]
 have HP:=Zz hp;clear hp k2 k3 k4 k5 k6 k7
 go_enter func32,ntmps32
 go_wp2;go_ret;exact⟨_,rfl,by rw[HP.out];exact Zv.nil _ _,bA⟩
def eq_not{x y:Fl.Node}(h:¬x=y):Fl.eqNode x y=false:=by
 rw[Bool.eq_false_iff];intro hh;exact h ((Fl.eqNode_iff x y).1 hh)
def Below.drewN_of{B:Nat}{w w':World}(h:Below B w w')(m:Nat):Below B w (w'.drewN m):=by
 induction m with
 |zero=>exact h
 |succ m ih=>exact ih.drew
def yq0(k l a b c k' l' a' b' c':Int)(n n':Nat)(ao ao':Option Addr)(cap cap':Nat)(w:World)(h:¬(k=k'/\l=l'/\a=a'/\b=b'/\c=c'/\n=n')):
  Calls prog 34 #[.agg #[.int .i64 k,.int .i64 l,.int .i64 a,.int .i64 b,.int .i64 c,.slice ao n cap],.agg #[.int .i64 k',.int .i64 l',.int .i64 a',.int .i64 b',.int .i64 c',.slice ao' n' cap']] w
   λe w'=>e=.returned (.bool false)/\Below w.heap.size w w':=by
 by_cases h1:k=k'
 ·have e1:(k !=k')=false:=by simp[h1]
  by_cases h2:l=l'
  ·have e2:(l !=l')=false:=by simp[h2]
   by_cases h3:a=a'
   ·have e3:(a !=a')=false:=by simp[h3]
    by_cases h4:b=b'
    ·have e4:(b !=b')=false:=by simp[h4]
     by_cases h5:c=c'
     ·have e5:(c !=c')=false:=by simp[h5]
      have e6:((n:Int) !=(n':Int))=true:=(by rw[bne_iff_ne];intro hh;exact h ⟨h1,h2,h3,h4,h5,by omega⟩);clear h h1 h2 h3 h4 h5
      go_enter func34,ntmps34
      go_wp2;go_ret;exact⟨rfl,(bA).alloc (by simp) _⟩
     have e5:(c !=c')=true:=(by rw[bne_iff_ne];exact h5);clear h h1 h2 h3 h4 h5
     go_enter func34,ntmps34
     go_wp2;go_ret;exact⟨rfl,(bA).alloc (by simp) _⟩
    have e4:(b !=b')=true:=(by rw[bne_iff_ne];exact h4);clear h h1 h2 h3 h4
    go_enter func34,ntmps34
    go_wp2;go_ret;exact⟨rfl,(bA).alloc (by simp) _⟩
   have e3:(a !=a')=true:=(by rw[bne_iff_ne];exact h3);clear h h1 h2 h3
   go_enter func34,ntmps34
   go_wp2;go_ret;exact⟨rfl,(bA).alloc (by simp) _⟩
  have e2:(l !=l')=true:=(by rw[bne_iff_ne];exact h2);clear h h1 h2
  go_enter func34,ntmps34
  go_wp2;go_ret;exact⟨rfl,(bA).alloc (by simp) _⟩
 have e1:(k !=k')=true:=by rw[bne_iff_ne];exact h1
 clear h h1
 go_enter func34,ntmps34
 go_wp2;go_ret;exact⟨rfl,(bA).alloc (by simp) _⟩
def yq1(k l a b c:Int)(xs ys:List Int)(n:Nat)(hx:xs.length=n)(hy:ys.length=n)(hm:n<=9223372036854775807)(ao ao':Option Addr)(cap cap':Nat)(w:World)
  (c0:∀o o',xs≠[]->∃p q,ao=some ⟨p,q,none⟩/\∀i,i<n->((w.alloc o).alloc o').cell? ⟨p,q+i,none⟩=some (.int .i64 (xs.getD i 0)))
  (d0:∀o o',ys≠[]->∃p q,ao'=some ⟨p,q,none⟩/\∀i,i<n->((w.alloc o).alloc o').cell? ⟨p,q+i,none⟩=some (.int .i64 (ys.getD i 0))):
  Calls prog 34 #[.agg #[.int .i64 k,.int .i64 l,.int .i64 a,.int .i64 b,.int .i64 c,.slice ao n cap],.agg #[.int .i64 k,.int .i64 l,.int .i64 a,.int .i64 b,.int .i64 c,.slice ao' n cap']] w
   λe w'=>e=.returned (.bool (xs==ys))/\Below w.heap.size w w':=by
 have HX:=Zz c0;have HY:=Zz d0;have e0:=Zz hx;have f0:=Zz hy;clear c0 d0 hx hy
 go_enter func34,ntmps34
 go_wp2
 go_loopw [5] (λi wr=>∃(j:Nat),j<=n/\i=.int .i64 j/\(∃m,wr=((w.alloc (.cells #[.int .i64 k,.int .i64 l,.int .i64 a,.int .i64 b,.int .i64 c,.slice ao n cap] 59)).alloc (.cells #[.int .i64 k,.int .i64 l,.int .i64 a,.int .i64 b,.int .i64 c,.slice ao' n cap'] 59)).drewN m)/\∀i,i<j->xs.getD i 0=ys.getD i 0) (λi _=>n - (intOf i).toNat)
 case atStart=>exact⟨0,by omega,rfl,⟨0,rfl⟩,λi hi=>by omega⟩
 case round=>
  obtain⟨j,hj,rfl,⟨m,rfl⟩,a0⟩:=hrel;have HS:=Zz a0;clear a0
  by_cases g0:j<n
  ·obtain⟨p,q,rfl,hc⟩:=HX.out (.cells #[.int .i64 k,.int .i64 l,.int .i64 a,.int .i64 b,.int .i64 c,.slice ao n cap] 59) (.cells #[.int .i64 k,.int .i64 l,.int .i64 a,.int .i64 b,.int .i64 c,.slice ao' n cap'] 59) (by intro h;have:=e0.out;rw[h]at this;simp at this;omega)
   obtain⟨p',q',rfl,hc'⟩:=HY.out (.cells #[.int .i64 k,.int .i64 l,.int .i64 a,.int .i64 b,.int .i64 c,.slice (some ⟨p,q,none⟩) n cap] 59) (.cells #[.int .i64 k,.int .i64 l,.int .i64 a,.int .i64 b,.int .i64 c,.slice ao' n cap'] 59) (by intro h;have:=f0.out;rw[h]at this;simp at this;omega);have j0:=hc j g0;have hcj':=hc' j g0;obtain⟨x,hx⟩:=nmE (xs.getD j 0);obtain⟨y,hy⟩:=nmE (ys.getD j 0);rw[<-hx]at j0;rw[<-hy]at hcj';have h0:=Zz hx;have i0:=Zz hy;have l0:(j:Int)<(n:Int):=(by omega);clear hc hc' hx hy HX HY
   go_wp2_with fail
   go_quiet (fail)
   go_wp2
   ·have b0:(x !=y)=true:=by assumption
    go_ret;refine⟨Yo ?_,by repeat (first|exact(bA).alloc (by simp) _|apply Below.drewN_of)⟩;rw[eq_comm,Qh];intro hh;rw[bne_iff_ne]at b0;apply b0;rw[h0.out,i0.out,hh]
   have b0:(x !=y)=false:=(by assumption)
   go_roundw
   case rel=>exact⟨j+1,by omega,by go_num,⟨_,rfl⟩,λi hi=>by
    by_cases k0:i<j
    ·exact HS.out i k0
    have:i=j:=by omega
    subst this;rw[<-h0.out,<-i0.out];simpa using b0⟩
   case measure=>simp[intOf];omega
  have hall:xs=ys:=by
   have h1:=e0.out;have h2:=f0.out;have h3:=HS.out;apply List.ext_getElem (by omega)
   intro i hi hi';have:=h3 i (by omega);simpa [Qa,hi,hi'] using this
  have HE:=Zz hall;clear hall;go_wp2;go_ret;exact⟨Yo (by rw[HE.out];simp),Below.drewN_of ((bA).alloc (by simp) _) _⟩
def ym2(x y:Fl.Node)(lv lv':Value)(B:Nat)(w:World)(hB:B<=w.heap.size)(hx:Zv B w lv x.list)(hy:Zv B w lv' y.list):
  Calls prog 34 #[Vr x lv,Vr y lv'] w λe w'=>e=.returned (.bool (Fl.eqNode x y))/\Below w.heap.size w w':=by
 obtain⟨k,l,a,b,c,xs⟩:=x;obtain⟨k',l',a',b',c',ys⟩:=y;unfold Vr;simp only at hx hy⊢
 by_cases h:k=k'/\l=l'/\a=a'/\b=b'/\c=c'/\xs.length=ys.length
 ·obtain⟨rfl,rfl,rfl,rfl,rfl,hlen⟩:=h
  have he:Fl.eqNode ⟨k,l,a,b,c,xs⟩ ⟨k,l,a,b,c,ys⟩=(xs==ys):=(by simp[Fl.eqNode]);rw[he];have c0:∀o o',Below B w ((w.alloc o).alloc o'):=λo o'=>((Below.refl _ _).alloc hB _).alloc (by simp;omega) _;obtain⟨ao,cap,rfl,_,hm,_⟩:=id hx;obtain⟨ao',cap',rfl,_,hm',_⟩:=id hy;rw[<-hlen];refine yq1 k l a b c xs ys xs.length rfl hlen.symm (by unfold maxLen at hm;omega) ao ao' cap cap' w ?_ ?_
  ·intro o o' b0
   obtain⟨ao2,cap2,hv,_,_,hc⟩:=hx.below (c0 o o');obtain⟨p,q,ha,_,a0⟩:=hc b0;simp only[Value.slice.injEq]at hv;exact⟨p,q,hv.1.trans ha,a0⟩
  intro o o' b0;obtain⟨ao2,cap2,hv,_,_,hc⟩:=hy.below (c0 o o');obtain⟨p,q,ha,_,a0⟩:=hc b0;simp only[Value.slice.injEq]at hv;exact⟨p,q,hv.1.trans ha,λi hi=>a0 i (by omega)⟩
 obtain⟨ao,cap,rfl,_⟩:=hx;obtain⟨ao',cap',rfl,_⟩:=hy;rw[eq_not (by intro hh;simp only[Fl.Node.mk.injEq]at hh;obtain⟨a1,a2,a3,a4,a5,a6⟩:=hh;exact h ⟨a1,a2,a3,a4,a5,by rw[a6]⟩)];exact yq0 k l a b c k' l' a' b' c' _ _ ao ao' cap cap' w h
def yw6(k l a b c F:Int)(n:Nat)(ao:Option Addr)(cap:Nat)(w:World)(hn:n<=9223372036854775807)
  (H:Hid (∀w,Calls prog 31 #[.int .i64 k] w λe w'=>e=.returned (.int .i64 F)/\w'=w)) (h:F= -2\/l<0\/2147483648<=l\/16<n):
  Calls prog 33 #[.agg #[.int .i64 k,.int .i64 l,.int .i64 a,.int .i64 b,.int .i64 c,.slice ao n cap]] w λe w'=>e=.returned (.bool false)/\Below w.heap.size w w':=by
 by_cases h0:F= -2
 ·have b0:(F== -2)=true:=by simp[h0]
  clear h0 h
  go_enter func33,ntmps33
  go_wp2_with (go_at_call 31;refine(H.out _).mono ?_;rintro e w' ⟨rfl,rfl⟩)
  go_ret;exact⟨rfl,bA⟩
 have b0:(F== -2)=false:=by simp[h0]
 by_cases h1:l<0
 ·clear h0 h
  go_enter func33,ntmps33
  go_wp2_with (go_at_call 31;refine(H.out _).mono ?_;rintro e w' ⟨rfl,rfl⟩)
  go_ret;exact⟨rfl,bA⟩
 by_cases h2:2147483648<=l
 ·clear h0 h
  go_enter func33,ntmps33
  go_wp2_with (go_at_call 31;refine(H.out _).mono ?_;rintro e w' ⟨rfl,rfl⟩)
  go_ret;exact⟨rfl,bA⟩
 have h3:(16:Int)<(n:Int):=by omega
 clear h0 h
 go_enter func33,ntmps33
 go_wp2_with (go_at_call 31;refine(H.out _).mono ?_;rintro e w' ⟨rfl,rfl⟩)
 go_ret;exact⟨rfl,bA⟩
def zk1{F i x:Int}(hF:F<=i)(h:(x<0\/2147483648<=x)\/(x !=0)=true):Fl.okV F i x=false:=by
 unfold Fl.okV Fl.inR;rcases h with(h|h)|h
 ·rw[decide_eq_false (by omega:¬0<=x)];simp
 ·rw[decide_eq_false (by omega:¬x<2147483648)];simp
 rw[decide_eq_false (by omega:¬i<F)];rw[bne_iff_ne]at h;simp[h]
def zk2{F i x:Int}(h:2147483648<=x):Fl.okV F i x=false:=by
 unfold Fl.okV Fl.inR;rw[decide_eq_false (by omega:¬x<2147483648)];simp
def zk3{F i x:Int}(h:x<0):Fl.okV F i x=false:=by
 unfold Fl.okV Fl.inR;rw[decide_eq_false (by omega:¬0<=x)];simp
def zi9{F i x:Int}(h0:0<=x)(h1:x<2147483648)(h:i<F\/(x !=0)=false):Fl.okV F i x=true:=by
 unfold Fl.okV Fl.inR;rw[decide_eq_true h0,decide_eq_true h1];rcases h with h|h
 ·simp[h]
 have:x=0:=by simpa using h
 simp[this]
def zg6{F i x:Int}(h0:0<=x)(h1:x<2147483648)(h:¬F<=i):Fl.okV F i x=true:=zi9 h0 h1 (Or.inl (by omega))
def yu5{x:Int}(h:x<0\/2147483648<=x):Fl.inR x=false:=by
 unfold Fl.inR;rcases h with h|h
 ·rw[decide_eq_false (by omega:¬0<=x)];simp
 rw[decide_eq_false (by omega:¬x<2147483648)];simp
def ym3{x:Int}(h:0<=x/\x<2147483648):Fl.inR x=true:=by
 unfold Fl.inR;rw[decide_eq_true h.1,decide_eq_true h.2];rfl
def zy2{xs:List Int}{j:Nat}(h:j<xs.length):xs.getD j 0∈xs:=by
 rw[Qa,Qb h];exact List.getElem_mem h
def yu6{xs:List Int}{j:Nat}{p:Int->Bool}(h:j<xs.length)(hp:p (xs.getD j 0)=false):xs.all p=false:=by
 rw[Bool.eq_false_iff];intro hh;rw[List.all_eq_true.1 hh _ (zy2 h)]at hp;exact absurd hp (by simp)
def yi2{xs:List Int}{p:Int->Bool}(h:∀t,t<xs.length->p (xs.getD t 0)=true):xs.all p=true:=by
 rw[List.all_eq_true];intro x hx;obtain⟨i,hi,rfl⟩:=List.getElem_of_mem hx;have:=h i hi;rwa [Qa,Qb hi]at this
def abc(a b c:Int)(j:Nat):Int:=if j=0 then a else if j=1 then b else c
def yq2(k l a b c F:Int)(xs:List Int)(n:Nat)(ao:Option Addr)(cap:Nat)(w:World)(hx:xs.length=n)(hF: -2<F)(j0:F<=3)(k0:¬l<0)(l0:¬2147483648<=l)(hn:n<=16)
  (H:Hid (∀w,Calls prog 31 #[.int .i64 k] w λe w'=>e=.returned (.int .i64 F)/\w'=w))
  (d0:∀o o',xs≠[]->∃p q,ao=some ⟨p,q,none⟩/\∀i,i<n->((w.alloc o).alloc o').cell? ⟨p,q+i,none⟩=some (.int .i64 (xs.getD i 0))):
  Calls prog 33 #[.agg #[.int .i64 k,.int .i64 l,.int .i64 a,.int .i64 b,.int .i64 c,.slice ao n cap]] w
   λe w'=>e=.returned (.bool (Fl.okV F 0 a && (Fl.okV F 1 b && (Fl.okV F 2 c && (xs.all Fl.inR && (decide (F= -1)||decide (xs=[])))))))/\Below w.heap.size w w':=by
 have HX:=Zz d0;have a0:=Zz hx;clear d0 hx;have b0:(F== -2)=false:=beq_eq_false_iff_ne.2 (by omega)
 have g0:¬(16:Int)<(n:Int):=by omega
 go_enter func33,ntmps33
 go_wp2_with (go_at_call 31;refine(H.out _).mono ?_;rintro e w' ⟨rfl,rfl⟩)
 go_loop [5] (λi=>∃j:Nat,j<=3/\i=.int .i64 j/\∀t:Nat,t<j->Fl.okV F t (abc a b c t)=true) (λi=>3 - (intOf i).toNat)
 case atStart=>exact⟨0,by omega,rfl,λt ht=>by omega⟩
 case round=>
  obtain⟨j,hj,rfl,hall⟩:=hrel;have HA:=Zz hall;clear hall;rcases(show j=0\/j=1\/j=2\/j=3 from by omega) with rfl|rfl|rfl|rfl
  ·go_wp2
   ·have hb:Fl.okV F 0 a=false:=zk1 (by assumption) (by assumption)
    go_ret;exact⟨Yo (by rw[hb];simp),(bA).alloc (by simp) _⟩
   ·have hb:Fl.okV F 0 a=true:=zi9 (by assumption) (by assumption) (Or.inr (And.right (a:=0<=a/\a<2147483648) (by assumption)))
    go_round
    case rel=>exact⟨1,by omega,rfl,λt ht=>by
     by_cases h:t<0
     ·exact HA.out t h
     have:t=0:=by omega
     subst this;simpa [abc] using hb⟩
    case measure=>simp[intOf]
   ·have hb:Fl.okV F 0 a=true:=zg6 (by assumption) (by assumption) (by assumption)
    go_round
    case rel=>exact⟨1,by omega,rfl,λt ht=>by
     by_cases h:t<0
     ·exact HA.out t h
     have:t=0:=by omega
     subst this;simpa [abc] using hb⟩
    case measure=>simp[intOf]
   ·have hb:Fl.okV F 0 a=false:=zk2 (by assumption)
    go_ret;exact⟨Yo (by rw[hb];simp),(bA).alloc (by simp) _⟩
   have hb:Fl.okV F 0 a=false:=zk3 (by assumption);go_ret;exact⟨Yo (by rw[hb];simp),(bA).alloc (by simp) _⟩
  ·go_wp2
   ·have hb:Fl.okV F 1 b=false:=zk1 (by assumption) (by assumption)
    go_ret;exact⟨Yo (by rw[hb];simp),(bA).alloc (by simp) _⟩
   ·have hb:Fl.okV F 1 b=true:=zi9 (by assumption) (by assumption) (Or.inr (And.right (a:=0<=b/\b<2147483648) (by assumption)))
    go_round
    case rel=>exact⟨2,by omega,rfl,λt ht=>by
     by_cases h:t<1
     ·exact HA.out t h
     have:t=1:=by omega
     subst this;simpa [abc] using hb⟩
    case measure=>simp[intOf]
   ·have hb:Fl.okV F 1 b=true:=zg6 (by assumption) (by assumption) (by assumption)
    go_round
    case rel=>exact⟨2,by omega,rfl,λt ht=>by
     by_cases h:t<1
     ·exact HA.out t h
     have:t=1:=by omega
     subst this;simpa [abc] using hb⟩
    case measure=>simp[intOf]
   ·have hb:Fl.okV F 1 b=false:=zk2 (by assumption)
    go_ret;exact⟨Yo (by rw[hb];simp),(bA).alloc (by simp) _⟩
   have hb:Fl.okV F 1 b=false:=zk3 (by assumption);go_ret;exact⟨Yo (by rw[hb];simp),(bA).alloc (by simp) _⟩
  ·go_wp2
   ·have hb:Fl.okV F 2 c=false:=zk1 (by assumption) (by assumption)
    go_ret;exact⟨Yo (by rw[hb];simp),(bA).alloc (by simp) _⟩
   ·have hb:Fl.okV F 2 c=true:=zi9 (by assumption) (by assumption) (Or.inr (And.right (a:=0<=c/\c<2147483648) (by assumption)))
    go_round
    case rel=>exact⟨3,by omega,rfl,λt ht=>by
     by_cases h:t<2
     ·exact HA.out t h
     have:t=2:=by omega
     subst this;simpa [abc] using hb⟩
    case measure=>simp[intOf]
   ·have hb:Fl.okV F 2 c=true:=zg6 (by assumption) (by assumption) (by assumption)
    go_round
    case rel=>exact⟨3,by omega,rfl,λt ht=>by
     by_cases h:t<2
     ·exact HA.out t h
     have:t=2:=by omega
     subst this;simpa [abc] using hb⟩
    case measure=>simp[intOf]
   ·have hb:Fl.okV F 2 c=false:=zk2 (by assumption)
    go_ret;exact⟨Yo (by rw[hb];simp),(bA).alloc (by simp) _⟩
   have hb:Fl.okV F 2 c=false:=zk3 (by assumption);go_ret;exact⟨Yo (by rw[hb];simp),(bA).alloc (by simp) _⟩
  have q0:Fl.okV F 0 a=true:=HA.out 0 (by omega);have q1:Fl.okV F 1 b=true:=HA.out 1 (by omega);have q2:Fl.okV F 2 c=true:=HA.out 2 (by omega);have HQ:Hid ((Fl.okV F 0 a && (Fl.okV F 1 b && (Fl.okV F 2 c && (xs.all Fl.inR && (decide (F= -1)||decide (xs=[]))))))=(xs.all Fl.inR && (decide (F= -1)||decide (xs=[])))):=(by rw[q0,q1,q2];simp[Hid]);clear q0 q1 q2;go_wp2
  go_loop [6] (λi=>∃j:Nat,j<=n/\i=.int .i64 j/\∀t:Nat,t<j->Fl.inR (xs.getD t 0)=true) (λi=>n - (intOf i).toNat)
  case atStart=>exact⟨0,by omega,rfl,λt ht=>by omega⟩
  case round=>
   obtain⟨j,hj,rfl,hall⟩:=hrel;have HB:=Zz hall;clear hall
   by_cases h0:j<n
   ·obtain⟨p,q,rfl,hc⟩:=HX.out (.cells #[.int .i64 k,.int .i64 l,.int .i64 a,.int .i64 b,.int .i64 c,.slice ao n cap] 59) (.cells #[.int .i64 a,.int .i64 b,.int .i64 c] 3) (by intro h;have:=a0.out;rw[h]at this;simp at this;omega)
    have i0:=hc j h0;obtain⟨x,hx⟩:=nmE (xs.getD j 0);rw[<-hx]at i0;have c0:=Zz hx;have m0:(j:Int)<(n:Int):=(by omega);clear hc hx HX;go_wp2
    ·have hb:xs.all Fl.inR=false:=yu6 (j:=j) (by have:=a0.out;omega) (by rw[<-c0.out];exact yu5 (by assumption))
     go_ret;exact⟨Yo (by rw[HQ.out,hb];simp),(bA).alloc (by simp) _⟩
    ·have hb:Fl.inR x=true:=ym3 (by assumption)
     go_round
     case rel=>exact⟨j+1,by omega,by go_num,λt ht=>by
      by_cases h:t<j
      ·exact HB.out t h
      have:t=j:=by omega
      subst this;rw[<-c0.out];exact hb⟩
     case measure=>simp[intOf];omega
    have hb:xs.all Fl.inR=false:=yu6 (j:=j) (by have:=a0.out;omega) (by rw[<-c0.out];exact yu5 (Or.inl (by assumption)));go_ret;exact⟨Yo (by rw[HQ.out,hb];simp),(bA).alloc (by simp) _⟩
   have hb:xs.all Fl.inR=true:=yi2 (λt ht=>HB.out t (by have:=a0.out;omega));have e0:=Zz hb;clear hb;go_wp2
   ·have f0:F= -1:=by assumption
    go_ret;have q0:Fl.okV F 0 a=true:=HA.out 0 (by omega);have q1:Fl.okV F 1 b=true:=HA.out 1 (by omega);have q2:Fl.okV F 2 c=true:=HA.out 2 (by omega);rw[f0]at q0 q1 q2;exact⟨Yo (by rw[q0,q1,q2,e0.out];rfl),(bA).alloc (by simp) _⟩
   have f0:¬F= -1:=(by assumption);go_ret;refine⟨Yo ?_,(bA).alloc (by simp) _⟩;have q0:Fl.okV F 0 a=true:=HA.out 0 (by omega);have q1:Fl.okV F 1 b=true:=HA.out 1 (by omega);have q2:Fl.okV F 2 c=true:=HA.out 2 (by omega);rw[q0,q1,q2,e0.out,Bool.true_and,Bool.true_and,Bool.true_and,Bool.true_and,Bool.eq_iff_iff];have:=a0.out;simp only[Bool.or_eq_true,beq_iff_eq,decide_eq_true_eq];rw[<-List.length_eq_zero_iff];omega
def ym4(x:Fl.Node)(lv:Value)(B:Nat)(w:World)(hB:B<=w.heap.size)(hx:Zv B w lv x.list):
  Calls prog 33 #[Vr x lv] w λe w'=>e=.returned (.bool (Fl.sound x))/\Below w.heap.size w w':=by
 obtain⟨k,l,a,b,c,xs⟩:=x;unfold Vr;simp only at hx⊢;obtain⟨ao,cap,rfl,_,hm,_⟩:=id hx;unfold maxLen at hm;have H:Hid (∀w,Calls prog 31 #[.int .i64 k] w λe w'=>e=.returned (.int .i64 (Fl.fields k))/\w'=w):=λw=>zj2 k w;have hf:=Fl.fields_lt k
 by_cases h:Fl.fields k= -2\/l<0\/2147483648<=l\/16<xs.length
 ·have he:Fl.sound ⟨k,l,a,b,c,xs⟩=false:=by
   unfold Fl.sound Fl.inR;rcases h with h|h|h|h
   ·simp[h]
   ·simp only[decide_eq_false (by omega:¬0<=l)];simp
   ·simp only[decide_eq_false (by omega:¬l<2147483648)];simp
   simp only[decide_eq_false (by omega:¬xs.length<=16)];simp
  rw[he];exact yw6 k l a b c _ _ ao cap w (by omega) H h
 have h1:Fl.fields k≠ -2:=by omega
 have h2:0<=l:=by omega
 have h3:l<2147483648:=by omega
 have h4:xs.length<=16:=by omega
 have he:Fl.sound ⟨k,l,a,b,c,xs⟩=(Fl.okV (Fl.fields k) 0 a && (Fl.okV (Fl.fields k) 1 b && (Fl.okV (Fl.fields k) 2 c && (xs.all Fl.inR && (decide (Fl.fields k= -1)||decide (xs=[])))))):=by
  unfold Fl.sound;simp only[decide_eq_true h1,ym3 ⟨h2,h3⟩,decide_eq_true h4,Bool.true_and]
 rw[he];have b0:∀o o',Below B w ((w.alloc o).alloc o'):=λo o'=>((Below.refl _ _).alloc hB _).alloc (by simp;omega) _;refine yq2 k l a b c _ xs xs.length ao cap w rfl (by omega) hf.2 (by omega) (by omega) h4 H ?_;intro o o' c0;obtain⟨ao2,cap2,hv,_,_,hc⟩:=hx.below (b0 o o');obtain⟨p,q,ha,_,a0⟩:=hc c0;simp only[Value.slice.injEq]at hv;exact⟨p,q,hv.1.trans ha,a0⟩
def zy3(l:List Fl.Node)(k j:Nat):Bool:=(List.range j).any (λj=>decide (k<j) && (Yw (Fl.nth l j)).any (·==(k:Int)))
def yzy(l:List Fl.Node)(k:Nat):zy3 l k (k+1)=false:=by
 unfold zy3;rw[List.any_eq_false];intro x hx
 have:¬k<x:=by simp at hx;omega
 simp[this]
def yw7(l:List Fl.Node)(k j:Nat)(h:k<j):zy3 l k (j+1)=(zy3 l k j||(Yw (Fl.nth l j)).any (·==(k:Int))):=by
 unfold zy3;rw[List.range_succ,List.any_append];simp[h]
def yw8(ns:List Fl.Node)(v:Value)(B:Nat)(w:World)(hB:B<=w.heap.size)(hv:Yv B w v ns):
  Calls prog 18 #[v] w λe w'=>e=.returned (.int .i64 (Fl.shaped ns))/\Below w.heap.size w w':=by
 obtain⟨ao,cap,rfl,hc,hm,hx⟩:=hv;unfold maxLen at hm;have HX:Hid (Yv B w (.slice ao ns.length cap) ns):=⟨ao,cap,rfl,hc,hm,hx⟩;clear hx
 go_enter func18,ntmps18
 go_wp2
 go_loopw [3] (λi wr=>∃k:Nat,k<=ns.length/\i=.int .i64 k/\(∀j,j<k->Fl.bad ns j=false)/\Below w.heap.size w wr) (λi _=>ns.length - (intOf i).toNat)
 case atStart=>exact⟨0,by omega,rfl,λj hj=>by omega,Below.refl _ _⟩
 case round=>
  obtain⟨k,hk,rfl,hno,m0⟩:=hrel;have HN:=Zz hno;clear hno;have U0:=m0.size
  by_cases e0:k<ns.length
  ·obtain⟨b,off,rfl⟩:∃b off,ao=some ⟨b,off,none⟩:=by
    obtain⟨ao',cap',hv',_,_,hx'⟩:=HX.out;obtain⟨b,off,ha,_⟩:=hx' (by intro h;rw[h]at e0;simp at e0);simp only[Value.slice.injEq]at hv';exact⟨b,off,hv'.1.trans ha⟩
   obtain⟨V0,lv,h0,h1,h2,h3,h4,h5,h6⟩:=(HX.out.below (m0.mono hB)).at e0;have HS:Hid (Calls prog 33 #[Vr (Fl.nth ns k) lv] wr λe w'=>e=.returned (.bool (Fl.sound (Fl.nth ns k)))/\Below wr.heap.size wr w'):=ym4 _ _ B _ (by omega) h0;clear h0
   go_wp2_with fail
   refine(HS.out).mono ?_;rintro e w1 ⟨rfl,G0⟩;clear HS h1 h2 h3 h4 h5 h6;have d0:Below w.heap.size w w1:=m0.trans (G0.mono U0);have W0:=d0.size
   by_cases p0:Fl.sound (Fl.nth ns k)=true
   ·rw[p0]
    obtain⟨_,lv1,h0,h1,h2,h3,h4,h5,h6⟩:=(HX.out.below (d0.mono hB)).at e0;have HP:Hid (Calls prog 32 #[Vr (Fl.nth ns k) lv1] w1 λe w'=>∃v,e=.returned v/\Zv w'.heap.size w' v (Yw (Fl.nth ns k))/\Below w1.heap.size w1 w'):=Js _ _ B _ (by omega) h0;have X0:=Zz p0;clear h0 p0
    go_wp2_with fail
    refine(HP.out).mono ?_;rintro e w2 ⟨pv,rfl,z0,H0⟩;clear HP h1 h2 h3 h4 h5 h6;have l0:Below w.heap.size w w2:=d0.trans (H0.mono W0);obtain⟨pao,pcap,rfl,_,A0,q0⟩:=z0;generalize hps:Yw (Fl.nth ns k)=ps at*;have I0:=Zz hps;have r0:=Zz q0;clear hps q0 H0 G0 m0 d0;unfold maxLen at A0;go_wp2
    go_loop [6] (λi=>∃j:Nat,j<=ps.length/\i=.int .i64 j/\∀t,t<j->¬(k:Int)<=ps.getD t 0) (λi=>ps.length - (intOf i).toNat)
    case atStart=>exact⟨0,by omega,rfl,λt ht=>by omega⟩
    case round=>
     obtain⟨j,hj,rfl,J0⟩:=hrel;have B0:=Zz J0;clear J0
     by_cases f0:j<ps.length
     ·obtain⟨pb,po,rfl,Y0,a0⟩:=r0.out (by intro h;rw[h]at f0;simp at f0)
      have C0:=a0 j f0;obtain⟨x,hx⟩:=nmE (ps.getD j 0);rw[<-hx]at C0;have x0:=Zz hx;have Z0:(j:Int)<(ps.length:Int):=(by omega);clear a0 hx
      by_cases a1:(k:Int)<=x
      ·have b0:Fl.bad ns k=true:=by
        have h1:(Yw (Fl.nth ns k)).any (λp=>decide ((k:Int)<=p))=true:=by
         rw[I0.out,List.any_eq_true];exact⟨x,by rw[x0.out];exact zy2 f0,by simpa using a1⟩
        simp[Fl.bad,h1]
       have HF:Hid (Fl.shaped ns=(k:Int)):=(by unfold Fl.shaped;rw[Fl.find_first _ _ k HN.out e0 b0];rfl);clear b0;go_wp2;go_ret;exact⟨Uj HF.out.symm,l0⟩
      go_wp2
      go_round
      case rel=>exact⟨j+1,by omega,by go_num,λt ht=>by
       by_cases h:t<j
       ·exact B0.out t h
       have:t=j:=by omega
       subst this;rw[<-x0.out];omega⟩
      case measure=>simp[intOf];omega
     have s0:(Yw (Fl.nth ns k)).any (λp=>decide ((k:Int)<=p))=false:=by
      rw[I0.out,List.any_eq_false];intro x hx;obtain⟨i,hi,rfl⟩:=List.getElem_of_mem hx;have:=B0.out i (by omega);rw[Qa,Qb hi]at this;simpa using this
     have b1:=Zz s0;clear s0 B0 r0;go_wp2
     go_loopw [7] (λi wr=>∃j:Nat,j<=k/\i=.int .i64 j/\(∀t,t<j->Fl.eqNode (Fl.nth ns t) (Fl.nth ns k)=false)/\Below w.heap.size w wr) (λi _=>k - (intOf i).toNat)
     case atStart=>exact⟨0,by omega,rfl,λt ht=>by omega,l0⟩
     case round=>
      clear l0;obtain⟨i,hi,rfl,K0,n0⟩:=hrel;have L0:=Zz K0;clear K0;have M0:=n0.size
      by_cases c1:i<k
      ·obtain⟨_,li,i0,i1,i2,i3,i4,i5,i6⟩:=(HX.out.below (n0.mono hB)).at (show i<ns.length from by omega)
       obtain⟨_,lk,k0,k1,k2,k3,k4,k5,k6⟩:=(HX.out.below (n0.mono hB)).at e0
       have HE:Hid (∀wz,Below B wr wz->Calls prog 34 #[Vr (Fl.nth ns i) li,Vr (Fl.nth ns k) lk] wz λe w'=>e=.returned (.bool (Fl.eqNode (Fl.nth ns i) (Fl.nth ns k)))/\Below wz.heap.size wz w'):=
        λwz hz=>ym2 _ _ _ _ B _ (by have:=hz.size;omega) (i0.below hz) (k0.below hz)
       clear i0 k0;have n1:(i:Int)<(k:Int):=(by omega);have o1:(i:Int)<(ns.length:Int):=(by omega);have d1:(k:Int)<(ns.length:Int):=(by omega)
       by_cases t0:Fl.eqNode (Fl.nth ns i) (Fl.nth ns k)=true
       ·rw[t0]at HE
        have b0:Fl.bad ns k=true:=by
         have h2:(List.range k).any (λi=>Fl.eqNode (Fl.nth ns i) (Fl.nth ns k))=true:=by
          rw[List.any_eq_true];exact⟨i,by simpa using c1,t0⟩
         simp[Fl.bad,h2]
        have HF:Hid (Fl.shaped ns=(k:Int)):=(by unfold Fl.shaped;rw[Fl.find_first _ _ k HN.out e0 b0];rfl);clear b0 t0
        go_wp2_with fail
        go_region_with (go_at_call 34;refine(HE.out _ (Below.refl _ _).drew).mono ?_;rintro e w4 ⟨rfl,g0⟩)
        all_goals
         go_wp2;go_ret;exact⟨Uj HF.out.symm,n0.trans ((Below.refl _ _).drew.trans (g0.mono M0))⟩
       have heq':Fl.eqNode (Fl.nth ns i) (Fl.nth ns k)=false:=(by simpa using t0);rw[heq']at HE;have e1:=Zz heq';clear t0 heq'
       go_wp2_with fail
       go_region_with (go_at_call 34;refine(HE.out _ (Below.refl _ _).drew).mono ?_;rintro e w4 ⟨rfl,g0⟩)
       all_goals
        go_wp2
        go_roundw
        case rel=>exact⟨i+1,by omega,by go_num,λt ht=>by
         by_cases h:t<i
         ·exact L0.out t h
         have:t=i:=by omega
         subst this;exact e1.out,n0.trans ((Below.refl _ _).drew.trans (g0.mono M0))⟩
        case measure=>simp[intOf];omega
      have b0:Fl.bad ns k=false:=by
       have h2:(List.range k).any (λi=>Fl.eqNode (Fl.nth ns i) (Fl.nth ns k))=false:=by
        rw[List.any_eq_false];intro x hx;rw[L0.out x (by simp at hx;omega)];simp
       simp[Fl.bad,X0.out,b1.out,h2]
      have f1:=Zz b0;clear b0;go_wp2
      go_roundw
      case rel=>exact⟨k+1,by omega,by go_num,λj hj=>by
       by_cases h:j<k
       ·exact HN.out j h
       have:j=k:=by omega
       subst this;exact f1.out,n0⟩
      case measure=>simp[intOf];omega
   have D0:Fl.sound (Fl.nth ns k)=false:=(by simpa using p0);rw[D0];have b0:Fl.bad ns k=true:=(by simp[Fl.bad,D0]);have c0:Fl.shaped ns=(k:Int):=(by unfold Fl.shaped;rw[Fl.find_first _ _ k HN.out e0 b0]);have HF:=Zz c0;clear p0 D0 b0 c0;go_wp2;go_ret;exact⟨Uj HF.out.symm,d0⟩
  have j0:(List.range ns.length).find? (Fl.bad ns)=none:=Fl.find_none _ _ (λj hj=>HN.out j (by omega));have N0:=Zz j0;clear j0 HN;go_wp2
  go_loopw [9] (λi wr=>∃k:Nat,(k=0\/k+1<=ns.length)/\i=.int .i64 k/\(∀j,j<k->(!Fl.used ns j)=false)/\Below w.heap.size w wr) (λi _=>ns.length - (intOf i).toNat)
  case atStart=>exact⟨0,Or.inl rfl,rfl,λj hj=>by omega,m0⟩
  case round=>
   clear m0 hk e0;rename_i kk0 _ _;obtain⟨k2,p1,rfl,v0,g0⟩:=hrel;have E0:=Zz v0;clear v0;have q1:=g0.size
   by_cases d1:(k2:Int)<(ns.length:Int) - 1
   ·go_wp2
    go_loopw [10,11] (λu i wr=>∃j:Nat,k2<j/\j<=ns.length/\i=.int .i64 j/\u=.bool (zy3 ns k2 j)/\Below w.heap.size w wr) (λ_ i _=>ns.length - (intOf i).toNat)
    case atStart=>exact⟨k2+1,by omega,by omega,by go_num,by rw[yzy],g0⟩
    case round=>
     clear g0;obtain⟨j,g1,r1,rfl,rfl,o0⟩:=hrel;have j1:=o0.size
     by_cases f0:j<ns.length
     ·obtain⟨b,off,rfl⟩:∃b off,ao=some ⟨b,off,none⟩:=by
       obtain⟨ao',cap',hv',_,_,hx'⟩:=HX.out;obtain⟨b,off,ha,_⟩:=hx' (by intro h;rw[h]at f0;simp at f0);simp only[Value.slice.injEq]at hv';exact⟨b,off,hv'.1.trans ha⟩
      obtain⟨V0,lv,h0,h1,h2,h3,h4,h5,h6⟩:=(HX.out.below (o0.mono hB)).at f0;have HP:Hid (Calls prog 32 #[Vr (Fl.nth ns j) lv] wr λe w'=>∃v,e=.returned v/\Zv w'.heap.size w' v (Yw (Fl.nth ns j))/\Below wr.heap.size wr w'):=Js _ _ B _ (by omega) h0;clear h0;have Z0:(j:Int)<(ns.length:Int):=(by omega);have v0:zy3 ns k2 (j+1)=(zy3 ns k2 j||(Yw (Fl.nth ns j)).any (·==(k2:Int))):=yw7 ns k2 j g1;generalize hu0:zy3 ns k2 j=u0 at*
      go_wp2_with fail
      refine(HP.out).mono ?_;rintro e w6 ⟨pv,rfl,z0,O0⟩;clear HP h1 h2 h3 h4 h5 h6 hu0;have F0:Below w.heap.size w w6:=o0.trans (O0.mono j1);obtain⟨pao,pcap,rfl,_,A0,q0⟩:=z0;generalize hps:Yw (Fl.nth ns j)=ps at*;have l1:=Zz v0;have r0:=Zz q0;clear hps q0 O0 o0 v0;unfold maxLen at A0;go_wp2
      go_loop [10,13] (λu i=>∃t:Nat,t<=ps.length/\i=.int .i64 t/\u=.bool (u0||(ps.take t).any (·==(k2:Int)))) (λ_ i=>ps.length - (intOf i).toNat)
      case atStart=>exact⟨0,by omega,rfl,by simp⟩
      case round=>
       obtain⟨t,ht,rfl,rfl⟩:=hrel
       by_cases y0:t<ps.length
       ·obtain⟨pb,po,rfl,Y0,a0⟩:=r0.out (by intro h;rw[h]at y0;simp at y0)
        have C0:=a0 t y0;have P0:(ps.take (t+1)).any (·==(k2:Int))=((ps.take t).any (·==(k2:Int))||(ps.getD t 0==(k2:Int))):=by
         rw[Fl.take_snocI _ t y0,List.any_append];simp
        have Q0:=Zz P0;obtain⟨x,hx⟩:=nmE (ps.getD t 0);rw[<-hx]at C0;have x0:=Zz hx;have s1:(t:Int)<(ps.length:Int):=(by omega);clear a0 hx P0;generalize hac:(u0||(ps.take t).any (·==(k2:Int)))=acc at*;have R0:=Zz hac;clear hac
        cases acc
        ·go_wp2
         go_round
         case rel=>exact⟨t+1,by omega,by go_num,by rw[Q0.out,<-Bool.or_assoc,R0.out,<-x0.out];simp⟩
         case measure=>simp[intOf];omega
        go_wp2
        go_round
        case rel=>exact⟨t+1,by omega,by go_num,by rw[Q0.out,<-Bool.or_assoc,R0.out];simp⟩
        case measure=>simp[intOf];omega
       have hall:ps.take t=ps:=List.take_of_length_le (by omega);have m1:=Zz hall;clear hall r0;go_wp2
       go_roundw
       case rel=>exact⟨j+1,by omega,by omega,by go_num,by rw[l1.out,m1.out],F0⟩
       case measure=>simp[intOf];omega
     have S0:zy3 ns k2 j=Fl.used ns k2:=(by rw[show j=ns.length by omega];rfl);generalize hu0:zy3 ns k2 j=u0 at*;have T0:=Zz S0;clear S0 hu0
     cases u0
     ·have c0:Fl.shaped ns=(k2:Int):=by
       unfold Fl.shaped;rw[N0.out];simp only;rw[Fl.find_first (λk=> !Fl.used ns k) _ k2 E0.out (by omega) (by rw[<-T0.out];rfl)]
      have HF:=Zz c0;clear c0;go_wp2;go_ret;exact⟨Uj HF.out.symm,o0⟩
     go_wp2
     go_roundw
     case rel=>exact⟨k2+1,Or.inr (by omega),by go_num,λj hj=>by
      by_cases h:j<k2
      ·exact E0.out j h
      have:j=k2:=by omega
      subst this;rw[<-T0.out];rfl,o0⟩
     case measure=>simp[intOf];omega
   have c0:Fl.shaped ns= -1:=by
    unfold Fl.shaped;rw[N0.out];simp only;rw[Fl.find_none (λk=> !Fl.used ns k) _ (λj hj=>E0.out j (by omega))]
   have HF:=Zz c0;clear c0;go_wp2;go_ret;exact⟨Uj HF.out.symm,g0⟩
def Uz(r:Fl.Node×Int×Int)(w:World)(e:Ending)(w':World):Prop:=
 Below w.heap.size w w'/\∃nv,e=.returned (.tuple #[nv,.int .i64 r.2.1,.int .i64 r.2.2])/\(∃nd ao n cap,nv=Vr nd (.slice ao n cap))/\(0<=r.2.1->∃lv,nv=Vr r.1 lv/\Zv w'.heap.size w' lv r.1.list/\∀b,lv.ownBlock=some b->w.heap.size<=b)
def Jr{w w':World}{nv:Value}{b:Int}{r:Fl.Node×Int×Int}{e:Ending}(hr:r=(Fl.nd0,-1,b))(he:e=.returned (.tuple #[nv,.int .i64 (-1),.int .i64 b]))(hv:∃nd ao n cap,nv=Vr nd (.slice ao n cap))(hb:Below w.heap.size w w'):Uz r w e w':=by
 subst hr;exact⟨hb,nv,he,hv,λh=>absurd (show (0:Int)<= -1 from h) (by decide)⟩
def one_end(s:ByteArray)(k:Nat)(w:World)(hs:s.size<=4611686018427387904):
  Calls prog 17 #[.string s,.int .i64 s.size,.int .i64 k] w λe w'=>Uz (Fl.nd0,-1,(s.size:Int)) w e w':=by
 have b1:((s.size:Int)==(s.size:Int))=true:=by simp
 go_enter func17,ntmps17
 go_wp2;exact bodyPost_ret (v:=.tuple #[.agg #[.int .i64 0,.int .i64 0,.int .i64 0,.int .i64 0,.int .i64 0,.slice none 0 0],.int .i64 (-1),.int .i64 s.size]) (by simp[results,results17,go_sem]) rfl (Jr rfl rfl ⟨⟨_,_,_,_,_,[]⟩,_,_,_,rfl⟩ ((bA).alloc (by simp) _))
def zcw(s:ByteArray)(q:Int)(w:World)(hs:s.size<=4611686018427387904)(h0:0<=q)(hq:q<=s.size)(v n b:Int)(h:Fl.num s.toList q.toNat=(v,n,b)):
  Calls prog 15 #[.string s,.int .i64 q] w λe w'=>e=.returned (.tuple #[.int .i64 v,.int .i64 n,.int .i64 b])/\w'=w:=by
 obtain⟨m,rfl⟩:=Int.eq_ofNat_of_zero_le h0;exact num_l s m w hs (by omega) v n b (by simpa using h)
def yzx(s:ByteArray)(q m:Int)(w:World)(hs:s.size<=4611686018427387904)(h0:0<=q)(hq:q<=s.size)(a0:0<=m)(hm:m<=1000)(l:List Int)(n b:Int)(h:Fl.nums s.toList q.toNat m.toNat=(l,n,b)):
  Calls prog 16 #[.string s,.int .i64 q,.int .i64 m] w λe w'=>∃v,e=.returned (.tuple #[v,.int .i64 n,.int .i64 b])/\w'.ownsRow w.heap.size 3 1 v l.length (l.map (Value.int .i64))/\Below w.heap.size w w':=by
 obtain⟨q,rfl⟩:=Int.eq_ofNat_of_zero_le h0;obtain⟨m,rfl⟩:=Int.eq_ofNat_of_zero_le a0;have:=ym1 s q m w hs (by omega) (by omega);rw[show Fl.nums s.toList q m=(l,n,b) from by simpa using h]at this;exact this
def yi3(s:ByteArray)(p k:Nat)(w:World)(hs:s.size<=4611686018427387904)(hp:p<s.size)
  (H:Hid (∀w,Calls prog 31 #[.int .i64 s[p].toNat] w λe w'=>e=.returned (.int .i64 (-2))/\w'=w)):
  Calls prog 17 #[.string s,.int .i64 p,.int .i64 k] w λe w'=>Uz (Fl.nd0,-1,(p:Int)) w e w':=by
 have b1:((p:Int)==(s.size:Int))=false:=beq_eq_false_iff_ne.2 (by omega);have hc:s[p].toNat<256:=s[p].toNat_lt
 go_enter func17,ntmps17
 go_wp2_with (go_at_call 31;refine(H.out _).mono ?_;rintro e w' ⟨rfl,rfl⟩)
 exact bodyPost_ret (v:=.tuple #[.agg #[.int .i64 s[p].toNat,.int .i64 0,.int .i64 0,.int .i64 0,.int .i64 0,.slice none 0 0],.int .i64 (-1),.int .i64 p]) (by simp[results,results17,go_sem]) rfl (Jr rfl rfl ⟨⟨_,_,_,_,_,[]⟩,_,_,_,rfl⟩ ((bA).alloc (by simp) _))
def one_lev(s:ByteArray)(p k:Nat)(F v n b:Int)(w:World)(hs:s.size<=4611686018427387904)(hp:p<s.size)(hF:F≠ -2)(hn:n<0)
  (H:Hid (∀w,Calls prog 31 #[.int .i64 s[p].toNat] w λe w'=>e=.returned (.int .i64 F)/\w'=w))
  (H1:Hid (∀w,Calls prog 15 #[.string s,.int .i64 ((p:Int)+1)] w λe w'=>e=.returned (.tuple #[.int .i64 v,.int .i64 n,.int .i64 b])/\w'=w)):
  Calls prog 17 #[.string s,.int .i64 p,.int .i64 k] w λe w'=>Uz (Fl.nd0,-1,b) w e w':=by
 have b1:((p:Int)==(s.size:Int))=false:=beq_eq_false_iff_ne.2 (by omega);have b2:(F== -2)=false:=beq_eq_false_iff_ne.2 hF;have hc:s[p].toNat<256:=s[p].toNat_lt;clear hF
 go_enter func17,ntmps17
 go_wp2_with (first|(go_at_call 31;refine(H.out _).mono ?_;rintro e w' ⟨rfl,rfl⟩)|(go_at_call 15;refine(H1.out _).mono ?_;rintro e w' ⟨rfl,rfl⟩))
 exact bodyPost_ret (v:=.tuple #[.agg #[.int .i64 s[p].toNat,.int .i64 0,.int .i64 0,.int .i64 0,.int .i64 0,.slice none 0 0],.int .i64 (-1),.int .i64 b]) (by simp[results,results17,go_sem]) rfl (Jr rfl rfl ⟨⟨_,_,_,_,_,[]⟩,_,_,_,rfl⟩ ((bA).alloc (by simp) _))
def yu7(s:ByteArray)(p k:Nat)(v n b v2 n2 b2 r:Int)(w:World)(hs:s.size<=4611686018427387904)(hp:p<s.size)(hn:¬n<0)(a0:(n2<0/\r=b2)\/(¬n2<0/\16<v2/\r=n))
  (H:Hid (∀w,Calls prog 31 #[.int .i64 s[p].toNat] w λe w'=>e=.returned (.int .i64 (-1))/\w'=w))
  (H1:Hid (∀w,Calls prog 15 #[.string s,.int .i64 ((p:Int)+1)] w λe w'=>e=.returned (.tuple #[.int .i64 v,.int .i64 n,.int .i64 b])/\w'=w))
  (H2:Hid (∀w,Calls prog 15 #[.string s,.int .i64 n] w λe w'=>e=.returned (.tuple #[.int .i64 v2,.int .i64 n2,.int .i64 b2])/\w'=w)):
  Calls prog 17 #[.string s,.int .i64 p,.int .i64 k] w λe w'=>Uz (Fl.nd0,-1,r) w e w':=by
 have b1:((p:Int)==(s.size:Int))=false:=beq_eq_false_iff_ne.2 (by omega);have hc:s[p].toNat<256:=s[p].toNat_lt;rcases a0 with⟨a0,rfl⟩|⟨a0,b0,rfl⟩
 ·go_enter func17,ntmps17
  go_wp2_with (go_at_call 31;refine(H.out _).mono ?_;rintro e w' ⟨rfl,rfl⟩)
  refine(H1.out _).mono ?_;rintro e w' ⟨rfl,rfl⟩
  go_wp2_with fail
  refine(H2.out _).mono ?_;rintro e w' ⟨rfl,rfl⟩;go_wp2;exact bodyPost_ret (v:=.tuple #[.agg #[.int .i64 s[p].toNat,.int .i64 v,.int .i64 0,.int .i64 0,.int .i64 0,.slice none 0 0],.int .i64 (-1),.int .i64 r]) (by simp[results,results17,go_sem]) rfl (Jr rfl rfl ⟨⟨_,_,_,_,_,[]⟩,_,_,_,rfl⟩ ((bA).alloc (by simp) _))
 go_enter func17,ntmps17
 go_wp2_with (go_at_call 31;refine(H.out _).mono ?_;rintro e w' ⟨rfl,rfl⟩)
 refine(H1.out _).mono ?_;rintro e w' ⟨rfl,rfl⟩
 go_wp2_with fail
 refine(H2.out _).mono ?_;rintro e w' ⟨rfl,rfl⟩;go_wp2;exact bodyPost_ret (v:=.tuple #[.agg #[.int .i64 s[p].toNat,.int .i64 v,.int .i64 0,.int .i64 0,.int .i64 0,.slice none 0 0],.int .i64 (-1),.int .i64 r]) (by simp[results,results17,go_sem]) rfl (Jr rfl rfl ⟨⟨_,_,_,_,_,[]⟩,_,_,_,rfl⟩ ((bA).alloc (by simp) _))
def Ye{W:World}{a:Addr}{o v:Value}(h:W.cell? a=some o):(W.setCell a v).cell? a=some v:=World.cell?_setCell_same' W a v (by simp[h])
def Zl{W:World}{B i j:Nat}{v:Value}(h:i≠j):(W.setCell ⟨B,j,none⟩ v).cell? ⟨B,i,none⟩=W.cell? ⟨B,i,none⟩:=by
 apply Qg;intro hh;apply h;injection hh with _ h2;exact h2.symm
def zy4{w1:World}{B:Nat}(v0 v1 v2 v3 v4 v5:Value){o0 o1 o2 o3 o4 o5:Value}(h0:w1.cell? ⟨B,0,none⟩=some o0)(h1:w1.cell? ⟨B,1,none⟩=some o1)(h2:w1.cell? ⟨B,2,none⟩=some o2)(h3:w1.cell? ⟨B,3,none⟩=some o3)(h4:w1.cell? ⟨B,4,none⟩=some o4)(h5:w1.cell? ⟨B,5,none⟩=some o5):
  (w1.setCell ⟨B,0,none⟩ v0).cell? ⟨B,0,none⟩=some v0/\((w1.setCell ⟨B,0,none⟩ v0).setCell ⟨B,1,none⟩ v1).cell? ⟨B,1,none⟩=some v1/\(((w1.setCell ⟨B,0,none⟩ v0).setCell ⟨B,1,none⟩ v1).setCell ⟨B,2,none⟩ v2).cell? ⟨B,2,none⟩=some v2/\((((w1.setCell ⟨B,0,none⟩ v0).setCell ⟨B,1,none⟩ v1).setCell ⟨B,2,none⟩ v2).setCell ⟨B,3,none⟩ v3).cell? ⟨B,3,none⟩=some v3/\(((((w1.setCell ⟨B,0,none⟩ v0).setCell ⟨B,1,none⟩ v1).setCell ⟨B,2,none⟩ v2).setCell ⟨B,3,none⟩ v3).setCell ⟨B,4,none⟩ v4).cell? ⟨B,4,none⟩=some v4/\((((((w1.setCell ⟨B,0,none⟩ v0).setCell ⟨B,1,none⟩ v1).setCell ⟨B,2,none⟩ v2).setCell ⟨B,3,none⟩ v3).setCell ⟨B,4,none⟩ v4).setCell ⟨B,5,none⟩ v5).cell? ⟨B,5,none⟩=some v5:=by
 refine⟨Ye h0,Ye (o:=o1) ?_,Ye (o:=o2) ?_,Ye (o:=o3) ?_,Ye (o:=o4) ?_,Ye (o:=o5) ?_⟩<;>repeat (rw[Zl (by decide)])
 all_goals assumption
def Uu{B:Nat}{w w1:World}{v0 v1 v2 v3 v4 v5:Value}(h:Below B w w1):
  Below B w ((((((w1.setCell ⟨B,0,none⟩ v0).setCell ⟨B,1,none⟩ v1).setCell ⟨B,2,none⟩ v2).setCell ⟨B,3,none⟩ v3).setCell ⟨B,4,none⟩ v4).setCell ⟨B,5,none⟩ v5):=
 (((((h.setCell (Nat.le_refl _) _).setCell (Nat.le_refl _) _).setCell (Nat.le_refl _) _).setCell (Nat.le_refl _) _).setCell (Nat.le_refl _) _).setCell (Nat.le_refl _) _
def yi4(s:ByteArray)(p k:Nat)(v n b v2 n2 b2 n3 b3:Int)(w:World)(hs:s.size<=4611686018427387904)(hp:p<s.size)(hn:¬n<0)(d0:¬n2<0)(e0:¬16<v2)(f0:n3<0)
  (H:Hid (∀w,Calls prog 31 #[.int .i64 s[p].toNat] w λe w'=>e=.returned (.int .i64 (-1))/\w'=w))
  (H1:Hid (∀w,Calls prog 15 #[.string s,.int .i64 ((p:Int)+1)] w λe w'=>e=.returned (.tuple #[.int .i64 v,.int .i64 n,.int .i64 b])/\w'=w))
  (H2:Hid (∀w,Calls prog 15 #[.string s,.int .i64 n] w λe w'=>e=.returned (.tuple #[.int .i64 v2,.int .i64 n2,.int .i64 b2])/\w'=w))
  (H3:Hid (∀w,Calls prog 16 #[.string s,.int .i64 n2,.int .i64 v2] w λe w'=>∃lv,e=.returned (.tuple #[lv,.int .i64 n3,.int .i64 b3])/\Below w.heap.size w w')):
  Calls prog 17 #[.string s,.int .i64 p,.int .i64 k] w λe w'=>Uz (Fl.nd0,-1,b3) w e w':=by
 have b1:((p:Int)==(s.size:Int))=false:=beq_eq_false_iff_ne.2 (by omega);have hc:s[p].toNat<256:=s[p].toNat_lt
 go_enter func17,ntmps17
 go_wp2_with (go_at_call 31;refine(H.out _).mono ?_;rintro e w' ⟨rfl,rfl⟩)
 refine(H1.out _).mono ?_;rintro e w' ⟨rfl,rfl⟩
 go_wp2_with fail
 refine(H2.out _).mono ?_;rintro e w' ⟨rfl,rfl⟩
 go_wp2_with fail
 refine(H3.out _).mono ?_;rintro e w1 ⟨lv,rfl,b0⟩;obtain⟨a0,c0⟩:=zqz b0;simp only[World.size_alloc]at a0 c0
 have hz:w.heap.size+1<w1.heap.size:=by have:=b0.size;simp at this;omega
 obtain⟨q0,q1,q2,q3,q4,q5⟩:=zy4 (w1:=w1) (B:=w.heap.size) (o0:=.int .i64 0) (o1:=.int .i64 0) (o2:=.int .i64 0) (o3:=.int .i64 0) (o4:=.int .i64 0) (o5:=.slice none 0 0) (.int .i64 s[p].toNat) (.int .i64 v) (.int .i64 0) (.int .i64 0) (.int .i64 0) (.slice none 0 0) (by rw[a0 _ _ (by omega)];simp) (by rw[a0 _ _ (by omega)];simp) (by rw[a0 _ _ (by omega)];simp) (by rw[a0 _ _ (by omega)];simp) (by rw[a0 _ _ (by omega)];simp) (by rw[a0 _ _ (by omega)];simp);go_wp2;exact bodyPost_ret (v:=.tuple #[.agg #[.int .i64 s[p].toNat,.int .i64 v,.int .i64 0,.int .i64 0,.int .i64 0,.slice none 0 0],.int .i64 (-1),.int .i64 b3]) (by simp[results,results17,go_sem,q0,q1,q2,q3,q4,q5]) rfl (Jr rfl rfl ⟨⟨_,_,_,_,_,[]⟩,_,_,_,rfl⟩ (Uu (((bA).alloc (by simp) _).trans (b0.mono (by simp;omega)))))
end Go.Proofs.YtaaejabalinojaaGreatDoor
