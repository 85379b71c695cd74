import Derived.Test.YtminjljgedopkaaGreatDoorM20
import Derived.Laws.EntriesVeiled
set_option linter.all false
set_option maxRecDepth 100000
set_option maxHeartbeats 40000000
namespace Go.Proofs.YtminjljgedopkaaGreatDoor
open Go.RowKit Go.Proofs.Tryz
namespace Fl
def wLocals:List UInt8:=[108,111,99,97,108,115]
def kindWords:List (List UInt8):=[[110,117,109],[118,97,114],[111,112],[115,101,116],[111,117,116],[105,102],[119,104,105,108,101],[98,108,111,99,107]]
def intsOf:List (List UInt8)->Option (List Int)
 |[]=>some []
 |w::r=>if(number w 10).2=true/\(number w 10).1<2147483648 then(intsOf r).map (λl=>((number w 10).1:Int)::l) else none
def intsOf_len:∀(ws:List (List UInt8)) (l:List Int),intsOf ws=some l->l.length=ws.length
 |[],l,h=>by simp[intsOf]at h;subst h;rfl
 |w::r,l,h=>by
  unfold intsOf at h
  split at h
  ·cases hr:intsOf r with
   |none=>rw[hr]at h;cases h
   |some l'=>rw[hr]at h;simp at h;subst h;simp[intsOf_len r l' hr]
  ·cases h
def intsOf_snoc_ok(ws:List (List UInt8))(w:List UInt8)(l:List Int)(v:Nat)(h:intsOf ws=some l)(hw:lnum 2147483647 w=some v):intsOf (ws++[w])=some (l++[(v:Int)]):=by
 rw[lnum_number]at hw
 split at hw
 ·rename_i hc
  simp only[Option.some.injEq]at hw
  induction ws generalizing l with
  |nil=>simp[intsOf]at h;subst h;subst hw;simp only[List.nil_append,intsOf];rw[if_pos hc];rfl
  |cons a r ih=>
   unfold intsOf at h;rw[List.cons_append,intsOf]
   split at h
   ·rename_i ha
    rw[if_pos ha]
    cases hr:intsOf r with
    |none=>rw[hr]at h;cases h
    |some l'=>rw[hr]at h;simp at h;subst h;rw[ih l' hr];rfl
   ·cases h
 ·cases hw
def intsOf_bad:∀(ws:List (List UInt8)) (k:Nat),k<ws.length->lnum 2147483647 (ws.getD k [])=none->intsOf ws=none
 |[],k,h,_=>by simp at h
 |w::r,0,_,hw=>by
  simp only[List.getD_cons_zero]at hw;rw[lnum_number]at hw;unfold intsOf
  split at hw
  ·cases hw
  ·rename_i hc;rw[if_neg hc]
 |w::r,k+1,h,hw=>by
  simp only[List.getD_cons_succ]at hw;have:=intsOf_bad r k (by simpa using h) hw;unfold intsOf
  rw[this];split<;>rfl
def nodeOf(k:Nat)(w:List (List UInt8)):Option Node:=
 if w.length<3\/w.getD 0 []≠Lib.decDigits k then none else
 if place kindWords (w.getD 1 [])<0 then none else
 match intsOf (w.drop 2) with
 |none=>none
 |some v=>
  if fields (place kindWords (w.getD 1 []))<0 then some ⟨place kindWords (w.getD 1 []),v.getD 0 0,0,0,0,v.drop 1⟩
  else if(v.length:Int)≠1+fields (place kindWords (w.getD 1 [])) then none
  else some ⟨place kindWords (w.getD 1 []),v.getD 0 0,v.getD 1 0,v.getD 2 0,v.getD 3 0,[]⟩
def localsOf(w:List (List UInt8)):Option (List Int):=if w.getD 0 []≠wLocals then none else intsOf (w.drop 1)
def readL(ls:List Int)(acc:List Node):Nat->List (List UInt8)->(List Int×List Node)×Nat
 |i,[]=>((ls,acc),i+1)
 |i,[x]=>if x=[]/\0<i then((ls,acc),0) else((ls,acc),i+1)
 |0,x::y::r=>match localsOf (cutR 32 x) with
  |none=>((ls,acc),1)
  |some l=>readL l acc 1 (y::r)
 |i+1,x::y::r=>match nodeOf i (cutR 32 x) with
  |none=>((ls,acc),i+2)
  |some nd=>readL ls (acc++[nd]) (i+2) (y::r)
def readText(s:List UInt8):(List Int×List Node)×Nat:=readL [] [] 0 (cutR 10 s)
def readL_first(ls:List Int)(acc:List Node)(x:List UInt8)(t:List (List UInt8))(ht:t≠[]):readL ls acc 0 (x::t)=match localsOf (cutR 32 x) with|none=>((ls,acc),1)|some l=>readL l acc 1 t:=by
 cases t with
 |nil=>exact absurd rfl ht
 |cons y r=>rw[readL]
def readL_next(ls:List Int)(acc:List Node)(i:Nat)(x:List UInt8)(t:List (List UInt8))(ht:t≠[]):readL ls acc (i+1) (x::t)=match nodeOf i (cutR 32 x) with|none=>((ls,acc),i+2)|some nd=>readL ls (acc++[nd]) (i+2) t:=by
 cases t with
 |nil=>exact absurd rfl ht
 |cons y r=>rw[readL]
def readL_last(ls:List Int)(acc:List Node)(i:Nat)(x:List UInt8):readL ls acc i [x]=if x=[]/\0<i then((ls,acc),0) else((ls,acc),i+1):=by
 cases i<;>rw[readL]
def readL_end(ls:List Int)(acc:List Node)(i:Nat)(hi:0<i):readL ls acc i (cutR 10 [])=((ls,acc),0):=by
 rw[cutR,readL_last,if_pos ⟨rfl,hi⟩]
def readL_open(ls:List Int)(acc:List Node)(i:Nat)(s:List UInt8)(hs:i=0\/s≠[])(h:(Lib.cut s [10]).2.2=false):readL ls acc i (cutR 10 s)=((ls,acc),i+1):=by
 rw[(cut_missed 10 s h).1,readL_last,if_neg (by rintro⟨h1,h2⟩;rcases hs with h3|h3;omega;exact h3 h1)]
end Fl
def zpx(f:Nat):∀v,(Fl.decF f v).length<=f+1:=by
 induction f with
 |zero=>intro v;simp[Fl.decF]
 |succ f ih=>intro v;unfold Fl.decF;split;simp;have:=ih (v / 10);simp;omega
def zo7(v:Nat)(hm:v<1000000000000000000):(Lib.decDigits v).length<=18:=by
 rw[<-Fl.decF_digits 17 v (Nat.lt_of_lt_of_le hm (by decide))];exact zpx 17 v
def zg4(ws:List (List UInt8))(k:Nat)(xs:List Int)(h:Fl.intsOf (ws.take k)=some xs)(hk:k<=ws.length):xs.length=k:=by
 rw[Fl.intsOf_len _ _ h,List.length_take];omega
def zg5(ws:List (List UInt8))(k:Nat)(hk:k<ws.length)(h:Fl.lnum 2147483647 (ws.getD k [])=none):Fl.intsOf ws=none:=Fl.intsOf_bad ws k hk h
def ze1(ws:List (List UInt8))(k:Nat)(xs:List Int)(v:Nat)(hk:k<ws.length)(h:Fl.intsOf (ws.take k)=some xs)(hv:Fl.lnum 2147483647 (ws.getD k [])=some v):Fl.intsOf (ws.take (k+1))=some (xs++[(v:Int)]):=by
 have e:ws.take (k+1)=ws.take k++[ws.getD k []]:=by
  rw[List.take_add_one,List.getElem?_eq_getElem hk];simp[List.getD_eq_getElem?_getD,hk]
 rw[e];exact Fl.intsOf_snoc_ok _ _ _ _ h hv
def zq0{w w':World}{base:Nat}{e:TypeId}{k:Nat}{v:Value}{n:Nat}{xs:List Value}(h:w.ownsRow base e k v n xs)(hb:Below w.heap.size w w'):w'.ownsRow base e k v n xs:=by
 have og:w.grownBy w' none:=⟨hb.os,hb.tape,hb.output,hb.size,λk hk _=>hb.block k hk⟩;exact h.kept og (by cases v.ownBlock<;>simp)
def zs2(B:Nat)(sv:Value)(ws:List (List UInt8))(w:World)(hv:Zg B w sv ws)(hB:B<=w.heap.size):
  Calls prog 101 #[sv] w λe w'=>∃v,e=.returned (.tuple #[v,.bool (Fl.intsOf ws).isSome])/\w'.ownsRow w.heap.size 3 1 v ((Fl.intsOf ws).getD []).length (((Fl.intsOf ws).getD []).map (Value.int .i64))/\Below w.heap.size w w':=by
 obtain⟨i0,hi,hz0,hz1,hz2⟩:=info_parts Tryz.infoInt;obtain⟨ao,cap,rfl,hl,hcap,hn,hss,hc⟩:=hv;unfold maxLen at hcap
 go_enter func101,ntmps101
 go_wp2
 go_loopw [4,11] (λv i wr=>∃(k:Nat) (xs:List Int),k<=ws.length/\Fl.intsOf (ws.take k)=some xs/\i=.int .i64 k/\wr.ownsRow w.heap.size 3 1 v xs.length (xs.map (Value.int .i64))/\Below w.heap.size w wr) (λ_ i _=>ws.length - (intOf i).toNat)
 case atStart=>exact⟨0,[],by omega,rfl,rfl,World.ownsRow_nil _ _ _ _,Below.refl _ _⟩
 case round=>
  obtain⟨k,xs,hk,hxs,rfl,hown,hbel⟩:=hrel;have hxl:xs.length=k:=zg4 ws k xs hxs hk;have HX:Hid (Fl.intsOf (ws.take k)=some xs):=hxs;have hxl':xs.length<=100000:=(by omega);have hbs:=hbel.size;clear hxs hxl
  by_cases hlt:k<ws.length
  ·obtain⟨b,off,rfl,hbB,hcell⟩:=hc (by intro h;rw[h]at hlt;simp at hlt)
   obtain⟨x,hx⟩:∃x,x=ws.getD k []:=⟨_,rfl⟩;have hck:wr.cell? ⟨b,off+k,none⟩=some (.string ⟨x.toArray⟩):=(by rw[hbel.cell (p:=⟨b,off+k,none⟩) (by show b<_;omega),hx];exact hcell k hlt);have hxlen:x.length<=100000:=hss x (by rw[hx,List.getD_eq_getElem?_getD,List.getElem?_eq_getElem hlt];simp);have HE:Hid (x=ws.getD k []):=hx;have hN:=zl6 x 2147483647 wr hxlen (by decide) (by decide);have HOWN:Hid _:=hown;clear hx hcell hc hss hown
   cases hln:Fl.lnum 2147483647 x with
   |some nv=>
    have HS:Hid (Fl.intsOf (ws.take (k+1))=some (xs++[(nv:Int)])):=ze1 ws k xs nv hlt HX.out (by rw[<-HE.out];exact hln);rw[hln]at hN;have HCH:Hid (Calls prog 141 #[.string ⟨x.toArray⟩,.int .i64 2147483647] wr λe w'=>e=.returned (.tuple #[.int .i64 (nv:Int),.bool true])/\Below wr.heap.size wr w'):=hN;generalize (nv:Int)=z at HCH HS;clear hN hln
    go_wp2_with fail
    refine(HCH.out).mono ?_;rintro e w1 ⟨rfl,hb1⟩;have ho1:=zq0 HOWN.out hb1;have hbel1:Below w.heap.size w w1:=hbel.trans (hb1.mono hbs);have hbs1:=hbel1.size;clear hb1 hbel
    go_wp2_with (at_builtin;refine wpList_append_own _ rfl _ _ 23 rfl w.heap.size 3 i0 (.int .i64 0) 1 8 underlying23 hi hz0 hz1 hz2 rfl (by decide) _ _ _ rfl (ho1.alloc _) ⟨_,0,none⟩ 1 1 [.int .i64 z] rfl rfl Va ?c2 ?c3 ?c4 ?c5 ?_)
    case c2=>intro u hu;simp at hu;subst hu;rfl
    case c3=>unfold maxLen;omega
    case c4=>omega
    case c5=>simp;omega
    intro v' w2 hown' hgrow _;have hb2:Below w.heap.size w w2:=(hbel1.alloc hbs1 _).grown hgrow (by simp;omega) (λg hg=>(ho1.lt g hg).1);have ho2:w2.ownsRow w.heap.size 3 1 v' (xs++[z]).length ((xs++[z]).map (Value.int .i64)):=(by simpa using hown');clear hown' hgrow ho1 HCH;go_wp2
    go_roundw
    case rel=>exact⟨k+1,xs++[z],by omega,HS.out,by go_num,ho2,hb2⟩
    case measure=>simp[intOf];omega
   |none=>
    have HF:Hid (Fl.intsOf ws=none):=zg5 ws k hlt (by rw[<-HE.out];exact hln);rw[hln]at hN;have HCH:Hid (Calls prog 141 #[.string ⟨x.toArray⟩,.int .i64 2147483647] wr λe w'=>e=.returned (.tuple #[.int .i64 0,.bool false])/\Below wr.heap.size wr w'):=hN;clear hN hln
    go_wp2_with fail
    refine(HCH.out).mono ?_;rintro e w1 ⟨rfl,hb1⟩;have hbel1:Below w.heap.size w w1:=hbel.trans (hb1.mono hbs);clear hb1 hbel;go_wp2
    go_ret2
    exact⟨_,by rw[HF.out];rfl,by rw[HF.out];exact World.ownsRow_nil _ _ _ _,hbel1⟩
  ·have hkn':k=ws.length:=by omega
   have HF:Hid (Fl.intsOf ws=some xs):=(by have:=HX.out;rw[hkn',List.take_length]at this;exact this);clear hkn' hc hss;go_wp2
   go_ret2
   exact⟨_,by rw[HF.out];rfl,by rw[HF.out];exact hown,hbel⟩
def zj5(o:Option (List Int))(w:World)(e:Ending)(w':World):Prop:=∃v,e=.returned (.tuple #[v,.bool o.isSome])/\w'.ownsRow w.heap.size 3 1 v (o.getD []).length ((o.getD []).map (Value.int .i64))/\Below w.heap.size w w'
def ze2(B:Nat)(b cap:Nat)(ws:List (List UInt8))(w:World)(hv:Zg B w (.slice (some ⟨b,0,none⟩) ws.length cap) ws)(hB:B<=w.heap.size)(hne:0<ws.length):
  Calls prog 57 #[.slice (some ⟨b,0,none⟩) ws.length cap] w (zj5 (Fl.localsOf ws) w):=by
 obtain⟨ao,cap',he,hl,hcap,hn,hss,hc⟩:=id hv;simp only[Value.slice.injEq]at he;obtain⟨rfl,-,rfl⟩:=he;obtain⟨b',off',e,hbB,hcell⟩:=hc (by intro h;rw[h]at hne;simp at hne);simp only[Option.some.injEq,Addr.mk.injEq,and_true]at e;obtain⟨rfl,rfl⟩:=e;have c0:=hcell 0 hne;obtain⟨x0,hx0⟩:∃x0,x0=ws.getD 0 []:=⟨_,rfl⟩;rw[<-hx0]at c0;unfold strV at c0;simp only[Nat.add_zero]at c0;unfold maxLen at hcap;have HX0:Hid (x0=ws.getD 0 []):=hx0;obtain⟨ov,hov⟩:∃ov,ov=Fl.intsOf (ws.drop 1):=⟨_,rfl⟩;have HIN:Hid (∀sv,sv=.slice (some ⟨b,1,none⟩) (ws.length - 1) (cap - 1)\/(sv=.slice (some ⟨b,0,none⟩) (ws.length - 1) 0/\ws.length<=1)->Calls prog 101 #[sv] w (zj5 ov w)):=by
  intro sv hsv;rw[hov];refine zs2 B sv _ w ?_ hB;rcases hsv with rfl|⟨rfl,h1⟩
  ·have:=hv.drop 1 (by omega);simpa using this
  ·have hl:ws.length - 1=0:=by omega
   rw[List.drop_of_length_le h1,hl];exact⟨_,_,rfl,by simp,by simp[maxLen],by simp,by simp,λh=>absurd rfl h⟩
 have HOV:Hid (ov=Fl.intsOf (ws.drop 1)):=hov;clear hv hc hcell hss hx0 hov
 by_cases hxl:x0=Fl.wLocals
 ·have HE:Hid (Fl.localsOf ws=ov):=by
   show _=_;unfold Fl.localsOf;rw[if_neg (by rw[<-HX0.out,hxl];exact λh=>h rfl),HOV.out]
  have b3:(x0==[108,111,99,97,108,115])=true:=(by rw[hxl];decide);clear hxl
  go_enter func57,ntmps57
  go_wp2_with fail
  all_goals
   refine(HIN.out _ (by first|exact .inl rfl|exact .inr ⟨rfl,by omega⟩)).mono ?_;rintro e w1 ⟨v,rfl,ho,hb⟩;go_wp2
   go_ret2
   rw[HE.out];exact⟨_,rfl,ho,hb⟩
 ·have HE:Hid (Fl.localsOf ws=none):=by
   show _=_;unfold Fl.localsOf;rw[if_pos (by rw[<-HX0.out];exact hxl)]
  have b3:(x0==[108,111,99,97,108,115])=false:=(by rw[beq_eq_false_iff_ne];exact hxl);clear hxl
  go_enter func57,ntmps57
  go_wp2
  go_ret2
  rw[HE.out];exact⟨_,rfl,World.ownsRow_nil _ _ _ _,Below.refl _ _⟩
def zbz(T:Nat)(x:List UInt8)(w:World)(hT:w.heap[T]?=some (.cells Zu 98 (0,0))):
  Calls prog 102 #[.pointer (some ⟨T,0,none⟩),.string ⟨x.toArray⟩] w λe w'=>e=.returned (.int .i64 (Fl.place Fl.kindWords x))/\Below w.heap.size w w':=by
 have HT:Hid (w.heap[T]?=some (.cells Zu 98 (0,0))):=hT;have hTl:T<w.heap.size:=(Array.getElem?_eq_some_iff.1 hT).1;clear hT
 go_enter func102,ntmps102
 go_wp2
 go_loopw [9] (λi wr=>∃k:Nat,k<=8/\i=.int .i64 k/\(∀j,j<k->(Fl.kindWords.getD j []==x)=false)/\Below w.heap.size w wr) (λi _=>8 - (intOf i).toNat)
 case atStart=>exact⟨0,by omega,rfl,λj hj=>by omega,Below.refl _ _⟩
 case round=>
  obtain⟨k,hk,rfl,hno,hbel⟩:=hrel;have HN:Hid (∀j,j<k->(Fl.kindWords.getD j []==x)=false):=hno;have hbs:=hbel.size;clear hno
  by_cases hlt:k<8
  ·have hrow:wr.heap[T]?=some (.cells Zu 98 (0,0)):=(hbel.block T hTl).trans HT.out
   obtain⟨nm,nn,lb,fv,hn,c0,c1,c2,c3⟩:∃nm nn lb fv,nm=Fl.kindWords.getD k []/\wr.cell? ⟨T,k*4,none⟩=some (.string ⟨nm.toArray⟩)/\wr.cell? ⟨T,k*4+1,none⟩=some (.int .i64 nn)/\wr.cell? ⟨T,k*4+2,none⟩=some (.bool lb)/\wr.cell? ⟨T,k*4+3,none⟩=some (.func (.func fv) #[] #[]):=by
    rcases(show k=0\/k=1\/k=2\/k=3\/k=4\/k=5\/k=6\/k=7 by omega) with rfl|rfl|rfl|rfl|rfl|rfl|rfl|rfl<;>exact⟨_,_,_,_,rfl,(cell_of_row _ _ _ _ _ _ hrow).trans rfl,(cell_of_row _ _ _ _ _ _ hrow).trans rfl,(cell_of_row _ _ _ _ _ _ hrow).trans rfl,(cell_of_row _ _ _ _ _ _ hrow).trans rfl⟩
   have HM:Hid (nm=Fl.kindWords.getD k []):=hn;have hkI:(k:Int)<8:=(by omega);clear hrow hn;have hTr:T<wr.heap.size:=(by omega)
   go_wp2_with fail
   go_region
   have HB2:Hid (Below w.heap.size w (wr.alloc (.cells #[.string ⟨nm.toArray⟩,.int .i64 nn,.bool lb,.func (.func fv) #[] #[]] 97)).drew):=(hbel.alloc hbs _).drew
   by_cases hx:nm=x
   ·have b1:(nm==x)=true:=by rw[hx];simp
    have HP:Hid (Fl.place Fl.kindWords x=(k:Int)):=Fl.place_hit _ _ k HN.out hlt (by rw[<-HM.out,hx];simp);clear hx c0 c1 c2 c3;go_wp2;go_ret;exact⟨Js HP.out.symm,HB2.out⟩
   ·have b1:(nm==x)=false:=by rw[beq_eq_false_iff_ne];exact hx
    clear hx c0 c1 c2 c3;go_wp2
    go_roundw
    case rel=>exact⟨k+1,by omega,by go_num,λj hj=>by
     by_cases hjk:j<k
     ·exact HN.out j hjk
     ·have:j=k:=by omega
      rw[this,<-HM.out];exact b1,HB2.out⟩
    case measure=>simp[intOf];omega
  ·go_wp2
   go_ret;exact⟨Js (Fl.place_miss _ _ (λj hj=>HN.out j (by have:j<8:=hj;omega))).symm,hbel⟩
def Vs(w:World):Prop:=∃ty fz,w.heap[1]?=some (.cells (Lib.pow10Tab.map λz=>Value.int .u64 z).toArray ty fz)
def Vs.below{B:Nat}{w w':World}(h:Vs w)(hB:w.heap.size<=B)(hb:Below B w w'):Vs w':=by
 obtain⟨ty,fz,h⟩:=h;have hl:=(Array.getElem?_eq_some_iff.1 h).1;exact⟨ty,fz,(hb.block _ (by omega)).trans h⟩
def yq5(w:World)(k:Nat)(os:Array Obj):Below w.heap.size w (Go.Sort.grow (w.drewN k) os):=by
 refine Below.trans (below_drewN (Below.refl _ _) k) ⟨rfl,rfl,rfl,by simp[Go.Sort.grow],λi hi=>?_⟩;have hi':i<(w.drewN k).heap.size:=hi;show ((w.drewN k).heap++os)[i]?=_;rw[Array.getElem?_append_left hi']
def zj6(n:Nat)(w:World)(hn:n<9223372036854775807)(h:Vs w):Calls prog 48 #[.int .i64 n] w λe w'=>e=.returned (.string ⟨(Lib.decDigits n).toArray⟩)/\Below w.heap.size w w':=by
 obtain⟨ty,fz,h⟩:=h;refine(Tryz.strconv_Itoa (n:Int) (by omega) (by omega) w ?_).mono ?_
 ·show World.var? _ _ _=_
  unfold World.var?;rw[show prog.globalNamed _=some 1 from by kernel_rfl];simp only[Option.bind_some,h]
 ·rintro e w' ⟨rfl,k,os,rfl⟩
  refine⟨?_,yq5 w k os⟩;unfold Lib.itoa;rw[if_neg (by omega)];simp
namespace Fl
def blanks(xs:List Int):List UInt8:=xs.flatMap (λx=>32::Lib.decDigits x.toNat)
def spaced(xs:List Int):List UInt8:=blanks xs++[10]
def blanks_snoc(xs:List Int)(x:Int):blanks (xs++[x])=blanks xs++(32::Lib.decDigits x.toNat):=by simp[blanks]
def blanks_take(xs:List Int)(k:Nat)(h:k<xs.length):blanks (xs.take (k+1))=blanks (xs.take k)++(32::Lib.decDigits (xs.getD k 0).toNat):=by
 have e:xs.take (k+1)=xs.take k++[xs.getD k 0]:=by
  rw[List.take_add_one,List.getElem?_eq_getElem h];simp[List.getD_eq_getElem?_getD,h]
 rw[e,blanks_snoc]
end Fl
def zg6:∀(xs:List Int),(∀x∈xs,x<1000000000000000000)->(Fl.blanks xs).length<=19*xs.length
 |[],_=>by simp[Fl.blanks]
 |x::r,h=>by
  have h1:=zg6 r (λy hy=>h y (List.mem_cons_of_mem _ hy));have h2:=zo7 x.toNat (by have:=h x List.mem_cons_self;omega);simp only[Fl.blanks,List.flatMap_cons,List.length_append,List.length_cons]at h1⊢;omega
def zpw(w:World)(base:Nat)(v:Value)(n:Nat)(xs:List Value)(hown:w.ownsRow base 3 1 v n xs)(c:Nat)(ty:TypeId){i:TypeInfo}(hi:prog.info? 3=some i):(Builtin.append_ #[23,23] ty #[v,.slice none 0 c]).run prog w=.ok v w:=by
 rcases hown.2 with⟨rfl,h0⟩|⟨g,cap,cur,rfl,hb,hg,hnc,hcm,hcs,ht⟩
 ·simp[Builtin.append_,run_underlying underlying23,sizeOf,typeInfo,hi,Builtin.lenOf,Builtin.firstCells]
 ·simp[Builtin.append_,run_underlying underlying23,sizeOf,typeInfo,hi,Builtin.lenOf,Builtin.firstCells,hnc,storeCells]
def Je{w:World}{ops:Array Oper}{rest:List Oper}{o:Oper}{a:Act}{Q:Exit->Act->World->Prop}(hgd:o.guard=none)(s x:Operand)
  (ho:o.op=.call {callee:=.builtin .append,args:=#[s,x],argTypes:=#[23,23]}) (base:Nat) (v:Value) (ys:List Int) (hs:a.eval s=v) (hown:w.ownsRow base 3 1 v ys.length (ys.map (Value.int .i64))) (xv:Value) (hx:a.eval x=xv) (B:Nat) (xs:List Int) (hin:Zy B w xv xs) (hyl:ys.length<=1000000) (hlen:xs.length<=1000000) (hbase:base<=w.heap.size)
  (h:∀v' w',w'.ownsRow base 3 1 v' (ys++xs).length ((ys++xs).map (Value.int .i64))->w.grownBy w' v.ownBlock->wpList prog ops Q rest (a.put o.dst v') w'):wpList prog ops Q (o::rest) a w:=by
 obtain⟨i0,hi,hz0,hz1,hz2⟩:=info_parts Tryz.infoInt;obtain⟨ao,cap,rfl,hc,hm,hcell⟩:=hin;have hgo:∀ad,ao=some ad->(∀j u,(xs.map (Value.int .i64))[j]?=some u->w.cell? (ad.add j)=some u)->wpList prog ops Q (o::rest) a w:=by
  rintro ad rfl hcs;refine wpList_append_own _ hgd s x 23 ho base 3 i0 (.int .i64 0) 1 8 underlying23 hi hz0 hz1 hz2 rfl (by decide) _ _ _ hs hown ad xs.length cap (xs.map (Value.int .i64)) hx (by simp) hcs ?_ (by unfold maxLen;omega) (by omega) hbase ?_
  ·intro u hu;simp only[List.mem_map]at hu;obtain⟨y,_,rfl⟩:=hu;rfl
  ·intro v' w' hown' hg _
   exact h v' w' (by rw[List.length_append,List.map_append];exact hown') hg
 by_cases hne:xs=[]
 ·subst hne
  cases ao with
  |some ad=>exact hgo ad rfl (by simp)
  |none=>
   have hrun:=zpw w base v ys.length _ hown cap o.type hi;refine wpList_plain hgd λK hK=>?_;unfold Oper.wp;simp only[List.length_nil]at hx;simp[execOp,ho,resolve,invoke,builtin,hs,hx,hrun,Result.andThen];exact hK _ _ (h _ _ (by simpa using hown) ⟨rfl,rfl,rfl,Nat.le_refl _,λ_ _ _=>rfl⟩)
 ·obtain⟨b,off,rfl,hbB,hcells⟩:=hcell hne
  refine hgo _ rfl ?_;intro j u hj;rw[List.getElem?_map]at hj;obtain⟨y,hy,rfl⟩:=Option.map_eq_some_iff.1 hj;have hjl:j<xs.length:=(List.getElem?_eq_some_iff.1 hy).1;have:=hcells j hjl;rw[List.getD_eq_getElem?_getD,hy]at this
  have h2:(⟨b,off,none⟩:Addr).add j=⟨b,off+j,none⟩:=by unfold Addr.add;split<;>simp_all
  rw[h2];simpa using this
namespace Fl
def lineNums(n:Node):List Int:=if 0<fields n.kind then [n.level,n.a,n.b,n.c].take (1+(fields n.kind).toNat) else n.level::n.list
def nodeLine(k:Nat)(n:Node):List UInt8:=Lib.decDigits k++(32::(kindWords.getD n.kind.toNat []++spaced (lineNums n)))
def textTo(ls:List Int)(ns:List Node)(k:Nat):List UInt8:=wLocals++spaced ls++(List.range k).flatMap (λi=>nodeLine i (nth ns i))
def text(ls:List Int)(ns:List Node):List UInt8:=textTo ls ns ns.length
def textTo_succ(ls:List Int)(ns:List Node)(k:Nat):textTo ls ns (k+1)=textTo ls ns k++nodeLine k (nth ns k):=by
 unfold textTo;rw[List.range_succ];simp
def Tellable(n:Node):Prop:=0<=n.kind/\n.kind<8/\(0<=n.level/\n.level<2147483648)/\(0<=n.a/\n.a<2147483648)/\(0<=n.b/\n.b<2147483648)/\(0<=n.c/\n.c<2147483648)/\n.list.length<=16/\∀x∈n.list,0<=x/\x<2147483648
end Fl
structure zz0(ls:List Int)(WQ wr:World)(L Q:Nat)(lv nv:Value)(acc:List Fl.Node)(lvs:List Value):Prop where
 hl:lvs.length=acc.length
 hn:wr.ownsRow (Q+1) 121 6 nv acc.length (Xs acc lvs)
 hall:∀p,p∈(lv,ls)::Ye acc lvs->Vz wr p.1 p.2 (.slice none 0 0) nv/\(p.2≠[]->∀b,p.1.ownBlock=some b->L<=b/\b≠Q)
 c0:wr.cell? ⟨Q,0,none⟩=some lv
 c1:wr.cell? ⟨Q,1,none⟩=some nv
 fq:∀j,wr.frozen? ⟨Q,j,none⟩=false
 hb:Below Q WQ wr
 hz:Q<wr.heap.size
 hL:L<=Q
section
variable{ls:List Int}{WQ wr W1 W2:World}{L Q:Nat}{lv nv nv' lvn:Value}{acc:List Fl.Node}{lvs:List Value}{nd:Fl.Node}
def zz0.below(h:zz0 ls WQ wr L Q lv nv acc lvs)(hb:Below wr.heap.size wr W1):zz0 ls WQ W1 L Q lv nv acc lvs:=by
 have q:∀o,W1.cell? ⟨Q,o,none⟩=wr.cell? ⟨Q,o,none⟩:=λo=>hb.cell (p:=⟨Q,o,none⟩) h.hz;have og:wr.grownBy W1 none:=⟨hb.os,hb.tape,hb.output,hb.size,λk hk _=>hb.block k hk⟩;exact⟨h.hl,h.hn.kept og (by cases nv.ownBlock<;>simp),λp hp=>⟨(h.hall p hp).1.below hb,(h.hall p hp).2⟩,(q _).trans h.c0,(q _).trans h.c1,λj=>(hb.frozen (p:=⟨Q,j,none⟩) h.hz).trans (h.fq j),h.hb.trans (hb.mono (Nat.le_of_lt h.hz)),Nat.lt_of_lt_of_le h.hz hb.size,h.hL⟩
def zz0.locals(h:zz0 ls WQ wr L Q lv nv acc lvs):Zy wr.heap.size wr lv ls:=(h.hall (lv,ls) (by simp)).1.1
def zz0.nodes(h:zz0 ls WQ wr L Q lv nv acc lvs):Zm wr.heap.size wr nv acc:=
 Vd h.hn h.hl (λi hi=>(h.hall _ (by simp only[List.mem_cons];right;exact Us acc lvs i h.hl hi)).1.1)
def zz0.push(h:zz0 ls WQ wr L Q lv nv acc lvs)(hb:Below wr.heap.size wr W1)(hi:Zy W1.heap.size W1 lvn nd.list)(hf:∀b,lvn.ownBlock=some b->wr.heap.size<=b)
  (ho:W2.ownsRow (Q+1) 121 6 nv' (acc.length+1) (Xs acc lvs++Zj nd lvn)) (hg:W1.grownBy W2 nv.ownBlock) (hw:nv'.ownBlock=nv.ownBlock\/nv'.ownBlock=some W1.heap.size):
  zz0 ls WQ (W2.setCell ⟨Q,1,none⟩ nv') L Q lv nv' (acc++[nd]) (lvs++[lvn]):=by
 have h1:=h.below hb;have hz:=h.hz;have hsz:=hb.size;have hsg:=hg.size
 have hs:(W2.setCell ⟨Q,1,none⟩ nv').heap.size=W2.heap.size:=by simp[World.setCell]
 have hne:some Q≠nv.ownBlock:=λhh=>by have:=(h.hn.lt Q hh.symm).1;omega
 have c0:W2.cell? ⟨Q,0,none⟩=some lv:=hg.cell h1.c0 hne;have c1:W2.cell? ⟨Q,1,none⟩=some nv:=hg.cell h1.c1 hne;have fq:∀j,W2.frozen? ⟨Q,j,none⟩=false:=λj=>(World.frozen?_of_block (w:=W1) (hg.block Q (by omega) hne)).trans (h1.fq j);have hk:∀p,p∈(lv,ls)::Ye (acc++[nd]) (lvs++[lvn])->Vz W2 p.1 p.2 (.slice none 0 0) nv'/\(p.2≠[]->∀b,p.1.ownBlock=some b->L<=b/\b≠Q):=by
  intro p hp;rw[Ua _ _ _ _ h.hl]at hp;simp only[List.mem_cons,List.mem_append,List.not_mem_nil,or_false]at hp;have old:p∈(lv,ls)::Ye acc lvs->Vz W2 p.1 p.2 (.slice none 0 0) nv'/\(p.2≠[]->∀b,p.1.ownBlock=some b->L<=b/\b≠Q):=λhp=>⟨(h1.hall p hp).1.second hg hw,(h1.hall p hp).2⟩;rcases hp with hp|hp|hp
  ·exact old (by rw[hp];simp)
  ·exact old (by simp[hp])
  ·subst hp
   have hkn:Vz W1 lvn nd.list (.slice none 0 0) nv:=Vz.new (w:=wr) hi hf (λb hb=>by simp[Value.ownBlock]at hb) (λb hb=>(h.hn.lt b hb).2);exact⟨hkn.second hg hw,λ_ b hh=>by have:=hf b hh;have:=h.hL;omega⟩
 refine⟨by simp[h.hl],?_,λp hp=>⟨(hk p hp).1.set (λhx hh=>((hk p hp).2 hx Q hh).2 rfl),(hk p hp).2⟩,(zqx (by decide)).trans c0,Ur c1,λj=>by rw[World.frozen?_setCell];exact fq j,?_,by omega,h.hL⟩
 ·rw[zv7 _ _ _ _ h.hl,List.length_append];exact ownsRow_setCell_below ho (by simp) nv'
 ·exact(h1.hb.grown hg (by omega) (λk hk=>by have:=(h.hn.lt k hk).1;omega)).setCell (by simp) _
def zz0.new(hb:Below Q WQ wr)(hz:Q<wr.heap.size)(hi:Zy wr.heap.size wr lv ls)(hL:L<=Q)(hne:ls≠[]->∀b,lv.ownBlock=some b->L<=b/\b≠Q)(c0:wr.cell? ⟨Q,0,none⟩=some lv)(c1:wr.cell? ⟨Q,1,none⟩=some (.slice none 0 0))(fq:∀j,wr.frozen? ⟨Q,j,none⟩=false):
  zz0 ls WQ wr L Q lv (.slice none 0 0) [] []:=by
 refine⟨rfl,World.ownsRow_nil _ _ _ _,λp hp=>?_,c0,c1,fq,hb,hz,hL⟩;simp only[Ye,List.mem_singleton]at hp;subst hp;refine⟨⟨hi,λhx=>?_⟩,hne⟩;obtain⟨b,hbb,_⟩:=zxx hi hx;rw[hbb];simp[Value.ownBlock]
end
def zs3{l:List (List UInt8)}{j:Nat}(h:j+1<l.length):l.drop j=l.getD j []::l.drop (j+1)/\l.drop (j+1)≠[]:=by
 refine⟨by rw[List.drop_eq_getElem_cons (by omega)];simp[List.getD_eq_getElem?_getD,show j<l.length by omega],λhh=>?_⟩;have:=congrArg List.length hh;simp at this;omega
def yuy(r:(List Int×List Fl.Node)×Nat)(w:World)(e:Ending)(w':World):Prop:=
 Below w.heap.size w w'/\∃la n lc na n' nc,e=.returned (.tuple #[.agg #[.slice la n lc,.slice na n' nc],.int .i64 (r.2:Int)])/\(r.2=0->Zy w'.heap.size w' (.slice la n lc) r.1.1/\Zm w'.heap.size w' (.slice na n' nc) r.1.2)
def Mid(Q B:Nat)(W wr:World):Prop:=∀g,Q<g->g<B->wr.heap[g]?=W.heap[g]?
def Mid.refl(Q B:Nat)(W:World):Mid Q B W W:=λ_ _ _=>rfl
def Mid.below{Q B:Nat}{W wr W1:World}(h:Mid Q B W wr)(hB:B<=wr.heap.size)(hb:Below wr.heap.size wr W1):Mid Q B W W1:=λg h1 h2=>(hb.block g (by omega)).trans (h g h1 h2)
def Mid.grown{Q B:Nat}{W wr W1:World}{row:Option Nat}(h:Mid Q B W wr)(hB:B<=wr.heap.size)(hg:wr.grownBy W1 row)(hr:∀b,row=some b->B<=b):Mid Q B W W1:=λg h1 h2=>(hg.block g (by omega) (λhh=>by have:=hr g hh.symm;omega)).trans (h g h1 h2)
def Mid.set{Q B:Nat}{W wr:World}(h:Mid Q B W wr)(o:Nat)(u:Value):Mid Q B W (wr.setCell ⟨Q,o,none⟩ u):=λg h1 h2=>by
 rw[<-h g h1 h2];exact Deep.blk_setCell_other _ _ _ _ (by show g≠Q;omega)
def Mid.cell{Q B:Nat}{W wr:World}(h:Mid Q B W wr){g o:Nat}(h1:Q<g)(h2:g<B):wr.cell? ⟨g,o,none⟩=W.cell? ⟨g,o,none⟩:=World.cell?_of_block (w:=W) (h g h1 h2)
def yuy.bad{r:(List Int×List Fl.Node)×Nat}{w w':World}{la na:Option Addr}{n lc n' nc:Nat}{k:Int}(hr:(r.2:Int)=k)(hk:0<k)(hb:Below w.heap.size w w'):yuy r w (.returned (.tuple #[.agg #[.slice la n lc,.slice na n' nc],.int .i64 k])) w':=by
 refine⟨hb,la,n,lc,na,n',nc,by rw[hr],λh=>?_⟩;rw[h]at hr;simp at hr;omega
def zm6(w:List UInt8):∀(l:List (List UInt8)) (i:Nat),Fl.placeFrom i w l<((i+l.length:Nat):Int)
 |[],i=>by simp[Fl.placeFrom];omega
 |x::r,i=>by
  unfold Fl.placeFrom
  split
  ·simp only[List.length_cons];omega
  ·have:=zm6 w r (i+1);simp only[List.length_cons];omega
def ykv(x:List UInt8):Fl.place Fl.kindWords x<8:=zm6 x Fl.kindWords 0
structure Ju(lines:List (List UInt8))(W3 wr:World)(Q:Nat)(j:Nat)(ls:List Int)(lv nv:Value)(acc:List Fl.Node)(lvs:List Value):Prop where
 hj:j<lines.length
 hg:zz0 ls W3 wr Q Q lv nv acc lvs
 ha:acc.length=j - 1
 hr:Fl.readL [] [] 0 lines=Fl.readL ls acc j (lines.drop j)
 h0:j=0->ls=[]/\nv=.slice none 0 0
 hm:Mid Q W3.heap.size W3 wr
 hnb:∀b,nv.ownBlock=some b->W3.heap.size<=b
 hz:W3.heap.size<=wr.heap.size
section
variable{lines:List (List UInt8)}{W3 wr w1 w2:World}{Q i:Nat}{ls vs:List Int}{lv nv nv' v lvn:Value}{acc:List Fl.Node}{lvs:List Value}{nd:Fl.Node}
def Ju.first(h:Ju lines W3 wr Q 0 ls lv nv acc lvs)(hb1:Below wr.heap.size wr w1)(hb2:Below w1.heap.size w1 w2)(ho:w2.ownsRow w1.heap.size 3 1 v vs.length (vs.map (Value.int .i64)))(h1:1<lines.length)(hl:Fl.localsOf (Fl.cutR 32 (lines.getD 0 []))=some vs):
  Ju lines W3 (w2.setCell ⟨Q,0,none⟩ v) Q 1 vs v nv acc lvs:=by
 obtain⟨hls,hnv⟩:=h.h0 rfl;have hacc:acc=[]:=List.eq_nil_of_length_eq_zero (by have:=h.ha;omega);subst hls hnv hacc;have hlvs:lvs=[]:=List.eq_nil_of_length_eq_zero (by have:=h.hg.hl;simpa using this);subst hlvs;have hz:=h.hg.hz;have hz3:=h.hz;have s1:=hb1.size;have s2:=hb2.size
 have hs:(w2.setCell ⟨Q,0,none⟩ v).heap.size=w2.heap.size:=by simp[World.setCell]
 have hQ2:Below wr.heap.size wr w2:=hb1.trans (hb2.mono s1);have c0:w2.cell? ⟨Q,0,none⟩=some lv:=(hQ2.cell (p:=⟨Q,0,none⟩) hz).trans h.hg.c0;have c1:w2.cell? ⟨Q,1,none⟩=some (.slice none 0 0):=(hQ2.cell (p:=⟨Q,1,none⟩) hz).trans h.hg.c1;have fq:∀j,w2.frozen? ⟨Q,j,none⟩=false:=λj=>(hQ2.frozen (p:=⟨Q,j,none⟩) hz).trans (h.hg.fq j);have hov:∀b,v.ownBlock=some b->w1.heap.size<=b:=λb hb=>(ho.lt b hb).1;refine⟨h1,zz0.new ?_ (by omega) (Xh (Zy.of_own ho) (λ_ hh=>?_)) (Nat.le_refl _) (λ_ b hb=>?_) (Ur c0) ((zqx (by decide)).trans c1) (λj=>by rw[World.frozen?_setCell];exact fq j),rfl,?_,λhh=>by omega,?_,λb hb=>by simp[Value.ownBlock]at hb,by omega⟩
 ·exact(h.hg.hb.trans (hQ2.mono (by omega))).setCell (Nat.le_refl _) _
 ·have h9:w1.heap.size<=Q:=hov _ hh
  omega
 ·have:=hov b hb;omega
 ·obtain⟨hd,hne⟩:=zs3 (l:=lines) (j:=0) (by omega)
  have e:lines=lines.getD 0 []::lines.drop 1:=(by simpa using hd)
  conv=>lhs;rw[e]
  rw[Fl.readL_first _ _ _ _ hne,hl]
 ·exact(h.hm.below hz3 hQ2).set 0 v
def Ju.bad0(h:Ju lines W3 wr Q 0 ls lv nv acc lvs)(h1:1<lines.length)(hl:Fl.localsOf (Fl.cutR 32 (lines.getD 0 []))=none):(Fl.readL [] [] 0 lines).2=1:=by
 obtain⟨hd,hne⟩:=zs3 (l:=lines) (j:=0) (by omega)
 have e:lines=lines.getD 0 []::lines.drop 1:=by simpa using hd
 rw[e,Fl.readL_first _ _ _ _ hne,hl]
def Ju.next(h:Ju lines W3 wr Q (i+1) ls lv nv acc lvs)(hb:Below wr.heap.size wr w1)(hi:Zy w1.heap.size w1 lvn nd.list)(hf:∀b,lvn.ownBlock=some b->wr.heap.size<=b)
  (ho:w2.ownsRow (Q+1) 121 6 nv' (acc.length+1) (Xs acc lvs++Zj nd lvn)) (hg:w1.grownBy w2 nv.ownBlock) (hw:nv'.ownBlock=nv.ownBlock\/nv'.ownBlock=some w1.heap.size) (h1:i+2<lines.length) (hn:Fl.nodeOf i (Fl.cutR 32 (lines.getD (i+1) []))=some nd):
  Ju lines W3 (w2.setCell ⟨Q,1,none⟩ nv') Q (i+2) ls lv nv' (acc++[nd]) (lvs++[lvn]):=by
 have s1:=hb.size;have s2:=hg.size;have hz3:=h.hz
 have hs:(w2.setCell ⟨Q,1,none⟩ nv').heap.size=w2.heap.size:=by simp[World.setCell]
 refine⟨h1,h.hg.push hb hi hf ho hg hw,by have:=h.ha;simp;omega,?_,λhh=>by omega,?_,λb hb'=>?_,by omega⟩
 ·obtain⟨hd,hne⟩:=zs3 (l:=lines) (j:=i+1) (by omega)
  rw[h.hr,hd,Fl.readL_next _ _ _ _ _ hne,hn]
 ·exact((h.hm.below hz3 hb).grown (by omega) hg h.hnb).set 1 nv'
 ·rcases hw with hw|hw
  ·exact h.hnb b (hw ▸ hb')
  ·rw[hw]at hb';simp at hb';omega
def Ju.bad(h:Ju lines W3 wr Q (i+1) ls lv nv acc lvs)(h1:i+2<lines.length)(hn:Fl.nodeOf i (Fl.cutR 32 (lines.getD (i+1) []))=none):(Fl.readL [] [] 0 lines).2=i+2:=by
 obtain⟨hd,hne⟩:=zs3 (l:=lines) (j:=i+1) (by omega);rw[h.hr,hd,Fl.readL_next _ _ _ _ _ hne,hn]
def Ju.still{j:Nat}(h:Ju lines W3 wr Q j ls lv nv acc lvs)(hb:Below wr.heap.size wr w1)(hg:w1.grownBy w2 nv.ownBlock):w2.cell? ⟨Q,1,none⟩=some nv/\∀o,w2.frozen? ⟨Q,o,none⟩=false:=by
 have G:=h.hg.below hb
 have hne:some Q≠nv.ownBlock:=λhh=>by have:=(h.hg.hn.lt Q hh.symm).1;omega
 exact⟨hg.cell G.c1 hne,λj=>(World.frozen?_of_block (w:=w1) (hg.block Q G.hz hne)).trans (G.fq j)⟩
end
def zz1{w:World}{ops:Array Oper}{rest:List Oper}{o:Oper}{a:Act}{Q:Exit->Act->World->Prop}(hgd:o.guard=none)(s x:Operand)
  (ho:o.op=.call {callee:=.builtin .append,args:=#[s,x],argTypes:=#[24,24]}) (base:Nat) (nv:Value) (acc:List Fl.Node) (lvs:List Value) (hs:a.eval s=nv) (hown:w.ownsRow base 121 6 nv acc.length (Xs acc lvs))
  (B:Nat) (nd:Fl.Node) (la:Option Addr) (ln lc:Nat) (hx:a.eval x=.slice (some ⟨B,0,none⟩) 1 1) (hrow:∀j u,(Zj nd (.slice la ln lc))[j]?=some u->w.cell? ⟨B,j,none⟩=some u) (hn:acc.length<=1000000) (hbase:base<=w.heap.size)
  (h:∀v' w',w'.ownsRow base 121 6 v' (acc.length+1) (Xs acc lvs++Zj nd (.slice la ln lc))->w.grownBy w' nv.ownBlock->(v'.ownBlock=nv.ownBlock\/v'.ownBlock=some w.heap.size)->wpList prog ops Q rest (a.put o.dst v') w'):wpList prog ops Q (o::rest) a w:=by
 obtain⟨i1,hi1,hy0,hy1,hyb⟩:=info_parts Tryz.infoNode;refine Zc _ hgd s x 24 ho base 121 i1 (.agg #[.int .i64 0,.int .i64 0,.int .i64 0,.int .i64 0,.int .i64 0,.slice none 0 0]) 6 64 underlying24 hi1 hy0 hy1 hyb rfl (by decide) _ _ _ hs hown ⟨B,0,none⟩ 1 1 (Zj nd (.slice la ln lc)) hx rfl (by decide) ?_ ?_ (by unfold maxLen;omega) (by omega) hbase h
 ·intro j u hj
  have h2:(⟨B,0,none⟩:Addr).add j=⟨B,j,none⟩:=by unfold Addr.add;split<;>simp_all
  rw[h2];exact hrow j u hj
 ·intro u hu;simp only[Zj,List.mem_cons,List.not_mem_nil,or_false]at hu;rcases hu with rfl|rfl|rfl|rfl|rfl|rfl<;>rfl
def ym3{w W:World}{g cap:Nat}{vs:List Int}(hc:∀i,i<vs.length->w.cell? ⟨g,i,none⟩=some (.int .i64 (vs.getD i 0)))(hb:Below w.heap.size w W)(hg:g<w.heap.size)(h1:1<=vs.length)(h2:vs.length<=cap)(h3:vs.length<=1000000):Zy W.heap.size W (.slice (some ⟨g,1,none⟩) (vs.length - 1) (cap - 1)) (vs.drop 1):=by
 refine⟨_,_,by rw[List.length_drop],by rw[List.length_drop];omega,by rw[List.length_drop];unfold maxLen;omega,λ_=>⟨g,1,rfl,by have:=hb.size;omega,λi hi=>?_⟩⟩;rw[List.length_drop]at hi;rw[hb.cell (p:=⟨g,1+i,none⟩) hg,hc (1+i) (by omega),Nat.add_comm 1 i];simp[List.getD_eq_getElem?_getD]
def yq6{W:World}{g:Nat}{vs:List Int}(h1:vs.length=1):Zy W.heap.size W (.slice (some ⟨g,0,none⟩) 0 0) (vs.drop 1):=by
 rw[List.drop_of_length_le (by omega)];exact⟨_,_,rfl,by simp,by simp[maxLen],λh=>absurd rfl h⟩
end Go.Proofs.YtminjljgedopkaaGreatDoor
namespace Go.Proofs.YtminjljgedopkaaGreatDoor
open Go.Proofs.Tryz

open Go.RowKit
def yj0(f:FuncId)(cap:Array Value)(l:List UInt8)(w:World)(St:Nat->List UInt8->World->Prop)(Rp:Int->Int->World->Prop)
  (hin:∀args W,(callFunc f args).run prog W=.ok (.enter f args) W)
  (hb:∀i s W W',St i s W->Below W.heap.size W W'->St i s W')
  (hm:∀i s W,St i s W->Zh W)
  (hs:∀i s W,St i s W->s.length+i<=40000)
  (hr:∀i s W,St i s W->(i=0\/s≠[])->(Lib.cut s [10]).2.2=false->Rp 2 ((i:Int)+1) W)
  (hd:∀i s W b n,St i s W->(i=0\/s≠[])->(Lib.cut s [10]).2.2=true->n=(Fl.cutR 32 (Lib.cut s [10]).1).length->Zg W.heap.size W (.slice (some ⟨b,0,none⟩) n n) (Fl.cutR 32 (Lib.cut s [10]).1)->
   Calls prog f (#[.int .i64 ((i:Int)+1),.slice (some ⟨b,0,none⟩) n n]++cap) W λe W'=>(e=.returned (.tuple #[])/\St (i+1) (Lib.cut s [10]).2.1 W')\/∃n p,e=.panicked (Zl n p)/\Rp n p W')
  (h0:St 0 l w):
  Calls prog 55 #[.string ⟨l.toArray⟩,.func (.func f) #[] cap] w (zt6 St Rp):=by
 have HB:Hid _:=hb;have HM:Hid _:=hm;have HS:Hid _:=hs;have HRR:Hid _:=hr;have HD:Hid _:=hd;have H0:Hid _:=h0;clear hb hm hs hr hd h0
 go_enter func55,ntmps55
 go_wp2
 go_loopw [0,5] (λs i wr=>∃(k:Nat) (t:List UInt8),s=.string ⟨t.toArray⟩/\i=.int .i64 k/\St k t wr) (λs i _=>match s with| .string b=>b.size|_=>0)
 case atStart=>exact⟨0,l,rfl,rfl,H0.out⟩
 case round=>
  obtain⟨k,t,rfl,rfl,hst⟩:=hrel;have HST:Hid (St k t wr):=hst;have hsz:=HS.out k t wr hst;clear hst
  by_cases hgo:k=0\/t≠[]
  ·have b0:((k:Int)==0)=true\/((k:Int)==0)=false/\t.isEmpty=false:=by
    rcases hgo with h|h
    ·left;simp[h]
    ·by_cases hk:k=0
     ·left;simp[hk]
     ·right;exact⟨by simp;omega,by simpa using h⟩
   have HGO:Hid (k=0\/t≠[]):=hgo;clear hgo;have hcut:=yy7 t wr (by omega) (HM.out _ _ _ HST.out);obtain⟨a,r,en,hcr⟩:∃a r en,Lib.cut t [10]=(a,r,en):=⟨_,_,_,rfl⟩;rw[hcr]at hcut;have HCUT:Hid (Calls prog 99 #[.string ⟨t.toArray⟩,.string ⟨#[10]⟩] wr λe w'=>e=.returned (.tuple #[.string ⟨a.toArray⟩,.string ⟨r.toArray⟩,.bool en])/\Below wr.heap.size wr w'):=hcut;have HCR:Hid (Lib.cut t [10]=(a,r,en)):=hcr;clear hcut hcr;rcases b0 with b0|⟨b0,b1⟩
   all_goals
    go_wp2_with fail
    refine HCUT.out.mono ?_;rintro e w1 ⟨rfl,hb1⟩;have HST1:Hid (St k t w1):=HB.out _ _ _ _ HST.out hb1;clear hb1
    cases en with
    |false=>
     go_wp2_with fail
     refine(Jj 2 ((k:Int)+1) w1).mono ?_;rintro e w2 ⟨rfl,hb2⟩;exact⟨rfl,.inr ⟨_,_,rfl,HRR.out k t w2 (HB.out _ _ _ _ HST1.out hb2) HGO.out (by rw[HCR.out])⟩⟩
    |true=>
     have hfd:=Fl.cut_found 10 t (by rw[HCR.out]);rw[HCR.out]at hfd;have hrl:r.length<t.length:=hfd.2;have hal:a.length<=40000:=by
      have:=(zt5 10 t).2 a (by rw[hfd.1];exact List.mem_cons_self);omega
     clear hfd;obtain⟨nw,hnw⟩:∃nw,nw=(Fl.cutR 32 a).length:=⟨_,rfl⟩;have HSP:Hid (Calls prog 100 #[.string ⟨a.toArray⟩,.string ⟨#[32]⟩] w1 λe w'=>e=.returned (.slice (some ⟨w1.heap.size,0,none⟩) nw nw)/\Zg w'.heap.size w' (.slice (some ⟨w1.heap.size,0,none⟩) nw nw) (Fl.cutR 32 a)/\Below w1.heap.size w1 w'):=by
      show Calls _ _ _ _ _;rw[hnw];exact zhy a w1 hal (HM.out _ _ _ HST1.out)
     have HNW:Hid (nw=(Fl.cutR 32 a).length):=hnw;clear hnw
     go_wp2_with fail
     refine HSP.out.mono ?_;rintro e w2 ⟨rfl,hwa,hb2⟩;have HST2:Hid (St k t w2):=HB.out _ _ _ _ HST1.out hb2;have hdo:=HD.out k t w2 w1.heap.size nw HST2.out HGO.out (by rw[HCR.out]) (by rw[HCR.out];exact HNW.out) (by rw[HCR.out];exact hwa);rw[HCR.out]at hdo;have HDO:Hid (Calls prog f (#[.int .i64 ((k:Int)+1),.slice (some ⟨w1.heap.size,0,none⟩) nw nw]++cap) w2 λe W'=>(e=.returned (.tuple #[])/\St (k+1) r W')\/∃n p,e=.panicked (Zl n p)/\Rp n p W'):=hdo;clear hwa hb2 hdo
     go_wp2_with fail
     refine HDO.out.mono ?_;rintro e w3 (⟨rfl,hs3⟩|⟨n,p,rfl,hp⟩)
     ·have HS3:Hid (St (k+1) r w3):=hs3
      clear hs3;go_wp2
      go_roundw
      case rel=>exact⟨k+1,r,rfl,by go_num,HS3.out⟩
      case measure=>exact hrl
     ·exact⟨rfl,.inr ⟨_,_,rfl,hp⟩⟩
  ·have hk:k≠0:=λh=>hgo (.inl h)
   have ht:t=[]:=Classical.byContradiction λh=>hgo (.inr h);subst ht;have b0:((k:Int)==0)=false:=(by simp;omega);have HK:Hid (0<k):=(by show 0<k;omega);clear hgo hk;go_wp2;go_ret;exact .inl ⟨k,rfl,HK.out,HST.out⟩
section
variable{P:Program}{Q:Exit->Act->World->Prop}{S:World->Prop}
def zy9{id:Nat}{a:Act}{w:World}{l:List Oper}(S:World->Prop)(σ:List Nat)(t1 t2 t3:Nat)(G:List (Nat×Nat))(hm:P.follows .mixedOrders=true)
  (hB:(Region.noSelect l.toArray && (zzw l.toArray [] σ && (decide (Region.ready .any l.toArray (Zq l.toArray.size σ)=[t1]) && (decide (Region.ready .any l.toArray (Zq l.toArray.size (σ++[t1]))=[t2]) && (decide (Region.ready .any l.toArray (Zq l.toArray.size (σ++[t1]++[t2]))=[t3]) && (decide (Region.ready .any l.toArray (Zq l.toArray.size (σ++[t1]++[t2]++[t3]))=[]) && G.all (λp=>decide (((l.toArray[p.1]?).bind λx=>x.dst)=some p.2))))))))=true)
  (hlen:l.length=3+σ.length) (so:List Oper) (o1 o2 o3:Oper) (hso:σ.map (λi=>l.toArray[i]?)=so.map some) (h1:l.toArray[t1]?=some o1) (h2:l.toArray[t2]?=some o2) (h3:l.toArray[t3]?=some o3)
  (hQ:∀c a d v w,Q (.panic c) (Act.put a d v) w->Q (.panic c) a w) (hS:S w.drew)
  (h:∀ops:Array Oper,(∀p∈G,((ops[p.1]?).bind λx=>x.dst)=some p.2)->Xc P ops S (λa'=>wpList P ops (Exit.then (λa1 w1=>S w1/\wpList P ops (Exit.then (λa2 w2=>S w2/\wpList P ops (Exit.then (λa3 w3=>S w3/\Q .normal a3 w3) Q) [o3] a2 w2) Q) [o2] a1 w1) Q) [o1] a' w.drew) so a):(Code.region id l.toArray true).wp P Q a w:=by
 simp only[Bool.and_eq_true,decide_eq_true_eq,List.all_eq_true]at hB;obtain⟨hs,hh,r1,r2,r3,r4,hG⟩:=hB;refine wp_region_held (S:=S) hm ?_;have key:=zwv (P:=P) (Q:=Q) (S:=S) (ops:=l.toArray) (f:=3) (w:=w.drew) hs hQ hS σ so [] a hso hh ?_
 ·have e:l.toArray.size=3+σ.length:=by simp[hlen]
  rw[<-e]at key;simpa [Zq] using key
 ·refine zu2 (λa' h'=>?_) _ _ (h l.toArray hG)
  refine wpAnyH_all (rs:=[t1]) (by simpa using r1) (by simp) (λx hx=>?_);simp only[List.mem_singleton]at hx;subst hx;refine wpOp_mono (λa1 w1 hk=>⟨hk.1,?_⟩) (Vu h1 h');have e:(Zq l.toArray.size ([]++σ)).setIfInBounds x true=Zq l.toArray.size (σ++[x]):=(by rw[Zb];rfl);rw[e];refine wpAnyH_all (rs:=[t2]) r2 (by simp) (λy hy=>?_);simp only[List.mem_singleton]at hy;subst hy;refine wpOp_mono (λa2 w2 hk2=>⟨hk2.1,?_⟩) (Vu h2 hk.2);have e2:(Zq l.toArray.size (σ++[x])).setIfInBounds y true=Zq l.toArray.size (σ++[x]++[y]):=(Zb _ _ _).symm;rw[e2];refine wpAnyH_all (rs:=[t3]) r3 (by simp) (λz hz=>?_);simp only[List.mem_singleton]at hz;subst hz;refine wpOp_mono (λa3 w3 hk3=>⟨hk3.1,?_⟩) (Vu h3 hk2.2);have e3:(Zq l.toArray.size (σ++[x]++[y])).setIfInBounds z true=Zq l.toArray.size (σ++[x]++[y]++[z]):=(Zb _ _ _).symm;rw[e3];exact wpAnyH_done r4 hk3.2 0
end
/- The program's readNode. -/
set_option linter.unusedSimpArgs false
set_option linter.unusedVariables false
set_option maxRecDepth 100000 in
set_option maxHeartbeats 4000000 in
theorem ze3 (P T : Nat) (ws : List (List UInt8)) (b cap : Nat) (w : World) (hl : ws.length < 3) :
    Calls prog 58 #[.pointer (some ⟨P, 0, none⟩), .pointer (some ⟨T, 0, none⟩), .slice (some ⟨b, 0, none⟩) ws.length cap] w fun e w' => e = .returned (.bool false) ∧ w' = w.drew := by
  have h3I : (ws.length : Int) < 3 := by omega
  go_enter func58, ntmps58
  go_wp2_with fail
  refine zy9 (fun W => True) [0, 1, 2, 3, 4, 5, 6, 7, 8, 9, 10, 11] 12 13 14 [(3, 17)] (by kernel_rfl) (by kernel_rfl) rfl [_, _, _, _, _, _, _, _, _, _, _, _] _ _ _ rfl rfl rfl rfl (fun c a d v w h => by cases d <;> exact h) trivial (fun ops hG => ?_)
  have g1 := hG (3, 17) (by simp)
  simp only at g1
  clear hG
  repeat
    first
    | (refine Um rfl (fun K hK => ?_)
       apply Exists.intro
       refine ⟨fun w' hw' => ?_, ?_⟩
       · go_simp
         try with_reducible rfl
       go_simp
       refine hK _ ?_
       clear hK K)
    | (refine yuv rfl (c := true) (by simp [yielded, g1, Act.put]) (by decide) ?_
       simp only [List.getElem_toArray, List.getElem_cons_succ, List.getElem_cons_zero])
  refine zv6 ?_
  simp only [Act.put]
  refine wpList_skip (by simp [Region.wanted, yielded, g1]) ?_
  go_wp2_with fail
  refine ⟨trivial, ?_⟩
  refine wpList_skip (by simp [Region.wanted, yielded, g1, Act.put]) ?_
  go_wp2_with fail
  refine ⟨trivial, ?_⟩
  clear g1
  go_wp2_with fail
  refine ⟨trivial, ?_⟩
  go_wp2
  go_ret
  exact ⟨rfl, rfl⟩
def zq1(o:Option Fl.Node)(P:Nat)(nv:Value)(acc:List Fl.Node)(lvs:List Value)(w:World)(e:Ending)(w':World):Prop:=
 (o=none/\e=.returned (.bool false)/\Below w.heap.size w w')\/
 ∃nd w1 w2 nv' lvn,o=some nd/\e=.returned (.bool true)/\Below w.heap.size w w1/\Zy w1.heap.size w1 lvn nd.list/\(∀b,lvn.ownBlock=some b->w.heap.size<=b)/\
  w2.ownsRow (P+1) 121 6 nv' (acc.length+1) (Xs acc lvs++Zj nd lvn)/\w1.grownBy w2 nv.ownBlock/\(nv'.ownBlock=nv.ownBlock\/nv'.ownBlock=some w1.heap.size)/\w'=w2.setCell ⟨P,1,none⟩ nv'
structure RnL(W wr:World)(N:Nat)(kd lev:Int)(lv:Value)(xs:List Int)(j:Nat):Prop where
 nd:Nd wr N kd lev ((xs.take j).getD 0 0) ((xs.take j).getD 1 0) ((xs.take j).getD 2 0) lv
 g:W.grownBy wr (some N)
def RnL.zero{W:World}{N:Nat}{kd lev:Int}{lv:Value}{xs:List Int}(h:Nd W N kd lev 0 0 0 lv):RnL W W N kd lev lv xs 0:=⟨by simpa using h,World.grownBy.refl _ _⟩
def RnL.next{W wr:World}{N:Nat}{kd lev:Int}{lv:Value}{xs:List Int}{j:Nat}(h:RnL W wr N kd lev lv xs j)(hj:j<xs.length)(h3:j<3):RnL W (wr.setCell ⟨N,2+j,none⟩ (.int .i64 (xs.getD j 0))) N kd lev lv xs (j+1):=by
 have hg:W.grownBy (wr.setCell ⟨N,2+j,none⟩ (.int .i64 (xs.getD j 0))) (some N):=by
  have g1:=h.g;have g2:=Yl wr N (2+j) (.int .i64 (xs.getD j 0));exact⟨g2.os.trans g1.os,g2.tape.trans g1.tape,g2.output.trans g1.output,Nat.le_trans g1.size g2.size,λi hi hne=>(g2.block i (Nat.lt_of_lt_of_le hi g1.size) hne).trans (g1.block i hi hne)⟩
 refine⟨?_,hg⟩;have hnd:=h.nd
 have:j=0\/j=1\/j=2:=by omega
 rcases this with rfl|rfl|rfl
 ·match xs,hj with
  |x::r,_=>exact hnd.set2 _
 ·match xs,hj with
  |x::y::r,_=>exact hnd.set3 _
 ·match xs,hj with
  |x::y::z::r,_=>exact hnd.set4 _
def RnL.cell{W wr:World}{N:Nat}{kd lev:Int}{lv:Value}{xs:List Int}{j:Nat}(h:RnL W wr N kd lev lv xs j)(h3:j<3):∃v,wr.cell? ⟨N,2+j,none⟩=some (.int .i64 v):=by
 have:j=0\/j=1\/j=2:=by omega
 rcases this with rfl|rfl|rfl
 ·exact⟨_,h.nd.c2⟩
 ·exact⟨_,h.nd.c3⟩
 ·exact⟨_,h.nd.c4⟩
def RnL.all{W wr:World}{N:Nat}{kd lev:Int}{lv:Value}{xs:List Int}(h:RnL W wr N kd lev lv xs xs.length):Nd wr N kd lev (xs.getD 0 0) (xs.getD 1 0) (xs.getD 2 0) lv:=by
 have:=h.nd;simpa using this
def Nd.cells{w:World}{N:Nat}{kd lev a b c:Int}{l:Value}{ls:List Int}(h:Nd w N kd lev a b c l):∀j u,(Zj ⟨kd,lev,a,b,c,ls⟩ l)[j]?=some u->w.cell? ⟨N,j,none⟩=some u:=by
 intro j u hj;simp only[Zj]at hj
 match j with
 |0=>simp at hj;subst hj;exact h.c0
 |1=>simp at hj;subst hj;exact h.c1
 |2=>simp at hj;subst hj;exact h.c2
 |3=>simp at hj;subst hj;exact h.c3
 |4=>simp at hj;subst hj;exact h.c4
 |5=>simp at hj;subst hj;exact h.c5
 |j+6=>simp at hj
def yx9(k:Nat)(h:k<8):Fl.fields (k:Int)=if k=7 then -1 else(Yq k:Int):=by
 by_cases h7:k=7
 ·subst h7;rw[if_pos rfl];rfl
 ·rw[if_neg h7];exact zs6 k h h7
def zg7{w:World}{T:Nat}(hT:w.heap[T]?=some (.cells Zu 98 (0,0)))(k:Nat)(hk:k<8):w.cell? ⟨T,k*4+1,none⟩=some (.int .i64 (Yq k:Nat))/\w.cell? ⟨T,k*4+2,none⟩=some (.bool (k==7)):=by
 rcases(show k=0\/k=1\/k=2\/k=3\/k=4\/k=5\/k=6\/k=7 by omega) with rfl|rfl|rfl|rfl|rfl|rfl|rfl|rfl<;>exact⟨(cell_of_row _ _ _ _ _ _ hT).trans rfl,(cell_of_row _ _ _ _ _ _ hT).trans rfl⟩
structure Xd(s:List UInt8)(P B:Nat)(W0 W:World)(i:Nat)(rest:List UInt8)(ls:List Int)(lv nv:Value)(acc:List Fl.Node)(lvs:List Value):Prop where
 hg:zz0 ls W0 W P P lv nv acc lvs
 ha:acc.length=i - 1
 hr:Fl.readText s=Fl.readL ls acc i (Fl.cutR 10 rest)
 h0:i=0->ls=[]/\nv=.slice none 0 0
 hm:Mid P B W0 W
 hnb:∀b,nv.ownBlock=some b->B<=b
 hlb:∀p,p∈(lv,ls)::Ye acc lvs->p.2≠[]->∀b,p.1.ownBlock=some b->B<=b
 hz:B<=W.heap.size
 hl:rest.length+i<=s.length
section
variable{s rest:List UInt8}{P B i:Nat}{W0 W w1 w2:World}{ls vs:List Int}{lv nv nv' v lvn:Value}{acc:List Fl.Node}{lvs:List Value}{nd:Fl.Node}
def Xd.below(h:Xd s P B W0 W i rest ls lv nv acc lvs)(hb:Below W.heap.size W w1):Xd s P B W0 w1 i rest ls lv nv acc lvs:=
 ⟨h.hg.below hb,h.ha,h.hr,h.h0,h.hm.below h.hz hb,h.hnb,h.hlb,Nat.le_trans h.hz hb.size,h.hl⟩
def Xd.first(h:Xd s P B W0 W 0 rest ls lv nv acc lvs)(hb:Below W.heap.size W w2)(ho:w2.ownsRow W.heap.size 3 1 v vs.length (vs.map (Value.int .i64)))(hc:(Lib.cut rest [10]).2.2=true)(hl:Fl.localsOf (Fl.cutR 32 (Lib.cut rest [10]).1)=some vs):
  Xd s P B W0 (w2.setCell ⟨P,0,none⟩ v) 1 (Lib.cut rest [10]).2.1 vs v nv acc lvs:=by
 obtain⟨hls,hnv⟩:=h.h0 rfl;have hacc:acc=[]:=List.eq_nil_of_length_eq_zero (by have:=h.ha;omega);subst hls hnv hacc;have hlvs:lvs=[]:=List.eq_nil_of_length_eq_zero (by have:=h.hg.hl;simpa using this);subst hlvs;have hz:=h.hg.hz;have hz3:=h.hz;have s2:=hb.size
 have hs:(w2.setCell ⟨P,0,none⟩ v).heap.size=w2.heap.size:=by simp[World.setCell]
 have c0:w2.cell? ⟨P,0,none⟩=some lv:=(hb.cell (p:=⟨P,0,none⟩) hz).trans h.hg.c0;have c1:w2.cell? ⟨P,1,none⟩=some (.slice none 0 0):=(hb.cell (p:=⟨P,1,none⟩) hz).trans h.hg.c1;have fq:∀j,w2.frozen? ⟨P,j,none⟩=false:=λj=>(hb.frozen (p:=⟨P,j,none⟩) hz).trans (h.hg.fq j);have hov:∀b,v.ownBlock=some b->W.heap.size<=b:=λb hb=>(ho.lt b hb).1;have hcf:=Fl.cut_found 10 rest hc;refine⟨zz0.new ?_ (by omega) (Xh (Zy.of_own ho) (λ_ hh=>?_)) (Nat.le_refl _) (λ_ b hb=>?_) (Ur c0) ((zqx (by decide)).trans c1) (λj=>by rw[World.frozen?_setCell];exact fq j),rfl,?_,λhh=>by omega,?_,λb hb=>by simp[Value.ownBlock]at hb,?_,by omega,?_⟩
 ·exact(h.hg.hb.trans (hb.mono (by omega))).setCell (Nat.le_refl _) _
 ·have h9:W.heap.size<=P:=hov _ hh
  omega
 ·have:=hov b hb;omega
 ·rw[h.hr,hcf.1,Fl.readL_first _ _ _ _ (Fl.cutR_ne _ _),hl]
 ·exact(h.hm.below hz3 hb).set 0 v
 ·intro p hp _ b hpb
  simp only[Ye,List.mem_singleton]at hp;subst hp;have:=hov b hpb;omega
 ·have:=h.hl;have:=hcf.2;omega
def Xd.bad0(h:Xd s P B W0 W 0 rest ls lv nv acc lvs)(hc:(Lib.cut rest [10]).2.2=true)(hl:Fl.localsOf (Fl.cutR 32 (Lib.cut rest [10]).1)=none):(Fl.readText s).2=1:=by
 rw[h.hr,(Fl.cut_found 10 rest hc).1,Fl.readL_first _ _ _ _ (Fl.cutR_ne _ _),hl]
def Xd.next(h:Xd s P B W0 W (i+1) rest ls lv nv acc lvs)(hb:Below W.heap.size W w1)(hi:Zy w1.heap.size w1 lvn nd.list)(hf:∀b,lvn.ownBlock=some b->W.heap.size<=b)
  (ho:w2.ownsRow (P+1) 121 6 nv' (acc.length+1) (Xs acc lvs++Zj nd lvn)) (hg:w1.grownBy w2 nv.ownBlock) (hw:nv'.ownBlock=nv.ownBlock\/nv'.ownBlock=some w1.heap.size) (hc:(Lib.cut rest [10]).2.2=true) (hn:Fl.nodeOf i (Fl.cutR 32 (Lib.cut rest [10]).1)=some nd):
  Xd s P B W0 (w2.setCell ⟨P,1,none⟩ nv') (i+2) (Lib.cut rest [10]).2.1 ls lv nv' (acc++[nd]) (lvs++[lvn]):=by
 have s1:=hb.size;have s2:=hg.size;have hz3:=h.hz
 have hs:(w2.setCell ⟨P,1,none⟩ nv').heap.size=w2.heap.size:=by simp[World.setCell]
 have hcf:=Fl.cut_found 10 rest hc;refine⟨h.hg.push hb hi hf ho hg hw,by have:=h.ha;simp;omega,?_,λhh=>by omega,?_,λb hb'=>?_,?_,by omega,?_⟩
 ·rw[h.hr,hcf.1,Fl.readL_next _ _ _ _ _ (Fl.cutR_ne _ _),hn]
 ·exact((h.hm.below hz3 hb).grown (by omega) hg h.hnb).set 1 nv'
 ·rcases hw with hw|hw
  ·exact h.hnb b (hw ▸ hb')
  ·rw[hw]at hb';simp at hb';omega
 ·intro p hp hne b hpb
  rw[Ua _ _ _ _ h.hg.hl]at hp;simp only[List.mem_cons,List.mem_append,List.not_mem_nil,or_false]at hp;rcases hp with hp|hp|hp
  ·exact h.hlb p (by rw[hp];simp) hne b hpb
  ·exact h.hlb p (by simp[hp]) hne b hpb
  ·subst hp;have:=hf b hpb;omega
 ·have:=h.hl;have:=hcf.2;omega
def Xd.bad(h:Xd s P B W0 W (i+1) rest ls lv nv acc lvs)(hc:(Lib.cut rest [10]).2.2=true)(hn:Fl.nodeOf i (Fl.cutR 32 (Lib.cut rest [10]).1)=none):(Fl.readText s).2=i+2:=by
 rw[h.hr,(Fl.cut_found 10 rest hc).1,Fl.readL_next _ _ _ _ _ (Fl.cutR_ne _ _),hn]
def Xd.open(h:Xd s P B W0 W i rest ls lv nv acc lvs)(hs:i=0\/rest≠[])(hc:(Lib.cut rest [10]).2.2=false):(Fl.readText s).2=i+1:=by
 rw[h.hr,Fl.readL_open _ _ _ _ hs hc]
def Xd.ends(h:Xd s P B W0 W i [] ls lv nv acc lvs)(hi:0<i):Fl.readText s=((ls,acc),0):=by
 rw[h.hr,Fl.readL_end _ _ _ hi]
def yj1{b b':Nat}{w:World}{e:TypeId}{k:Nat}{v:Value}{n:Nat}{xs:List Value}(h:w.ownsRow b e k v n xs)(hb:∀g,v.ownBlock=some g->b'<=g):w.ownsRow b' e k v n xs:=by
 refine⟨h.1,?_⟩;rcases h.2 with hn|⟨g,cap,cur,hv,hbb,hg,rest⟩
 ·exact .inl hn
 ·exact .inr ⟨g,cap,cur,hv,hb g (by rw[hv];rfl),hg,rest⟩
def Xd.stay(h:Xd s P B W0 W i rest ls lv nv acc lvs)(hs:Ys B W w2):Zy w2.heap.size w2 lv ls/\Zm w2.heap.size w2 nv acc:=by
 have hk:∀p,p∈(lv,ls)::Ye acc lvs->Zy w2.heap.size w2 p.1 p.2:=λp hp=>ztv (h.hg.hall p hp).1.1 (h.hlb p hp) hs;exact⟨hk (lv,ls) (by simp),Vd (zk5 (yj1 h.hg.hn h.hnb) hs) h.hg.hl (λi hi=>hk _ (by simp only[List.mem_cons];right;exact Us acc lvs i h.hg.hl hi))⟩
end
end Go.Proofs.YtminjljgedopkaaGreatDoor
