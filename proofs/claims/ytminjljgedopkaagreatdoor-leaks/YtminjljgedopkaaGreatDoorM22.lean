import Derived.Test.YtminjljgedopkaaGreatDoorM17
import Derived.Lib.OthersKept
import Derived.Lib.AppendStr
import Derived.Lib.UnsafeStr
import Derived.Laws.Externs
import Derived.Laws.EntriesVeiled
set_option linter.all false
set_option maxRecDepth 100000
set_option maxHeartbeats 40000000
namespace Go.Proofs.YtminjljgedopkaaGreatDoor
open Go.RowKit Go.Proofs.Tryz
def Tryz.infoU8:(Tryz.prog.info? 5).map (λi=>(i.zero,i.size,i.bytes))=some (some (.int .u8 0),1,1):=by kernel_rfl
def Tryz.sizeBld:(Tryz.prog.info? 118).map (·.size)=some 2:=by kernel_rfl
def Tryz.liesBld:liesAt Tryz.prog Tryz.prog.depth 118 (2 / Tryz.prog.cellsOf 118) 0 118 1=true:=by kernel_rfl
def zj9(b:Nat)(w:World)(h0:w.cell? ⟨b,0,none⟩=some (.pointer (some ⟨b,0,none⟩))):
  Calls prog 133 #[.pointer (some ⟨b,0,none⟩)] w λe w'=>e=.returned (.tuple #[])/\w'=w:=by
 obtain⟨j,hj,_⟩:=Option.map_eq_some_iff.1 Tryz.sizeBld
 go_enter func133,ntmps133
 go_wp2;rw[Lib.run_neq_ptr_same w _ underlying116 hj];go_wp2
 go_end0
 exact⟨rfl,rfl⟩
def zk2(b:Nat)(w:World)(h0:w.cell? ⟨b,0,none⟩=some (.pointer none))(hsh:w.shape? b=some (118,2))(hfz:w.frozen? ⟨b,0,none⟩=false):
  Calls prog 133 #[.pointer (some ⟨b,0,none⟩)] w λe w'=>e=.returned (.tuple #[])/\w'=w.setCell ⟨b,0,none⟩ (.pointer (some ⟨b,0,none⟩)):=by
 obtain⟨j,hj,hjs⟩:=Option.map_eq_some_iff.1 Tryz.sizeBld
 go_enter func133,ntmps133
 go_wp2;rw[Lib.run_to_unsafe w ⟨b,0,none⟩ underlying116 underlying104 hj (by rw[hjs];decide) hsh (Nat.zero_lt_succ 1)];simp only[Result.andThen];rw[Oper.upon_value];go_wp2;rw[run_callFunc_extern func167 (by kernel_rfl) (by kernel_rfl) (by kernel_rfl) (e:=Extern.AbiNoEscape.same) (by kernel_rfl)];rw[Lib.run_noEscape];simp only[Result.andThen];rw[Oper.upon_value];go_wp2;rw[Lib.run_from_unsafe w ⟨b,0,none⟩ underlying104 underlying116 hj hsh Tryz.liesBld];simp only[Result.andThen];rw[Oper.upon_value];go_wp2
 go_end0
 exact⟨rfl,rfl⟩
def zgy(B b:Nat)(bs:List Value)(w:World)(h:Lib.IsBuilderF 118 5 B b bs w):
  Calls prog 133 #[.pointer (some ⟨b,0,none⟩)] w λe w'=>e=.returned (.tuple #[])/\(Lib.BuilderAtF 118 5 B b (.pointer (some ⟨b,0,none⟩)) bs w'/\Below B w w'/\Lib.OthersKept 5 (some b) w w'):=by
 rcases h with h|h
 ·refine(zk2 b w h.cell0 h.shape h.frozen0).mono ?_
  rintro e w' ⟨rfl,rfl⟩;exact⟨rfl,h.used _,(Below.refl B w).setCell (p:=⟨b,0,none⟩) h.1 _,(Lib.OthersKept.refl _ _ w).setCell ⟨b,0,none⟩ rfl _⟩
 ·refine(zj9 b w h.cell0).mono ?_
  rintro e w' ⟨rfl,rfl⟩;exact⟨rfl,h,Below.refl B _,Lib.OthersKept.refl _ _ _⟩
def zk3(B b:Nat)(bs:List Value)(s:ByteArray)(w:World)(h:Lib.IsBuilderF 118 5 B b bs w)(hlen:bs.length+s.size<=140737488355328)(hBw:B<=w.heap.size):
  Calls prog 89 #[.pointer (some ⟨b,0,none⟩),.string s] w λe w'=>e=.returned (.tuple #[.int .i64 s.size,.nilIface])/\(Lib.BuilderAtF 118 5 B b (.pointer (some ⟨b,0,none⟩)) (bs++Lib.strCells s) w'/\Below B w w'/\Lib.OthersKept 5 (some b) w w'):=by
 obtain⟨i0,hi,hz0,hz1,hz2⟩:=info_parts Tryz.infoU8
 go_enter func89,ntmps89
 go_wp2_with fail
 refine(zgy B b bs _ h).mono ?_;rintro e w1 ⟨rfl,h1,hb1,hk1⟩;obtain⟨hB,v,hbk,hown,hne⟩:=h1
 have c0:w1.cell? ⟨b,0,none⟩=some (.pointer (some ⟨b,0,none⟩)):=by rw[Lib.cell_of_heap hbk];rfl
 have c1:w1.cell? ⟨b,1,none⟩=some v:=by rw[Lib.cell_of_heap hbk];rfl
 go_wp2_with (at_builtin;refine Lib.wpList_append_own_stringF _ rfl _ _ 30 9 rfl B 5 i0 underlying30 underlying9 hi hz0 hz1 hz2 _ _ _ rfl hown s rfl ?c3 ?c4 ?c5 ?_)
 case c3=>unfold maxLen;omega
 case c4=>omega
 case c5=>have:=hb1.size;omega
 intro v' w2 hown' hgrow _;have hlt:b<w1.heap.size:=by
  rcases Nat.lt_or_ge b w1.heap.size with h'|h'
  ·exact h'
  ·simp[Array.getElem?_eq_none h']at hbk
 have hb2:w2.heap[b]?=some (.cells #[.pointer (some ⟨b,0,none⟩),v] 118 (0,0)):=by
  rw[hgrow.block b hlt (λe=>hne e.symm)];exact hbk
 have d0:w2.cell? ⟨b,0,none⟩=some (.pointer (some ⟨b,0,none⟩)):=by rw[Lib.cell_of_heap hb2];rfl
 have d1:w2.cell? ⟨b,1,none⟩=some v:=by rw[Lib.cell_of_heap hb2];rfl
 have f1:w2.frozen? ⟨b,1,none⟩=false:=Lib.frozen_of_heap hb2 1;obtain⟨ao,n',cap,rfl⟩:∃ao n' cap,v'=.slice ao n' cap:=by
  rcases hown'.2 with⟨hv,_⟩|⟨g,cap,cur,fz,hv,_⟩
  ·exact⟨_,_,_,hv⟩
  ·exact⟨_,_,_,hv⟩
 go_wp2
 go_ret2
 refine⟨rfl,?_,?_,(hk1.grown hgrow (Lib.ownsRowF_kind hown)).setCell ⟨b,1,none⟩ rfl _⟩
 ·exact Lib.BuilderAtF.put (T:=118) (e:=5) hB hb2 (bs':=bs++Lib.strCells s) (by simpa [Lib.strCells_length] using hown') (by decide)
 ·exact(hb1.grown hgrow (by have:=hb1.size;omega) (λk hk=>(hown.lt k hk).1)).setCell (p:=⟨b,1,none⟩) hB _
end Go.Proofs.YtminjljgedopkaaGreatDoor
namespace Go.Proofs.YtminjljgedopkaaGreatDoor
open Go.Proofs.Tryz
def znx(f:Nat):∀v,(Fl.decF f v).length<=f+1:=by
 induction f with
 |zero=>intro v;simp[Fl.decF]
 |succ f ih=>intro v;unfold Fl.decF;split;simp;have:=ih (v / 10);simp;omega
namespace Fl
def cutR_free(c:UInt8):∀(a:List UInt8),(∀b∈a,b≠c)->cutR c a=[a]
 |[],_=>rfl
 |x::r,h=>by
  rw[cutR,if_neg (by have:=h x List.mem_cons_self;simpa using this),cutR_free c r (λb hb=>h b (List.mem_cons_of_mem _ hb))];rfl
def cutR_line(c:UInt8)(r:List UInt8):∀(a:List UInt8),(∀b∈a,b≠c)->cutR c (a++c::r)=a::cutR c r
 |[],_=>by rw[List.nil_append,cutR,if_pos (by simp)]
 |x::a,h=>by
  rw[List.cons_append,cutR,if_neg (by have:=h x List.mem_cons_self;simpa using this),cutR_line c r a (λb hb=>h b (List.mem_cons_of_mem _ hb))];rfl
def digits_dig(n:Nat):(Lib.decDigits n).all isDig=true:=by
 induction n using Nat.strongRecOn with
 |_ n ih=>
  have hd:∀k,k<10->isDig (UInt8.ofNat (48+k))=true:=λk hk=>by
   rcases(show k=0\/k=1\/k=2\/k=3\/k=4\/k=5\/k=6\/k=7\/k=8\/k=9 by omega) with rfl|rfl|rfl|rfl|rfl|rfl|rfl|rfl|rfl|rfl<;>decide
  rw[Lib.decDigits]
  by_cases h:n<10
  ·rw[dif_pos h,List.all_cons,hd n h];rfl
  rw[dif_neg h,List.all_append,ih (n / 10) (by omega),List.all_cons,hd (n % 10) (by omega)];rfl
def digits_free(n:Nat)(c:UInt8)(hc:isDig c=false):∀b∈Lib.decDigits n,b≠c:=λb hb h=>by
 have:=List.all_eq_true.1 (digits_dig n) b hb
 rw[h,hc]at this;cases this
def toNat_dig(k:Nat)(hk:k<10):(UInt8.ofNat (48+k)).toNat - 48=k:=by
 rcases(show k=0\/k=1\/k=2\/k=3\/k=4\/k=5\/k=6\/k=7\/k=8\/k=9 by omega) with rfl|rfl|rfl|rfl|rfl|rfl|rfl|rfl|rfl|rfl<;>decide
def digits_val(n:Nat):val (Lib.decDigits n)=n:=by
 induction n using Nat.strongRecOn with
 |_ n ih=>
  rw[Lib.decDigits]
  by_cases h:n<10
  ·rw[dif_pos h];unfold val;simp only[List.foldl_cons,List.foldl_nil,toNat_dig n h];omega
  rw[dif_neg h];have:=ih (n / 10) (by omega);unfold val at this⊢;rw[List.foldl_append,this];simp only[List.foldl_cons,List.foldl_nil,toNat_dig (n % 10) (by omega)];omega
def digits_head(n:Nat)(h0:n≠0):(Lib.decDigits n).headD 0≠48:=by
 induction n using Nat.strongRecOn with
 |_ n ih=>
  rw[Lib.decDigits]
  by_cases h:n<10
  ·rw[dif_pos h]
   rcases(show n=1\/n=2\/n=3\/n=4\/n=5\/n=6\/n=7\/n=8\/n=9 by omega) with rfl|rfl|rfl|rfl|rfl|rfl|rfl|rfl|rfl<;>decide
  rw[dif_neg h];have:=ih (n / 10) (by omega) (by omega)
  cases hd:Lib.decDigits (n / 10) with
  |nil=>have h5:=Lib.decDigits_length (n / 10);rw[hd]at h5;unfold Lib.nDigits at h5;split at h5<;>simp at h5
  |cons a r=>rw[hd]at this;simpa using this
def digits_pos(n:Nat):0<(Lib.decDigits n).length:=by
 rw[Lib.decDigits_length];unfold Lib.nDigits;split<;>omega
def number_dig(k n:Nat)(h:n<10 ^ (k+1)):number (Lib.decDigits n) (k+1)=(n,true):=by
 have hl:(Lib.decDigits n).length<=k+1:=by
  rw[<-decF_digits k n h];exact znx k n
 unfold number;rw[if_pos (digits_dig n),List.take_of_length_le hl,digits_val];unfold numOk;rw[decide_eq_true (digits_pos n),decide_eq_true hl]
 by_cases h0:n=0
 ·subst h0;rw[Lib.decDigits_one (by decide)];decide
 rw[bne_iff_ne.2 (digits_head n h0)];rfl
end Fl
open Go.RowKit
namespace Fl
def wLocals:List UInt8:=[108,111,99,97,108,115]
def kindWords:List (List UInt8):=[[110,117,109],[118,97,114],[111,112],[115,101,116],[111,117,116],[105,102],[119,104,105,108,101],[98,108,111,99,107]]
def intsOf:List (List UInt8)->Option (List Int)
 |[]=>some []
 |w::r=>if(number w 10).2=true/\(number w 10).1<2147483648 then(intsOf r).map (λl=>((number w 10).1:Int)::l) else none
def nodeOf(k:Nat)(w:List (List UInt8)):Option Node:=
 if w.length<3\/w.getD 0 []≠Lib.decDigits k then none else
 if place kindWords (w.getD 1 [])<0 then none else
 match intsOf (w.drop 2) with
 |none=>none
 |some v=>
  if fields (place kindWords (w.getD 1 []))<0 then some ⟨place kindWords (w.getD 1 []),v.getD 0 0,0,0,0,v.drop 1⟩
  else if(v.length:Int)≠1+fields (place kindWords (w.getD 1 [])) then none
  else some ⟨place kindWords (w.getD 1 []),v.getD 0 0,v.getD 1 0,v.getD 2 0,v.getD 3 0,[]⟩
def localsOf(w:List (List UInt8)):Option (List Int):=if w.getD 0 []≠wLocals then none else intsOf (w.drop 1)
def readL(ls:List Int)(acc:List Node):Nat->List (List UInt8)->(List Int×List Node)×Nat
 |i,[]=>((ls,acc),i+1)
 |i,[x]=>if x=[]/\0<i then((ls,acc),0) else((ls,acc),i+1)
 |0,x::y::r=>match localsOf (cutR 32 x) with
  |none=>((ls,acc),1)
  |some l=>readL l acc 1 (y::r)
 |i+1,x::y::r=>match nodeOf i (cutR 32 x) with
  |none=>((ls,acc),i+2)
  |some nd=>readL ls (acc++[nd]) (i+2) (y::r)
def readText(s:List UInt8):(List Int×List Node)×Nat:=readL [] [] 0 (cutR 10 s)
def readL_first(ls:List Int)(acc:List Node)(x:List UInt8)(t:List (List UInt8))(ht:t≠[]):readL ls acc 0 (x::t)=match localsOf (cutR 32 x) with|none=>((ls,acc),1)|some l=>readL l acc 1 t:=by
 cases t with
 |nil=>exact absurd rfl ht
 |cons y r=>rw[readL]
def readL_next(ls:List Int)(acc:List Node)(i:Nat)(x:List UInt8)(t:List (List UInt8))(ht:t≠[]):readL ls acc (i+1) (x::t)=match nodeOf i (cutR 32 x) with|none=>((ls,acc),i+2)|some nd=>readL ls (acc++[nd]) (i+2) t:=by
 cases t with
 |nil=>exact absurd rfl ht
 |cons y r=>rw[readL]
def readL_last(ls:List Int)(acc:List Node)(i:Nat)(x:List UInt8):readL ls acc i [x]=if x=[]/\0<i then((ls,acc),0) else((ls,acc),i+1):=by
 cases i<;>rw[readL]
def readL_end(ls:List Int)(acc:List Node)(i:Nat)(hi:0<i):readL ls acc i (cutR 10 [])=((ls,acc),0):=by
 rw[cutR,readL_last,if_pos ⟨rfl,hi⟩]
def readL_open(ls:List Int)(acc:List Node)(i:Nat)(s:List UInt8)(hs:i=0\/s≠[])(h:(Lib.cut s [10]).2.2=false):readL ls acc i (cutR 10 s)=((ls,acc),i+1):=by
 rw[(cut_missed 10 s h).1,readL_last,if_neg (by rintro⟨h1,h2⟩;rcases hs with h3|h3;omega;exact h3 h1)]
end Fl
def zr9(v:Nat)(hm:v<1000000000000000000):(Lib.decDigits v).length<=18:=by
 rw[<-Fl.decF_digits 17 v (Nat.lt_of_lt_of_le hm (by decide))];exact znx 17 v
def own_low{w w':World}{base:Nat}{e:TypeId}{k:Nat}{v:Value}{n:Nat}{xs:List Value}(h:w.ownsRow base e k v n xs)(hb:Below w.heap.size w w'):w'.ownsRow base e k v n xs:=by
 have og:w.grownBy w' none:=⟨hb.os,hb.tape,hb.output,hb.size,λk hk _=>hb.block k hk⟩;exact h.kept og (by cases v.ownBlock<;>simp)
def Va(w:World):Prop:=∃ty fz,w.heap[1]?=some (.cells (Lib.pow10Tab.map λz=>Value.int .u64 z).toArray ty fz)
def Va.below{B:Nat}{w w':World}(h:Va w)(hB:w.heap.size<=B)(hb:Below B w w'):Va w':=by
 obtain⟨ty,fz,h⟩:=h;have hl:=(Array.getElem?_eq_some_iff.1 h).1;exact⟨ty,fz,(hb.block _ (by omega)).trans h⟩
def yw4(w:World)(k:Nat)(os:Array Obj):Below w.heap.size w (Go.Sort.grow (w.drewN k) os):=by
 refine Below.trans (below_drewN (Below.refl _ _) k) ⟨rfl,rfl,rfl,by simp[Go.Sort.grow],λi hi=>?_⟩;have hi':i<(w.drewN k).heap.size:=hi;show ((w.drewN k).heap++os)[i]?=_;rw[Array.getElem?_append_left hi']
def zc2(n:Nat)(w:World)(hn:n<9223372036854775807)(h:Va w):Calls prog 48 #[.int .i64 n] w λe w'=>e=.returned (.string ⟨(Lib.decDigits n).toArray⟩)/\Below w.heap.size w w':=by
 obtain⟨ty,fz,h⟩:=h;refine(Tryz.strconv_Itoa (n:Int) (by omega) (by omega) w ?_).mono ?_
 ·show World.var? _ _ _=_
  unfold World.var?;rw[show prog.globalNamed _=some 1 from by kernel_rfl];simp only[Option.bind_some,h]
 ·rintro e w' ⟨rfl,k,os,rfl⟩
  refine⟨?_,yw4 w k os⟩;unfold Lib.itoa;rw[if_neg (by omega)];simp
namespace Fl
def blanks(xs:List Int):List UInt8:=xs.flatMap (λx=>32::Lib.decDigits x.toNat)
def spaced(xs:List Int):List UInt8:=blanks xs++[10]
def blanks_snoc(xs:List Int)(x:Int):blanks (xs++[x])=blanks xs++(32::Lib.decDigits x.toNat):=by simp[blanks]
def blanks_take(xs:List Int)(k:Nat)(h:k<xs.length):blanks (xs.take (k+1))=blanks (xs.take k)++(32::Lib.decDigits (xs.getD k 0).toNat):=by
 have e:xs.take (k+1)=xs.take k++[xs.getD k 0]:=by
  rw[List.take_add_one,List.getElem?_eq_getElem h];simp[List.getD_eq_getElem?_getD,h]
 rw[e,blanks_snoc]
end Fl
def zk4:∀(xs:List Int),(∀x∈xs,x<1000000000000000000)->(Fl.blanks xs).length<=19*xs.length
 |[],_=>by simp[Fl.blanks]
 |x::r,h=>by
  have h1:=zk4 r (λy hy=>h y (List.mem_cons_of_mem _ hy));have h2:=zr9 x.toNat (by have:=h x List.mem_cons_self;omega);simp only[Fl.blanks,List.flatMap_cons,List.length_append,List.length_cons]at h1⊢;omega
structure Wr(b:Nat)(w w':World):Prop where
 bl:Below b w w'
 ok:Lib.OthersKept 5 (some b) w w'
def Wr.refl(b:Nat)(w:World):Wr b w w:=⟨Below.refl _ _,Lib.OthersKept.refl _ _ _⟩
def Wr.trans{b:Nat}{w w1 w2:World}(h:Wr b w w1)(k:Wr b w1 w2):Wr b w w2:=⟨h.bl.trans k.bl,h.ok.trans k.ok⟩
def Wr.below{b:Nat}{w w1 w2:World}(h:Wr b w w1)(k:Below w1.heap.size w1 w2)(hb:b<=w1.heap.size):Wr b w w2:=
 ⟨h.bl.trans (k.mono hb),λi o hi hb' ho=>by
  have h1:=h.ok i o hi hb' ho
  exact(k.block i (Array.getElem?_eq_some_iff.1 h1).1).trans h1⟩
def Wr.row{b:Nat}{w w1:World}(h:Wr b w w1){k:Nat}{c:Array Value}{t:TypeId}{fz:Nat×Nat}(hk:w.heap[k]?=some (.cells c t fz))(hkb:k≠b)(ht:t≠5):w1.heap[k]?=some (.cells c t fz):=
 h.ok k _ hk (λe=>hkb (Option.some.inj e)) (λ_ _ e=>by injection e with _ e2;exact ht e2)
def Va.lt{w:World}(h:Va w):1<w.heap.size:=by
 obtain⟨_,_,h⟩:=h;exact(Array.getElem?_eq_some_iff.1 h).1
def Va.wr{b:Nat}{w w':World}(h:Va w)(hg:1<b)(hb:Below b w w'):Va w':=by
 obtain⟨ty,fz,h⟩:=h;exact⟨ty,fz,(hb.block _ hg).trans h⟩
def zw4{B b:Nat}{bs:List Value}{p:Value}{w w':World}(h:Lib.BuilderAtF 118 5 B b p bs w)(hb:Below w.heap.size w w'):Lib.BuilderAtF 118 5 B b p bs w':=by
 obtain⟨hB,v,hbk,hown,hne⟩:=h;refine⟨hB,v,(hb.block b (Array.getElem?_eq_some_iff.1 hbk).1).trans hbk,⟨hown.1,?_⟩,hne⟩;rcases hown.2 with hn|⟨g,cap,cur,fz,hv,hbg,hg,rest⟩
 ·exact .inl hn
 ·exact .inr ⟨g,cap,cur,fz,hv,hbg,(hb.block g (Array.getElem?_eq_some_iff.1 hg).1).trans hg,rest⟩
def zx6(b:Nat)(bs s:List UInt8)(w:World)(h:Lib.IsBuilderF 118 5 b b (Lib.byteCells bs) w)(hb:b<=w.heap.size)(hlen:bs.length<=100000000)(hl:s.length<=100000000):
  Calls prog 89 #[.pointer (some ⟨b,0,none⟩),.string ⟨s.toArray⟩] w λe w'=>(∃v,e=.returned v)/\Lib.BuilderAtF 118 5 b b (.pointer (some ⟨b,0,none⟩)) (Lib.byteCells (bs++s)) w'/\Wr b w w':=by
 have hsz:(⟨s.toArray⟩:ByteArray).size=s.length:=by show s.toArray.size=_;simp
 refine(zk3 b b _ ⟨s.toArray⟩ w h (by rw[Lib.byteCells_length,hsz];omega) hb).mono ?_;rintro e w' ⟨rfl,h1,h2,h3⟩;rw[Lib.byteCells_append];exact⟨⟨_,rfl⟩,h1,h2,h3⟩
def zrz(b:Nat)(bs ws:List UInt8)(nv:Value)(xs:List Int)(w:World)(h:Lib.IsBuilderF 118 5 b b (Lib.byteCells bs) w)(hb:b<=w.heap.size)
  (hI:∀W,Wr b w W->Zy W.heap.size W nv xs) (hx:∀x∈xs,0<=x/\x<2147483648) (hp:Va w) (hpb:1<b) (hbs:bs.length<=10000000) (hws:ws.length<=1000) (hn:xs.length<=1000):
  Calls prog 46 #[.pointer (some ⟨b,0,none⟩),.string ⟨ws.toArray⟩,nv] w λe w'=>e=.returned (.tuple #[])/\Lib.BuilderAtF 118 5 b b (.pointer (some ⟨b,0,none⟩)) (Lib.byteCells (bs++ws++Fl.spaced xs)) w'/\Wr b w w':=by
 obtain⟨ao,cap,rfl,hl,hcap,-⟩:=id (hI w (Wr.refl _ _));have HI:Hid _:=hI;have HP:Hid (Va w):=hp;have HW:=zx6 b bs ws w h hb (by omega) (by omega);have HX:Hid _:=hx;clear hI hp h hx
 go_enter func46,ntmps46
 go_wp2_with fail
 refine HW.mono ?_;rintro e w1 ⟨⟨v1,rfl⟩,hb1,hw1⟩;clear HW;have HB1:Hid _:=hb1;have HW1:Hid (Wr b w w1):=hw1;clear hb1 hw1
 go_wp2_with fail
 go_loopw [13] (λi wr=>∃k:Nat,k<=xs.length/\i=.int .i64 k/\Lib.BuilderAtF 118 5 b b (.pointer (some ⟨b,0,none⟩)) (Lib.byteCells (bs++ws++Fl.blanks (xs.take k))) wr/\Wr b w wr) (λi _=>xs.length - (intOf i).toNat)
 case atStart=>exact⟨0,by omega,rfl,by rw[show bs++ws++Fl.blanks (xs.take 0)=bs++ws from by simp[Fl.blanks]];exact HB1.out,HW1.out⟩
 case round=>
  clear HB1 HW1;obtain⟨k,hk,rfl,hbk,hwr⟩:=hrel;have hbl:(Fl.blanks (xs.take k)).length<=19000:=by
   have:=zk4 (xs.take k) (λx hx=>by have:=HX.out x (List.mem_of_mem_take hx);omega);rw[List.length_take]at this;omega
  have hbz:b<=wr.heap.size:=Nat.le_trans hb hwr.bl.size;have HWR:Hid (Wr b w wr):=hwr
  by_cases hlt:k<xs.length
  ·obtain⟨ao',cap',heq,_,_,hc⟩:=HI.out wr hwr
   simp only[Value.slice.injEq]at heq;obtain⟨rfl,-,rfl⟩:=heq;obtain⟨g,off,rfl,_,hcell⟩:=hc (by intro h;rw[h]at hlt;simp at hlt);have hck:=hcell k hlt;have hxr:=HX.out (xs.getD k 0) (by rw[List.getD_eq_getElem?_getD,List.getElem?_eq_getElem hlt];simp);obtain⟨v,hv⟩:∃v:Nat,xs.getD k 0=(v:Int):=⟨(xs.getD k 0).toNat,by omega⟩;have hvn:v<2147483648:=(by omega);have HS:Hid (bs++ws++Fl.blanks (xs.take (k+1))=(bs++ws++Fl.blanks (xs.take k)++[32])++Lib.decDigits v):=by
    show _=_;rw[Fl.blanks_take xs k hlt,hv];simp
   rw[hv]at hck;have HW2:=zx6 b (bs++ws++Fl.blanks (xs.take k)) [32] wr (.inr hbk) hbz (by simp only[List.length_append];omega) (by simp);have HPW:Hid (Va wr):=HP.out.wr hpb hwr.bl;clear hcell hc hv hxr hbk hwr
   go_wp2_with fail
   refine HW2.mono ?_;rintro e w2 ⟨⟨v2,rfl⟩,hb2,hw2⟩;have HB2:Hid _:=hb2;have HWR2:Hid (Wr b w w2):=HWR.out.trans hw2;have hbz2:b<=w2.heap.size:=Nat.le_trans hbz hw2.bl.size;have HIT:=zc2 v w2 (by omega) (HPW.out.wr hpb hw2.bl);clear HW2 hb2 hw2 hck
   go_wp2_with fail
   refine HIT.mono ?_;rintro e w3 ⟨rfl,hb3⟩;have hdl:=zr9 v (by omega);have HW3:=zx6 b (bs++ws++Fl.blanks (xs.take k)++[32]) (Lib.decDigits v) w3 (.inr (zw4 HB2.out hb3)) (Nat.le_trans hbz2 hb3.size) (by simp only[List.length_append,List.length_singleton];omega) (by omega);have HWR3:Hid (Wr b w w3):=HWR2.out.below hb3 hbz2;clear HIT hb3 hbz2 hbz
   go_wp2_with fail
   refine HW3.mono ?_;rintro e w4 ⟨⟨v4,rfl⟩,hb4,hw4⟩;have HB4:Hid _:=hb4;have HWR4:Hid (Wr b w w4):=HWR3.out.trans hw4;clear HW3 hb4 hw4 hdl;go_wp2
   go_roundw
   case rel=>exact⟨k+1,by omega,by go_num,by rw[HS.out];exact HB4.out,HWR4.out⟩
   case measure=>simp[intOf];omega
  ·have HW2:=zx6 b (bs++ws++Fl.blanks (xs.take k)) [10] wr (.inr hbk) hbz (by simp only[List.length_append];omega) (by simp)
   have HS:Hid (bs++ws++Fl.blanks (xs.take k)++[10]=bs++ws++Fl.spaced xs):=by
    show _=_;rw[Fl.spaced,List.take_of_length_le (by omega)];simp
   clear hbk hwr
   go_wp2_with fail
   refine HW2.mono ?_;rintro e w2 ⟨⟨v2,rfl⟩,hb2,hw2⟩;have HB2:Hid _:=hb2;have HWR2:Hid (Wr b w w2):=HWR.out.trans hw2;clear HW2 hb2 hw2;go_wp2
   go_end0
   exact⟨rfl,by rw[<-HS.out];exact HB2.out,HWR2.out⟩
def zr2(w:World)(base:Nat)(v:Value)(n:Nat)(xs:List Value)(hown:w.ownsRow base 3 1 v n xs)(c:Nat)(ty:TypeId){i:TypeInfo}(hi:prog.info? 3=some i):(Builtin.append_ #[23,23] ty #[v,.slice none 0 c]).run prog w=.ok v w:=by
 rcases hown.2 with⟨rfl,h0⟩|⟨g,cap,cur,rfl,hb,hg,hnc,hcm,hcs,ht⟩
 ·simp[Builtin.append_,run_underlying underlying23,sizeOf,typeInfo,hi,Builtin.lenOf,Builtin.firstCells]
 ·simp[Builtin.append_,run_underlying underlying23,sizeOf,typeInfo,hi,Builtin.lenOf,Builtin.firstCells,hnc,storeCells]
def zp2{w:World}{ops:Array Oper}{rest:List Oper}{o:Oper}{a:Act}{Q:Exit->Act->World->Prop}(hgd:o.guard=none)(s x:Operand)
  (ho:o.op=.call {callee:=.builtin .append,args:=#[s,x],argTypes:=#[23,23]}) (base:Nat) (v:Value) (ys:List Int) (hs:a.eval s=v) (hown:w.ownsRow base 3 1 v ys.length (ys.map (Value.int .i64))) (xv:Value) (hx:a.eval x=xv) (B:Nat) (xs:List Int) (hin:Zy B w xv xs) (hyl:ys.length<=1000000) (hlen:xs.length<=1000000) (hbase:base<=w.heap.size)
  (h:∀v' w',w'.ownsRow base 3 1 v' (ys++xs).length ((ys++xs).map (Value.int .i64))->w.grownBy w' v.ownBlock->wpList prog ops Q rest (a.put o.dst v') w'):wpList prog ops Q (o::rest) a w:=by
 obtain⟨i0,hi,hz0,hz1,hz2⟩:=info_parts Tryz.infoInt;obtain⟨ao,cap,rfl,hc,hm,hcell⟩:=hin;have hgo:∀ad,ao=some ad->(∀j u,(xs.map (Value.int .i64))[j]?=some u->w.cell? (ad.add j)=some u)->wpList prog ops Q (o::rest) a w:=by
  rintro ad rfl hcs;refine wpList_append_own _ hgd s x 23 ho base 3 i0 (.int .i64 0) 1 8 underlying23 hi hz0 hz1 hz2 rfl (by decide) _ _ _ hs hown ad xs.length cap (xs.map (Value.int .i64)) hx (by simp) hcs ?_ (by unfold maxLen;omega) (by omega) hbase ?_
  ·intro u hu;simp only[List.mem_map]at hu;obtain⟨y,_,rfl⟩:=hu;rfl
  ·intro v' w' hown' hg _
   exact h v' w' (by rw[List.length_append,List.map_append];exact hown') hg
 by_cases hne:xs=[]
 ·subst hne
  cases ao with
  |some ad=>exact hgo ad rfl (by simp)
  |none=>
   have hrun:=zr2 w base v ys.length _ hown cap o.type hi;refine wpList_plain hgd λK hK=>?_;unfold Oper.wp;simp only[List.length_nil]at hx;simp[execOp,ho,resolve,invoke,builtin,hs,hx,hrun,Result.andThen];exact hK _ _ (h _ _ (by simpa using hown) ⟨rfl,rfl,rfl,Nat.le_refl _,λ_ _ _=>rfl⟩)
 ·obtain⟨b,off,rfl,hbB,hcells⟩:=hcell hne
  refine hgo _ rfl ?_;intro j u hj;rw[List.getElem?_map]at hj;obtain⟨y,hy,rfl⟩:=Option.map_eq_some_iff.1 hj;have hjl:j<xs.length:=(List.getElem?_eq_some_iff.1 hy).1;have:=hcells j hjl;rw[List.getD_eq_getElem?_getD,hy]at this
  have h2:(⟨b,off,none⟩:Addr).add j=⟨b,off+j,none⟩:=by unfold Addr.add;split<;>simp_all
  rw[h2];simpa using this
namespace Fl
def lineNums(n:Node):List Int:=if 0<fields n.kind then [n.level,n.a,n.b,n.c].take (1+(fields n.kind).toNat) else n.level::n.list
def nodeLine(k:Nat)(n:Node):List UInt8:=Lib.decDigits k++(32::(kindWords.getD n.kind.toNat []++spaced (lineNums n)))
def textTo(ls:List Int)(ns:List Node)(k:Nat):List UInt8:=wLocals++spaced ls++(List.range k).flatMap (λi=>nodeLine i (nth ns i))
def text(ls:List Int)(ns:List Node):List UInt8:=textTo ls ns ns.length
def textTo_succ(ls:List Int)(ns:List Node)(k:Nat):textTo ls ns (k+1)=textTo ls ns k++nodeLine k (nth ns k):=by
 unfold textTo;rw[List.range_succ];simp
def Tellable(n:Node):Prop:=0<=n.kind/\n.kind<8/\(0<=n.level/\n.level<2147483648)/\(0<=n.a/\n.a<2147483648)/\(0<=n.b/\n.b<2147483648)/\(0<=n.c/\n.c<2147483648)/\n.list.length<=16/\∀x∈n.list,0<=x/\x<2147483648
end Fl
def own_wr{b base:Nat}{w W:World}{v:Value}{n:Nat}{xs:List Value}(h:w.ownsRow base 3 1 v n xs)(hb:v.ownBlock≠some b)(hw:Wr b w W):W.ownsRow base 3 1 v n xs:=by
 refine⟨h.1,?_⟩;rcases h.2 with hn|⟨g,cap,cur,hv,hbb,hg,rest⟩
 ·exact .inl hn
 ·refine .inr ⟨g,cap,cur,hv,hbb,hw.row hg (λe=>hb (by rw[hv,e];rfl)) (by decide),rest⟩
def yq7(v:Nat)(h:v<2147483648):(Lib.decDigits v).length<=10:=by
 rw[<-Fl.decF_digits 9 v (Nat.lt_of_lt_of_le h (by decide))];exact znx 9 v
def zaw(v:Nat)(h:v<1000):(Lib.decDigits v).length<=3:=by
 rw[<-Fl.decF_digits 2 v (Nat.lt_of_lt_of_le h (by decide))];exact znx 2 v
def znw:∀(xs:List Int),(∀x∈xs,0<=x/\x<2147483648)->(Fl.blanks xs).length<=11*xs.length
 |[],_=>by simp[Fl.blanks]
 |x::r,h=>by
  have h1:=znw r (λy hy=>h y (by simp[hy]));have h2:=yq7 x.toNat (by have:=h x (by simp);omega);have e:Fl.blanks (x::r)=(32::Lib.decDigits x.toNat)++Fl.blanks r:=(by simp[Fl.blanks]);rw[e,List.length_append,List.length_cons,List.length_cons];omega
def zuw{n:Fl.Node}(h:Fl.Tellable n):(Fl.lineNums n).length<=17/\∀x∈Fl.lineNums n,0<=x/\x<2147483648:=by
 obtain⟨h1,h2,h3,h4,h5,h6,h7,h8⟩:=h;unfold Fl.lineNums
 split
 ·refine⟨by rw[List.length_take];simp;omega,λx hx=>?_⟩
  have:=List.mem_of_mem_take hx;simp only[List.mem_cons,List.not_mem_nil,or_false]at this;rcases this with rfl|rfl|rfl|rfl<;>assumption
 ·refine⟨by simp;omega,λx hx=>?_⟩
  rcases List.mem_cons.1 hx with rfl|hx
  ·exact h3
  ·exact h8 x hx
def zp3(k:Nat)(h:k<8):(Fl.kindWords.getD k []).length<=5:=by
 rcases(show k=0\/k=1\/k=2\/k=3\/k=4\/k=5\/k=6\/k=7 by omega) with rfl|rfl|rfl|rfl|rfl|rfl|rfl|rfl<;>decide
def zc3{k:Nat}{n:Fl.Node}(hk:k<1000)(h:Fl.Tellable n):(Fl.nodeLine k n).length<=197:=by
 obtain⟨h1,h2⟩:=zuw h;have h3:=znw _ h2;have h4:=zaw k hk;have h5:=zp3 n.kind.toNat (by have:=h.1;have:=h.2.1;omega);unfold Fl.nodeLine Fl.spaced;simp only[List.length_append,List.length_cons,List.length_nil];omega
def zk5{ls:List Int}{ns:List Fl.Node}(hl:ls.length<=4)(hr:∀x∈ls,0<=x/\x<2147483648):∀k,k<=200->(∀i,i<k->Fl.Tellable (Fl.nth ns i))->(Fl.textTo ls ns k).length<=51+197*k
 |0,_,_=>by
  have:=znw ls hr;unfold Fl.textTo Fl.spaced;simp[Fl.wLocals];omega
 |k+1,hk,h=>by
  have h1:=zk5 hl hr k (by omega) (λi hi=>h i (by omega));have h2:=zc3 (k:=k) (by omega) (h k (by omega));rw[Fl.textTo_succ,List.length_append];omega
def zgx{n:Fl.Node}{k:Nat}(hk:n.kind=(k:Int))(h8:k<8)(hl:k≠7->n.list=[]):Fl.lineNums n=n.level::([n.a,n.b,n.c].take (Ys k)++n.list):=by
 unfold Fl.lineNums;rw[hk]
 by_cases h7:k=7
 ·subst h7;rfl
 ·rw[hl h7]
  rcases(show k=0\/k=1\/k=2\/k=3\/k=4\/k=5\/k=6 by omega) with rfl|rfl|rfl|rfl|rfl|rfl|rfl<;>rfl
def ytx{w:World}{T:Nat}(hT:w.heap[T]?=some (.cells Zv 98 (0,0)))(k:Nat)(hk:k<8):w.cell? ⟨T,k*4,none⟩=some (.string ⟨(Fl.kindWords.getD k []).toArray⟩):=by
 rcases(show k=0\/k=1\/k=2\/k=3\/k=4\/k=5\/k=6\/k=7 by omega) with rfl|rfl|rfl|rfl|rfl|rfl|rfl|rfl<;>exact(cell_of_row _ _ _ _ _ _ hT).trans rfl
structure Js(ls:List Int)(WQ wr:World)(L Q:Nat)(lv nv:Value)(acc:List Fl.Node)(lvs:List Value):Prop where
 hl:lvs.length=acc.length
 hn:wr.ownsRow (Q+1) 121 6 nv acc.length (Xr acc lvs)
 hall:∀p,p∈(lv,ls)::Ym acc lvs->Xj wr p.1 p.2 (.slice none 0 0) nv/\(p.2≠[]->∀b,p.1.ownBlock=some b->L<=b/\b≠Q)
 c0:wr.cell? ⟨Q,0,none⟩=some lv
 c1:wr.cell? ⟨Q,1,none⟩=some nv
 fq:∀j,wr.frozen? ⟨Q,j,none⟩=false
 hb:Below Q WQ wr
 hz:Q<wr.heap.size
 hL:L<=Q
section
variable{ls:List Int}{WQ wr W1 W2:World}{L Q:Nat}{lv nv nv' lvn:Value}{acc:List Fl.Node}{lvs:List Value}{nd:Fl.Node}
def Js.below(h:Js ls WQ wr L Q lv nv acc lvs)(hb:Below wr.heap.size wr W1):Js ls WQ W1 L Q lv nv acc lvs:=by
 have q:∀o,W1.cell? ⟨Q,o,none⟩=wr.cell? ⟨Q,o,none⟩:=λo=>hb.cell (p:=⟨Q,o,none⟩) h.hz;have og:wr.grownBy W1 none:=⟨hb.os,hb.tape,hb.output,hb.size,λk hk _=>hb.block k hk⟩;exact⟨h.hl,h.hn.kept og (by cases nv.ownBlock<;>simp),λp hp=>⟨(h.hall p hp).1.below hb,(h.hall p hp).2⟩,(q _).trans h.c0,(q _).trans h.c1,λj=>(hb.frozen (p:=⟨Q,j,none⟩) h.hz).trans (h.fq j),h.hb.trans (hb.mono (Nat.le_of_lt h.hz)),Nat.lt_of_lt_of_le h.hz hb.size,h.hL⟩
def Js.locals(h:Js ls WQ wr L Q lv nv acc lvs):Zy wr.heap.size wr lv ls:=(h.hall (lv,ls) (by simp)).1.1
def Js.nodes(h:Js ls WQ wr L Q lv nv acc lvs):Zo wr.heap.size wr nv acc:=
 Vr h.hn h.hl (λi hi=>(h.hall _ (by simp only[List.mem_cons];right;exact Vk acc lvs i h.hl hi)).1.1)
def Js.push(h:Js ls WQ wr L Q lv nv acc lvs)(hb:Below wr.heap.size wr W1)(hi:Zy W1.heap.size W1 lvn nd.list)(hf:∀b,lvn.ownBlock=some b->wr.heap.size<=b)
  (ho:W2.ownsRow (Q+1) 121 6 nv' (acc.length+1) (Xr acc lvs++Zi nd lvn)) (hg:W1.grownBy W2 nv.ownBlock) (hw:nv'.ownBlock=nv.ownBlock\/nv'.ownBlock=some W1.heap.size):
  Js ls WQ (W2.setCell ⟨Q,1,none⟩ nv') L Q lv nv' (acc++[nd]) (lvs++[lvn]):=by
 have h1:=h.below hb;have hz:=h.hz;have hsz:=hb.size;have hsg:=hg.size
 have hs:(W2.setCell ⟨Q,1,none⟩ nv').heap.size=W2.heap.size:=by simp[World.setCell]
 have hne:some Q≠nv.ownBlock:=λhh=>by have:=(h.hn.lt Q hh.symm).1;omega
 have c0:W2.cell? ⟨Q,0,none⟩=some lv:=hg.cell h1.c0 hne;have c1:W2.cell? ⟨Q,1,none⟩=some nv:=hg.cell h1.c1 hne;have fq:∀j,W2.frozen? ⟨Q,j,none⟩=false:=λj=>(World.frozen?_of_block (w:=W1) (hg.block Q (by omega) hne)).trans (h1.fq j);have hk:∀p,p∈(lv,ls)::Ym (acc++[nd]) (lvs++[lvn])->Xj W2 p.1 p.2 (.slice none 0 0) nv'/\(p.2≠[]->∀b,p.1.ownBlock=some b->L<=b/\b≠Q):=by
  intro p hp;rw[Uo _ _ _ _ h.hl]at hp;simp only[List.mem_cons,List.mem_append,List.not_mem_nil,or_false]at hp;have old:p∈(lv,ls)::Ym acc lvs->Xj W2 p.1 p.2 (.slice none 0 0) nv'/\(p.2≠[]->∀b,p.1.ownBlock=some b->L<=b/\b≠Q):=λhp=>⟨(h1.hall p hp).1.second hg hw,(h1.hall p hp).2⟩;rcases hp with hp|hp|hp
  ·exact old (by rw[hp];simp)
  ·exact old (by simp[hp])
  ·subst hp
   have hkn:Xj W1 lvn nd.list (.slice none 0 0) nv:=Xj.new (w:=wr) hi hf (λb hb=>by simp[Value.ownBlock]at hb) (λb hb=>(h.hn.lt b hb).2);exact⟨hkn.second hg hw,λ_ b hh=>by have:=hf b hh;have:=h.hL;omega⟩
 refine⟨by simp[h.hl],?_,λp hp=>⟨(hk p hp).1.set (λhx hh=>((hk p hp).2 hx Q hh).2 rfl),(hk p hp).2⟩,(zs6 (by decide)).trans c0,Vi c1,λj=>by rw[World.frozen?_setCell];exact fq j,?_,by omega,h.hL⟩
 ·rw[zx8 _ _ _ _ h.hl,List.length_append];exact ownsRow_setCell_below ho (by simp) nv'
 ·exact(h1.hb.grown hg (by omega) (λk hk=>by have:=(h.hn.lt k hk).1;omega)).setCell (by simp) _
def Js.new(hb:Below Q WQ wr)(hz:Q<wr.heap.size)(hi:Zy wr.heap.size wr lv ls)(hL:L<=Q)(hne:ls≠[]->∀b,lv.ownBlock=some b->L<=b/\b≠Q)(c0:wr.cell? ⟨Q,0,none⟩=some lv)(c1:wr.cell? ⟨Q,1,none⟩=some (.slice none 0 0))(fq:∀j,wr.frozen? ⟨Q,j,none⟩=false):
  Js ls WQ wr L Q lv (.slice none 0 0) [] []:=by
 refine⟨rfl,World.ownsRow_nil _ _ _ _,λp hp=>?_,c0,c1,fq,hb,hz,hL⟩;simp only[Ym,List.mem_singleton]at hp;subst hp;refine⟨⟨hi,λhx=>?_⟩,hne⟩;obtain⟨b,hbb,_⟩:=zy8 hi hx;rw[hbb];simp[Value.ownBlock]
end
def zp4{l:List (List UInt8)}{j:Nat}(h:j+1<l.length):l.drop j=l.getD j []::l.drop (j+1)/\l.drop (j+1)≠[]:=by
 refine⟨by rw[List.drop_eq_getElem_cons (by omega)];simp[List.getD_eq_getElem?_getD,show j<l.length by omega],λhh=>?_⟩;have:=congrArg List.length hh;simp at this;omega
def zav(r:(List Int×List Fl.Node)×Nat)(w:World)(e:Ending)(w':World):Prop:=
 Below w.heap.size w w'/\∃la n lc na n' nc,e=.returned (.tuple #[.agg #[.slice la n lc,.slice na n' nc],.int .i64 (r.2:Int)])/\(r.2=0->Zy w'.heap.size w' (.slice la n lc) r.1.1/\Zo w'.heap.size w' (.slice na n' nc) r.1.2)
def Mid(Q B:Nat)(W wr:World):Prop:=∀g,Q<g->g<B->wr.heap[g]?=W.heap[g]?
def Mid.refl(Q B:Nat)(W:World):Mid Q B W W:=λ_ _ _=>rfl
def Mid.below{Q B:Nat}{W wr W1:World}(h:Mid Q B W wr)(hB:B<=wr.heap.size)(hb:Below wr.heap.size wr W1):Mid Q B W W1:=λg h1 h2=>(hb.block g (by omega)).trans (h g h1 h2)
def Mid.grown{Q B:Nat}{W wr W1:World}{row:Option Nat}(h:Mid Q B W wr)(hB:B<=wr.heap.size)(hg:wr.grownBy W1 row)(hr:∀b,row=some b->B<=b):Mid Q B W W1:=λg h1 h2=>(hg.block g (by omega) (λhh=>by have:=hr g hh.symm;omega)).trans (h g h1 h2)
def Mid.set{Q B:Nat}{W wr:World}(h:Mid Q B W wr)(o:Nat)(u:Value):Mid Q B W (wr.setCell ⟨Q,o,none⟩ u):=λg h1 h2=>by
 rw[<-h g h1 h2];exact Deep.blk_setCell_other _ _ _ _ (by show g≠Q;omega)
def Mid.cell{Q B:Nat}{W wr:World}(h:Mid Q B W wr){g o:Nat}(h1:Q<g)(h2:g<B):wr.cell? ⟨g,o,none⟩=W.cell? ⟨g,o,none⟩:=World.cell?_of_block (w:=W) (h g h1 h2)
def zav.bad{r:(List Int×List Fl.Node)×Nat}{w w':World}{la na:Option Addr}{n lc n' nc:Nat}{k:Int}(hr:(r.2:Int)=k)(hk:0<k)(hb:Below w.heap.size w w'):zav r w (.returned (.tuple #[.agg #[.slice la n lc,.slice na n' nc],.int .i64 k])) w':=by
 refine⟨hb,la,n,lc,na,n',nc,by rw[hr],λh=>?_⟩;rw[h]at hr;simp at hr;omega
structure Je(lines:List (List UInt8))(W3 wr:World)(Q:Nat)(j:Nat)(ls:List Int)(lv nv:Value)(acc:List Fl.Node)(lvs:List Value):Prop where
 hj:j<lines.length
 hg:Js ls W3 wr Q Q lv nv acc lvs
 ha:acc.length=j - 1
 hr:Fl.readL [] [] 0 lines=Fl.readL ls acc j (lines.drop j)
 h0:j=0->ls=[]/\nv=.slice none 0 0
 hm:Mid Q W3.heap.size W3 wr
 hnb:∀b,nv.ownBlock=some b->W3.heap.size<=b
 hz:W3.heap.size<=wr.heap.size
section
variable{lines:List (List UInt8)}{W3 wr w1 w2:World}{Q i:Nat}{ls vs:List Int}{lv nv nv' v lvn:Value}{acc:List Fl.Node}{lvs:List Value}{nd:Fl.Node}
def Je.first(h:Je lines W3 wr Q 0 ls lv nv acc lvs)(hb1:Below wr.heap.size wr w1)(hb2:Below w1.heap.size w1 w2)(ho:w2.ownsRow w1.heap.size 3 1 v vs.length (vs.map (Value.int .i64)))(h1:1<lines.length)(hl:Fl.localsOf (Fl.cutR 32 (lines.getD 0 []))=some vs):
  Je lines W3 (w2.setCell ⟨Q,0,none⟩ v) Q 1 vs v nv acc lvs:=by
 obtain⟨hls,hnv⟩:=h.h0 rfl;have hacc:acc=[]:=List.eq_nil_of_length_eq_zero (by have:=h.ha;omega);subst hls hnv hacc;have hlvs:lvs=[]:=List.eq_nil_of_length_eq_zero (by have:=h.hg.hl;simpa using this);subst hlvs;have hz:=h.hg.hz;have hz3:=h.hz;have s1:=hb1.size;have s2:=hb2.size
 have hs:(w2.setCell ⟨Q,0,none⟩ v).heap.size=w2.heap.size:=by simp[World.setCell]
 have hQ2:Below wr.heap.size wr w2:=hb1.trans (hb2.mono s1);have c0:w2.cell? ⟨Q,0,none⟩=some lv:=(hQ2.cell (p:=⟨Q,0,none⟩) hz).trans h.hg.c0;have c1:w2.cell? ⟨Q,1,none⟩=some (.slice none 0 0):=(hQ2.cell (p:=⟨Q,1,none⟩) hz).trans h.hg.c1;have fq:∀j,w2.frozen? ⟨Q,j,none⟩=false:=λj=>(hQ2.frozen (p:=⟨Q,j,none⟩) hz).trans (h.hg.fq j);have hov:∀b,v.ownBlock=some b->w1.heap.size<=b:=λb hb=>(ho.lt b hb).1;refine⟨h1,Js.new ?_ (by omega) (Xe (Zy.of_own ho) (λ_ hh=>?_)) (Nat.le_refl _) (λ_ b hb=>?_) (Vi c0) ((zs6 (by decide)).trans c1) (λj=>by rw[World.frozen?_setCell];exact fq j),rfl,?_,λhh=>by omega,?_,λb hb=>by simp[Value.ownBlock]at hb,by omega⟩
 ·exact(h.hg.hb.trans (hQ2.mono (by omega))).setCell (Nat.le_refl _) _
 ·have h9:w1.heap.size<=Q:=hov _ hh
  omega
 ·have:=hov b hb;omega
 ·obtain⟨hd,hne⟩:=zp4 (l:=lines) (j:=0) (by omega)
  have e:lines=lines.getD 0 []::lines.drop 1:=(by simpa using hd)
  conv=>lhs;rw[e]
  rw[Fl.readL_first _ _ _ _ hne,hl]
 ·exact(h.hm.below hz3 hQ2).set 0 v
def Je.next(h:Je lines W3 wr Q (i+1) ls lv nv acc lvs)(hb:Below wr.heap.size wr w1)(hi:Zy w1.heap.size w1 lvn nd.list)(hf:∀b,lvn.ownBlock=some b->wr.heap.size<=b)
  (ho:w2.ownsRow (Q+1) 121 6 nv' (acc.length+1) (Xr acc lvs++Zi nd lvn)) (hg:w1.grownBy w2 nv.ownBlock) (hw:nv'.ownBlock=nv.ownBlock\/nv'.ownBlock=some w1.heap.size) (h1:i+2<lines.length) (hn:Fl.nodeOf i (Fl.cutR 32 (lines.getD (i+1) []))=some nd):
  Je lines W3 (w2.setCell ⟨Q,1,none⟩ nv') Q (i+2) ls lv nv' (acc++[nd]) (lvs++[lvn]):=by
 have s1:=hb.size;have s2:=hg.size;have hz3:=h.hz
 have hs:(w2.setCell ⟨Q,1,none⟩ nv').heap.size=w2.heap.size:=by simp[World.setCell]
 refine⟨h1,h.hg.push hb hi hf ho hg hw,by have:=h.ha;simp;omega,?_,λhh=>by omega,?_,λb hb'=>?_,by omega⟩
 ·obtain⟨hd,hne⟩:=zp4 (l:=lines) (j:=i+1) (by omega)
  rw[h.hr,hd,Fl.readL_next _ _ _ _ _ hne,hn]
 ·exact((h.hm.below hz3 hb).grown (by omega) hg h.hnb).set 1 nv'
 ·rcases hw with hw|hw
  ·exact h.hnb b (hw ▸ hb')
  ·rw[hw]at hb';simp at hb';omega
def Je.bad(h:Je lines W3 wr Q (i+1) ls lv nv acc lvs)(h1:i+2<lines.length)(hn:Fl.nodeOf i (Fl.cutR 32 (lines.getD (i+1) []))=none):(Fl.readL [] [] 0 lines).2=i+2:=by
 obtain⟨hd,hne⟩:=zp4 (l:=lines) (j:=i+1) (by omega);rw[h.hr,hd,Fl.readL_next _ _ _ _ _ hne,hn]
def Je.still{j:Nat}(h:Je lines W3 wr Q j ls lv nv acc lvs)(hb:Below wr.heap.size wr w1)(hg:w1.grownBy w2 nv.ownBlock):w2.cell? ⟨Q,1,none⟩=some nv/\∀o,w2.frozen? ⟨Q,o,none⟩=false:=by
 have G:=h.hg.below hb
 have hne:some Q≠nv.ownBlock:=λhh=>by have:=(h.hg.hn.lt Q hh.symm).1;omega
 exact⟨hg.cell G.c1 hne,λj=>(World.frozen?_of_block (w:=w1) (hg.block Q G.hz hne)).trans (G.fq j)⟩
end
end Go.Proofs.YtminjljgedopkaaGreatDoor
namespace Go.Proofs.YtminjljgedopkaaGreatDoor
open Go.Proofs.Tryz

open Go.RowKit
section
variable{P:Program}{Q:Exit->Act->World->Prop}{S:World->Prop}
end
/- The program's readNode. -/
set_option linter.unusedSimpArgs false
set_option linter.unusedVariables false
structure RnL(W wr:World)(N:Nat)(kd lev:Int)(lv:Value)(xs:List Int)(j:Nat):Prop where
 nd:Nd wr N kd lev ((xs.take j).getD 0 0) ((xs.take j).getD 1 0) ((xs.take j).getD 2 0) lv
 g:W.grownBy wr (some N)
def RnL.zero{W:World}{N:Nat}{kd lev:Int}{lv:Value}{xs:List Int}(h:Nd W N kd lev 0 0 0 lv):RnL W W N kd lev lv xs 0:=⟨by simpa using h,World.grownBy.refl _ _⟩
def RnL.next{W wr:World}{N:Nat}{kd lev:Int}{lv:Value}{xs:List Int}{j:Nat}(h:RnL W wr N kd lev lv xs j)(hj:j<xs.length)(h3:j<3):RnL W (wr.setCell ⟨N,2+j,none⟩ (.int .i64 (xs.getD j 0))) N kd lev lv xs (j+1):=by
 have hg:W.grownBy (wr.setCell ⟨N,2+j,none⟩ (.int .i64 (xs.getD j 0))) (some N):=by
  have g1:=h.g;have g2:=Yl wr N (2+j) (.int .i64 (xs.getD j 0));exact⟨g2.os.trans g1.os,g2.tape.trans g1.tape,g2.output.trans g1.output,Nat.le_trans g1.size g2.size,λi hi hne=>(g2.block i (Nat.lt_of_lt_of_le hi g1.size) hne).trans (g1.block i hi hne)⟩
 refine⟨?_,hg⟩;have hnd:=h.nd
 have:j=0\/j=1\/j=2:=by omega
 rcases this with rfl|rfl|rfl
 ·match xs,hj with
  |x::r,_=>exact hnd.set2 _
 ·match xs,hj with
  |x::y::r,_=>exact hnd.set3 _
 ·match xs,hj with
  |x::y::z::r,_=>exact hnd.set4 _
def RnL.cell{W wr:World}{N:Nat}{kd lev:Int}{lv:Value}{xs:List Int}{j:Nat}(h:RnL W wr N kd lev lv xs j)(h3:j<3):∃v,wr.cell? ⟨N,2+j,none⟩=some (.int .i64 v):=by
 have:j=0\/j=1\/j=2:=by omega
 rcases this with rfl|rfl|rfl
 ·exact⟨_,h.nd.c2⟩
 ·exact⟨_,h.nd.c3⟩
 ·exact⟨_,h.nd.c4⟩
def RnL.all{W wr:World}{N:Nat}{kd lev:Int}{lv:Value}{xs:List Int}(h:RnL W wr N kd lev lv xs xs.length):Nd wr N kd lev (xs.getD 0 0) (xs.getD 1 0) (xs.getD 2 0) lv:=by
 have:=h.nd;simpa using this
def Nd.cells{w:World}{N:Nat}{kd lev a b c:Int}{l:Value}{ls:List Int}(h:Nd w N kd lev a b c l):∀j u,(Zi ⟨kd,lev,a,b,c,ls⟩ l)[j]?=some u->w.cell? ⟨N,j,none⟩=some u:=by
 intro j u hj;simp only[Zi]at hj
 match j with
 |0=>simp at hj;subst hj;exact h.c0
 |1=>simp at hj;subst hj;exact h.c1
 |2=>simp at hj;subst hj;exact h.c2
 |3=>simp at hj;subst hj;exact h.c3
 |4=>simp at hj;subst hj;exact h.c4
 |5=>simp at hj;subst hj;exact h.c5
 |j+6=>simp at hj
def yw5{w:World}{T:Nat}(hT:w.heap[T]?=some (.cells Zv 98 (0,0)))(k:Nat)(hk:k<8):w.cell? ⟨T,k*4+1,none⟩=some (.int .i64 (Ys k:Nat))/\w.cell? ⟨T,k*4+2,none⟩=some (.bool (k==7)):=by
 rcases(show k=0\/k=1\/k=2\/k=3\/k=4\/k=5\/k=6\/k=7 by omega) with rfl|rfl|rfl|rfl|rfl|rfl|rfl|rfl<;>exact⟨(cell_of_row _ _ _ _ _ _ hT).trans rfl,(cell_of_row _ _ _ _ _ _ hT).trans rfl⟩
end Go.Proofs.YtminjljgedopkaaGreatDoor
