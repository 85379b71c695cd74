import Derived.Test.YtminjljgedopkaaGreatDoorM18
import Derived.Test.YtminjljgedopkaaGreatDoorM24
import Derived.Laws.MakeOwn
import Derived.Laws.Small
set_option linter.all false
set_option maxRecDepth 100000
set_option maxHeartbeats 40000000
namespace Go.Proofs.YtminjljgedopkaaGreatDoor
open Go.RowKit Go.Proofs.Tryz
def zu1(w:World)(v:Value)(l:List Nat):Prop:=
 ∃ao cap,v=.slice ao l.length cap/\l.length<=cap/\cap<=maxLen/\(∀x∈l,x<4294967296)/\(l≠[]->∃b off,ao=some ⟨b,off,none⟩/\b<w.heap.size/\∀i,i<l.length->w.cell? ⟨b,off+i,none⟩=some (.int .u32 (l.getD i 0)))
def Xm(l:List Nat):List Value:=l.map λ(x:Nat)=>Value.int .u32 (x:Int)
def zz6(l:List Nat)(i:Nat)(h:i<l.length):(Xm l)[i]?=some (.int .u32 (l.getD i 0)):=by unfold Xm;simp[List.getD_eq_getElem?_getD,h]
def Tryz.infoU32P:(Tryz.prog.info? 58).map (λi=>(i.zero,i.size,i.bytes))=some (some (.int .u32 0),1,4):=by kernel_rfl
def Tryz.infoU32S:(Tryz.prog.info? 58).map (·.size)=some 1:=by kernel_rfl
def Ut(n:Nat):Array Value:=(List.replicate n (Value.int .u32 0)).toArray
def zc5(W:World)(c:Int)(n:Nat)(hc:c=(n:Int))(hn:n<=100000):(Instr.makeSlice 50 (.int .i64 c) (.int .i64 c)).run prog W=.ok (.slice (some ⟨W.heap.size,0,none⟩) n n) (W.alloc (.cells (Ut n) 58)):=by
 subst hc;obtain⟨i0,hi0,hz0,hzs,hzb⟩:=info_parts Tryz.infoU32P;have h:=run_makeSlice (w:=W) 50 58 i0 (.int .u32 0) underlying50 hi0 hz0 .i64 .i64 (n:Int) (n:Int) (by omega) (Int.le_refl _) (by rw[hzs];simp;omega) (by rw[hzb];omega) (by omega);rw[h,hzs];have e:madeCells (Value.int .u32 0).cells ((n:Int).toNat*1)=Ut n:=by
  apply Array.ext
  ·simp[madeCells,Ut]
  ·intro i h1 h2
   simp[madeCells,Ut,Value.cells,Nat.mod_one]
 rw[e,Int.toNat_natCast]
def zt9{P:Program}{w:World}{ops:Array Oper}{rest:List Oper}{o:Oper}{a:Act}{Q:Exit->Act->World->Prop}(hgd:o.guard=none)(d s:Operand)(dT sT:TypeId)
  (ho:o.op=.call {callee:=.builtin .copy,args:=#[d,s],argTypes:=#[dT,sT]}) (elem:TypeId) (hu:P.underlying dT=some (.slice elem)) (hsz:(P.info? elem).map (·.size)=some 1)
  (dp sp:Option Addr) (dLen dCap sLen sCap:Nat) (hd:a.eval d=.slice dp dLen dCap) (hs:a.eval s=.slice sp sLen sCap)
  (g off:Nat) (cur:List Value) (t:TypeId) (hg:w.heap[g]?=some (.cells cur.toArray t (0,0))) (cs:List Value) (hn:cs.length=Nat.min sLen dLen)
  (hpos:0<cs.length->dp=some ⟨g,off,none⟩/\∃ad,sp=some ad/\∀j v,cs[j]?=some v->w.cell? (ad.add j)=some v)
  (hfit:off+cs.length<=cur.length) (h1:∀v∈cs,v.oneCell'=true)
  (h:∀w',Hid (w'.heap[g]?=some (.cells (splice cur off cs).toArray t (0,0)))->w.grownBy w' (some g)->w'.heap.size=w.heap.size->wpList P ops Q rest (a.put o.dst (goInt cs.length)) w'):
  wpList P ops Q (o::rest) a w:=by
 by_cases h0:cs.length=0
 ·obtain rfl:cs=[]:=List.eq_nil_of_length_eq_zero h0
  refine wpList_copy_nothing hgd d s dT sT ho elem hu hsz dp sp dLen dCap sLen sCap hd hs (by simpa using hn.symm) ?_;exact h w (show _=_ by simpa [splice] using hg) (World.grownBy.refl _ _) rfl
 ·obtain⟨rfl,ad,rfl,hsrc⟩:=hpos (by omega)
  refine wpList_copy_own hgd d s dT sT ho elem hu hsz g off dLen dCap ad sLen sCap hd hs cur.toArray t hg cs hn hsrc (by simpa using hfit) h1 ?_;refine h _ (show _=_ by simpa [splice] using setRow_heap w g _ _ t _ hg) ⟨rfl,rfl,rfl,by simp[World.setRow],λk hk hne=>setRow_other w g k _ (by simpa using hne)⟩ (by simp[World.setRow])
structure zp8(w W:World)(Vb Tb Ob nv:Nat):Prop where
 be:Below w.heap.size w W
 sz:W.heap.size=w.heap.size+4
 e:W.heap[w.heap.size]?=some (.cells #[.slice none 0 0,.slice none 0 0,.bool false] 53)
 v:W.heap[Vb]?=some (.cells (Ut nv) 58 (0,0))
 t:W.heap[Tb]?=some (.cells #[.func (.func 125) #[] #[]] 238 (0,0))
 o:W.heap[Ob]?=some (.cells (zf1 Tb) 239 (0,0))
 g:w.heap.size<Vb/\Vb<w.heap.size+4/\w.heap.size<Tb/\Tb<w.heap.size+4/\w.heap.size<Ob/\Ob<w.heap.size+4/\Vb≠Tb/\Vb≠Ob/\Tb≠Ob
def Yn(u:World)(o:Obj)(k:Nat)(hk:k<u.heap.size):(u.alloc o).heap[k]?=u.heap[k]?:=Below.heap_alloc _ _ _ hk
def Vm(u:World)(o:Obj)(k:Nat)(hk:u.heap.size=k):(u.alloc o).heap[k]?=some o:=by subst hk;exact heap_alloc_last u o
def yqz(w:World)(nv:Nat):zp8 w (opW ((w.alloc (.cells #[.slice none 0 0,.slice none 0 0,.bool false] 53)).alloc (.cells (Ut nv) 58)).drew) (w.heap.size+1) (w.heap.size+2) (w.heap.size+1+1+1) nv:=by
 unfold opW;refine⟨((((Below.refl _ w).alloc (Nat.le_refl _) _).alloc (by simp) _).drew.alloc (by simp;omega) _).alloc (by simp;omega) _,by simp,?_,?_,?_,?_,by omega⟩
 ·rw[Yn _ _ _ (by simp<;>omega),Yn _ _ _ (by simp<;>omega)]
  show ((w.alloc _).alloc _).heap[w.heap.size]?=_;rw[Yn _ _ _ (by simp),Vm _ _ _ rfl]
 ·rw[Yn _ _ _ (by simp<;>omega),Yn _ _ _ (by simp<;>omega)]
  show ((w.alloc _).alloc _).heap[w.heap.size+1]?=_;rw[Vm _ _ _ (by simp)]
 ·rw[Yn _ _ _ (by simp<;>omega),Vm _ _ _ (by simp)]
 ·rw[Vm _ _ _ (by simp)];simp
def znv(w:World)(nv:Nat):let W1:=opW (w.alloc (.cells #[.slice none 0 0,.slice none 0 0,.bool false] 53)).drew
  Below w.heap.size w W1/\W1.heap.size=w.heap.size+3/\zp8 w (W1.alloc (.cells (Ut nv) 58)) W1.heap.size (w.heap.size+1) (w.heap.size+1+1) nv:=by
 intro W1;have hb:Below w.heap.size w W1:=(((Below.refl _ w).alloc (Nat.le_refl _) _).drew.alloc (by simp) _).alloc (by simp;omega) _
 have hz:W1.heap.size=w.heap.size+3:=by simp[W1,opW]
 refine⟨hb,hz,hb.alloc (by omega) _,by simp[hz],?_,Vm _ _ _ rfl,?_,?_,by omega⟩
 ·rw[Yn _ _ _ (by omega)]
  show (((w.alloc _).drew.alloc _).alloc _).heap[w.heap.size]?=_;rw[Yn _ _ _ (by simp<;>omega),Yn _ _ _ (by simp<;>omega)];show (w.alloc _).heap[w.heap.size]?=_;rw[Vm _ _ _ rfl]
 ·rw[Yn _ _ _ (by omega)]
  show (((w.alloc _).drew.alloc _).alloc _).heap[w.heap.size+1]?=_;rw[Yn _ _ _ (by simp<;>omega),Vm _ _ _ (by simp)]
 ·rw[Yn _ _ _ (by omega)]
  show (((w.alloc _).drew.alloc _).alloc _).heap[w.heap.size+1+1]?=_;rw[Vm _ _ _ (by simp)];simp
def zp9(cs:List Nat)(k nv:Nat)(h:nv=cs.length+k):splice (List.replicate nv (Value.int .u32 0)) 0 (Xm cs)=Xm (cs++List.replicate k 0):=by
 subst h;unfold splice Xm;simp
def za2(l:List Nat)(n:Nat)(h:n=l.length):splice (List.replicate n (Value.int .u32 0)) 0 (Xm l)=Xm l:=by
 have:=zp9 l 0 n (by omega);simpa using this
def ys3{w W W2 W3:World}{Vb Tb Ob nv F k:Nat}{cs:List Nat}(h:zp8 w W Vb Tb Ob nv)(hW2:W2=W.alloc (.cells #[.slice (some ⟨Vb,0,none⟩) nv nv,.slice none 0 0,.int .i64 F,.slice (some ⟨Ob,0,none⟩) 5 5] 168))(hnv:nv=cs.length+k)(hn10:nv<=10)(hF:F<=2000)(hb:∀x∈cs,x<4294967296)
  (hrow:W3.heap[Vb]?=some (.cells (splice (List.replicate nv (Value.int .u32 0)) 0 (Xm cs)).toArray 58 (0,0))) (hg:W2.grownBy W3 (some Vb)) (hz:W3.heap.size=W2.heap.size):
  Zm w.heap.size W3.heap.size (w.heap.size+4) Vb Ob Tb nv W3 W3 ⟨cs++List.replicate k 0,[],F⟩ (.slice none 0 0)/\W3.heap[w.heap.size]?=some (.cells #[.slice none 0 0,.slice none 0 0,.bool false] 53)/\Below w.heap.size w W3/\W3.heap.size=w.heap.size+5:=by
 obtain⟨g1,g2,g3,g4,g5,g6,g7,g8,g9⟩:=h.g;have hsz:=h.sz
 have hz2:W2.heap.size=w.heap.size+5:=by rw[hW2];simp[hsz]
 have hb2:Below w.heap.size w W2:=by rw[hW2];exact h.be.alloc (by omega) _
 have q2:∀j,j<w.heap.size+4->W2.heap[j]?=W.heap[j]?:=λj hj=>by rw[hW2];exact Yn _ _ _ (by omega)
 have q3:∀j,j<w.heap.size+5->j≠Vb->W3.heap[j]?=W2.heap[j]?:=λj hj hne=>hg.block j (by omega) (by simpa using hne);have hm:W3.heap[w.heap.size+4]?=some (.cells #[.slice (some ⟨Vb,0,none⟩) nv nv,.slice none 0 0,.int .i64 F,.slice (some ⟨Ob,0,none⟩) 5 5] 168):=by
  rw[q3 _ (by omega) (by omega),hW2];exact Vm _ _ _ (by omega)
 rw[zp9 cs k nv hnv]at hrow;refine⟨?_,(q3 _ (by omega) (by omega)).trans ((q2 _ (by omega)).trans h.e),⟨hg.os.trans hb2.os,hg.tape.trans hb2.tape,hg.output.trans hb2.output,by omega,λj hj=>(q3 j (by omega) (by omega)).trans (hb2.block j hj)⟩,by omega⟩;refine{inn:=⟨⟨by omega,by omega,by omega⟩,⟨by omega,by omega,by omega,by omega⟩,⟨by omega,by omega,by omega,by omega,by omega⟩,hn10,(q3 _ (by omega) (by omega)).trans ((q2 _ (by omega)).trans h.o),(q3 _ (by omega) (by omega)).trans ((q2 _ (by omega)).trans h.t)⟩,bel:=Below.refl _ _,fx:=λ_ _ _ _=>rfl,hbz:=Nat.le_refl _,cM:= ?_,hv:=by simp[hnv],cV:= ?_,vb:= ?_,sl:=by simp;exact hF,os:=⟨rfl,.inl ⟨rfl,rfl⟩⟩}
 ·exact⟨λj hj=>(cell_of_row _ _ j _ _ (0,0) hm).trans (by rcases(show j=0\/j=1\/j=2\/j=3 by omega) with rfl|rfl|rfl|rfl<;>rfl),λj=>by simp[World.frozen?,hm]⟩
 ·exact⟨λj hj=>(cell_of_row _ _ j _ _ (0,0) hrow).trans (by rw[List.getElem?_toArray,zz6 _ _ (by simp;omega)]),λj=>by simp[World.frozen?,hrow]⟩
 ·intro x hx
  rcases List.mem_append.1 hx with h1|h1
  ·exact hb x h1
  ·have:=List.eq_of_mem_replicate h1;omega
def zhz{w:World}{b b':Nat}{e:TypeId}{k:Nat}{v:Value}{n:Nat}{xs:List Value}(h:w.ownsRow b e k v n xs)(hb:b'<=b):w.ownsRow b' e k v n xs:=by
 refine⟨h.1,?_⟩;rcases h.2 with h1|⟨g,cap,cur,h1,h2,h3⟩
 ·exact .inl h1
 ·exact .inr ⟨g,cap,cur,h1,by omega,h3⟩
def Jr{wz:World}{N:Nat}{u0 u1 u2:Value}(v0 v1 v2:Value)(c0:wz.cell? ⟨N,0,none⟩=some u0)(c1:wz.cell? ⟨N,1,none⟩=some u1)(c2:wz.cell? ⟨N,2,none⟩=some u2):
  (((wz.setCell ⟨N,0,none⟩ v0).setCell ⟨N,1,none⟩ v1).setCell ⟨N,2,none⟩ v2).cell? ⟨N,0,none⟩=some v0/\(((wz.setCell ⟨N,0,none⟩ v0).setCell ⟨N,1,none⟩ v1).setCell ⟨N,2,none⟩ v2).cell? ⟨N,1,none⟩=some v1/\(((wz.setCell ⟨N,0,none⟩ v0).setCell ⟨N,1,none⟩ v1).setCell ⟨N,2,none⟩ v2).cell? ⟨N,2,none⟩=some v2/\
  (∀k,k≠N->(((wz.setCell ⟨N,0,none⟩ v0).setCell ⟨N,1,none⟩ v1).setCell ⟨N,2,none⟩ v2).heap[k]?=wz.heap[k]?)/\(((wz.setCell ⟨N,0,none⟩ v0).setCell ⟨N,1,none⟩ v1).setCell ⟨N,2,none⟩ v2).heap.size=wz.heap.size:=by
 refine⟨?_,?_,?_,λk hk=>?_,by simp⟩
 ·exact(World.cell?_setCell_other _ _ _ _ (by simp)).trans ((World.cell?_setCell_other _ _ _ _ (by simp)).trans (World.cell?_setCell_same' _ _ _ (by simp[c0])))
 ·refine(World.cell?_setCell_other _ _ _ _ (by simp)).trans (World.cell?_setCell_same' _ _ _ ((congrArg Option.isSome (World.cell?_setCell_other _ _ _ _ (by simp))).trans ?_))
  simp[c1]
 ·refine World.cell?_setCell_same' _ _ _ ((congrArg Option.isSome ((World.cell?_setCell_other _ _ _ _ (by simp)).trans (World.cell?_setCell_other _ _ _ _ (by simp)))).trans ?_)
  simp[c2]
 ·rw[Zx _ _ _ _ _ hk,Zx _ _ _ _ _ hk,Zx _ _ _ _ _ hk]
def zm0(n:Nat)(q:Bool×Fl.MS)(w:World)(e:Ending)(w':World):Prop:=
 ∃Lb sv,e=.returned (.agg #[.slice (some ⟨Lb,0,none⟩) n n,sv,.bool q.1])/\Below w.heap.size w w'/\w.heap.size<=Lb/\w'.heap[Lb]?=some (.cells (Xm (q.2.vars.take n)).toArray 58 (0,0))/\
  (q.2.vars.take n).length=n/\(∀x∈q.2.vars,x<4294967296)/\w'.ownsRow w.heap.size 60 2 sv q.2.sent.length (Xn q.2.sent)/\sv.ownBlock≠some Lb/\q.2.sent.length<=2000
def yqy{w:World}{Pb:Nat}{p:Fl.Prog}{cv:Value}{cs:List Nat}(fuel:Int)(F:Nat)(hF:(F:Int)=min (max fuel 0) 2000)(hp:Ug (λb=>b<w.heap.size) w Pb p)(hok:p.Ok)(hcs:zu1 w cv cs)(hlen:cs.length=p.cells.length):
  Calls prog 37 #[.pointer (some ⟨Pb,0,none⟩),cv,.int .i64 fuel] w (zm0 cs.length (p.run cs F) w):=by
 obtain⟨ao,cap,rfl,g1,g2,g3,g4⟩:=hcs;obtain⟨Lb0,clv,chv,bv,s1,s2,hP,hL,hC,hH,hB⟩:=hp;have c3:w.cell? ⟨Pb,3,none⟩=some (.int .i64 p.locals):=hP.c 3 (by omega);have c4:w.cell? ⟨Pb,4,none⟩=some bv:=hP.c 4 (by omega);have hlo:=hok.lo;have hce:=hok.ce;obtain⟨n,hn⟩:∃n,n=cs.length:=⟨_,rfl⟩;obtain⟨k,hk⟩:∃k,k=p.locals:=⟨_,rfl⟩;rw[<-hk]at c3
 have n6:(n:Int)<=6:=by omega
 have k4:(k:Int)<=4:=by omega
 obtain⟨nv,hnv⟩:∃nv,nv=n+k:=⟨_,rfl⟩;have HMS:Hid (∀W,(Instr.makeSlice 50 (.int .i64 ((n:Int)+(k:Int))) (.int .i64 ((n:Int)+(k:Int)))).run prog W=.ok (.slice (some ⟨W.heap.size,0,none⟩) nv nv) (W.alloc (.cells (Ut nv) 58))):=λW=>zc5 W _ nv (by omega) (by omega);have HMS2:Hid (∀W,(Instr.makeSlice 50 (.int .i64 (n:Int)) (.int .i64 (n:Int))).run prog W=.ok (.slice (some ⟨W.heap.size,0,none⟩) n n) (W.alloc (.cells (Ut n) 58))):=λW=>zc5 W _ n rfl (by omega);obtain⟨M1,hM1⟩:∃M1:Int,M1=max fuel 0:=⟨_,rfl⟩
 have hM2:(F:Int)=min M1 2000:=by rw[hF,hM1]
 rw[<-hn];have HP3:Hid (∀W,Below w.heap.size w W->W.cell? ⟨Pb,3,none⟩=some (.int .i64 k)):=λW hW=>(hW.cell (p:=⟨Pb,3,none⟩) s1).trans c3;have HP4:Hid (∀W,Below w.heap.size w W->W.cell? ⟨Pb,4,none⟩=some bv):=λW hW=>(hW.cell (p:=⟨Pb,4,none⟩) s1).trans c4;have HN:Hid (n=cs.length):=hn;have HKL:Hid (k=p.locals):=hk;have HNV:Hid (nv=n+k):=hnv;have HM2:Hid ((F:Int)=min M1 2000):=hM2;have HM1:Hid (M1=max fuel 0):=hM1
 have HF2:Hid (F<=2000):=by show F<=2000;omega
 have HG:Hid (cs.length<=cap/\cap<=maxLen/\(∀x∈cs,x<4294967296)/\(cs≠[]->∃b off,ao=some ⟨b,off,none⟩/\b<w.heap.size/\∀i,i<cs.length->w.cell? ⟨b,off+i,none⟩=some (.int .u32 (cs.getD i 0)))):=⟨g1,g2,g3,g4⟩;have HOK:Hid p.Ok:=hok;have HLEN:Hid (cs.length=p.cells.length):=hlen;have HB:Hid (Zt 4 (λb=>b<w.heap.size) w bv p.body):=hB
 obtain⟨ba,bn,bc,rfl⟩:∃ba bn bc,bv=.slice ba bn bc:=by obtain⟨x,y,h1,-⟩:=hB;exact⟨_,_,_,h1⟩
 clear hn hk hnv hM2 hM1 hF g1 g2 g3 g4 hok hlen hB hP hL hC hH hlo hce c3 c4 s1 s2
 go_enter func37,ntmps37
 go_wp2_with fail
 refine zjz (λW=>Below w.heap.size w W) [0,1,2,3,4,5,6,8,9,10] 7 11 [11,12,13,14] [7,12,13,14] (by kernel_rfl) (by kernel_rfl) rfl rfl [_,_,_,_,_,_,_,_,_,_] _ _ [_,_,_,_] [_,_,_,_] rfl rfl rfl rfl rfl (λc a d v w h=>by cases d<;>exact h) ((Below.refl _ _).alloc (Nat.le_refl _) _).drew (λops=>?_);simp only[List.getElem_toArray,List.getElem_cons_succ,List.getElem_cons_zero]
 iterate 8
  refine Jg rfl (λK hK=>?_);apply Exists.intro
  refine⟨λw' hw'=>?_,?_⟩
  ·have e3:=HP3.out w' hw'
   clear hw';go_simp
   try with_reducible rfl
  go_simp;refine hK _ ?_;clear hK K
 refine Jg rfl (λK hK=>?_);refine⟨.int .i64 M1,λw' hw'=>?_,?_⟩
 ·rw[HM1.out]
  clear hw';go_simp
  try with_reducible rfl
 go_simp;refine hK _ ?_;clear hK K;refine Jg rfl (λK hK=>?_);refine⟨.int .i64 F,λw' hw'=>?_,?_⟩
 ·rw[HM2.out]
  clear hw';go_simp
  try with_reducible rfl
 go_simp;refine hK _ ?_;clear hK K;refine zrv ⟨?_,?_⟩
 focus
  refine zx2 ?_
  go_wp2_with fail
  rw[HMS.out]
  go_wp2_with fail
  refine⟨((((Below.refl _ _).alloc (Nat.le_refl _) _).alloc (by simp) _)).drew,?_⟩;refine zx2 ?_
  go_wp2_with fail
  refine(zt7 _).mono ?_;rintro e w1 ⟨rfl,hw1⟩;rw[hw1];clear hw1 w1
  go_wp2_with fail
  obtain⟨W,hW⟩:∃W,W=opW ((w.alloc (.cells #[.slice none 0 0,.slice none 0 0,.bool false] 53)).alloc (.cells (Ut nv) 58)).drew:=⟨_,rfl⟩;obtain⟨Vb,hVb⟩:∃Vb,Vb=w.heap.size+1:=⟨_,rfl⟩;obtain⟨Tb,hTb⟩:∃Tb,Tb=w.heap.size+2:=⟨_,rfl⟩;obtain⟨Ob,hOb⟩:∃Ob,Ob=w.heap.size+1+1+1:=⟨_,rfl⟩;have HS:Hid (zp8 w W Vb Tb Ob nv):=by
   show zp8 _ _ _ _ _ _;rw[hW,hVb,hTb,hOb];exact yqz w nv
  rw[<-hW,<-hOb,<-hVb];clear hW hVb hTb hOb
 rotate_left
 focus
  refine zx2 ?_
  go_wp2_with fail
  refine(zt7 _).mono ?_;rintro e w1 ⟨rfl,hw1⟩;rw[hw1];clear hw1 w1
  go_wp2_with fail
  obtain⟨W1,hW1⟩:∃W1,W1=opW (w.alloc (.cells #[.slice none 0 0,.slice none 0 0,.bool false] 53)).drew:=⟨_,rfl⟩;have hB1:Below w.heap.size w W1:=(by rw[hW1];exact(znv w nv).1);have hz1:w.heap.size+3=W1.heap.size:=(by rw[hW1];exact(znv w nv).2.1.symm);have HMT:Hid (zp8 w (W1.alloc (.cells (Ut nv) 58)) W1.heap.size (w.heap.size+1) (w.heap.size+1+1) nv):=(by rw[hW1];exact(znv w nv).2.2);rw[<-hW1];clear hW1;refine⟨hB1,?_⟩;refine zx2 ?_
  go_wp2_with fail
  rw[HMS.out]
  go_wp2_with fail
  obtain⟨W,hW⟩:∃W,W=W1.alloc (.cells (Ut nv) 58):=⟨_,rfl⟩;obtain⟨Vb,hVb⟩:∃Vb,Vb=W1.heap.size:=⟨_,rfl⟩;obtain⟨Tb,hTb⟩:∃Tb,Tb=w.heap.size+1:=⟨_,rfl⟩;obtain⟨Ob,hOb⟩:∃Ob,Ob=w.heap.size+1+1:=⟨_,rfl⟩;have HS:Hid (zp8 w W Vb Tb Ob nv):=by
   show zp8 _ _ _ _ _ _;rw[hW,hVb,hTb,hOb];exact HMT.out
  rw[<-hW,<-hVb,<-hOb];clear hW hVb hTb hOb hB1 hz1 HMT
 all_goals
  have hS:=HS.out;have hBW:=hS.be;have hsW:=hS.sz;refine⟨hBW,?_⟩;refine zx2 ?_
  go_wp2_with fail
  refine⟨hBW,?_⟩;refine zx2 ?_
  go_wp2_with fail
  obtain⟨W2,hW2⟩:∃W2,W2=W.alloc (.cells #[.slice (some ⟨Vb,0,none⟩) nv nv,.slice none 0 0,.int .i64 (F:Int),.slice (some ⟨Ob,0,none⟩) 5 5] 168):=⟨_,rfl⟩;have hB2:Below w.heap.size w W2:=(by rw[hW2];exact hBW.alloc (by omega) _);have hz2:w.heap.size+5=W2.heap.size:=(by rw[hW2];simp[hsW]);have m0:W2.cell? ⟨w.heap.size+4,0,none⟩=some (.slice (some ⟨Vb,0,none⟩) nv nv):=by
   rw[hW2];exact cell_of_row _ _ 0 _ _ (0,0) (Vm _ _ _ hsW)
  have kV:W2.heap[Vb]?=some (.cells (List.replicate nv (Value.int .u32 0)).toArray 58 (0,0)):=by
   rw[hW2,Yn _ _ _ (by have:=hS.g;omega)];exact hS.v
  have HW2:Hid (W2=W.alloc (.cells #[.slice (some ⟨Vb,0,none⟩) nv nv,.slice none 0 0,.int .i64 (F:Int),.slice (some ⟨Ob,0,none⟩) 5 5] 168)):=hW2;rw[<-hW2];clear hW2 hS hBW hsW;refine⟨hB2,?_⟩;refine zx2 ?_
  go_wp2_with fail
  refine⟨hB2,?_⟩;refine st_end ?_;have KV:Hid (W2.heap[Vb]?=some (.cells (List.replicate nv (Value.int .u32 0)).toArray 58 (0,0))):=kV;have HB2:Hid (Below w.heap.size w W2):=hB2;clear kV hB2 hz2
  go_wp2_with (refine zt9 rfl (.tmp 27) (.tmp 28) 50 50 rfl 58 underlying50 Tryz.infoU32S _ _ _ _ _ _ rfl rfl Vb 0 (List.replicate nv (Value.int .u32 0)) 58 KV.out (Xm cs) ?c1 ?c2 ?c3 ?c4 ?_)
  case c1=>
   have h1:=HN.out;have h2:=HNV.out;have h3:Nat.min n nv=n:=Nat.min_eq_left (by omega);rw[h3];simp[Xm];exact h1.symm
  case c2=>
   intro hpos
   try refine⟨rfl,?_⟩
   obtain⟨b,off,h1,h2,h3⟩:=HG.out.2.2.2 (λh=>by rw[h]at hpos;simp[Xm]at hpos);refine⟨_,h1,λj v hj=>?_⟩;have hjl:j<cs.length:=by
    have:=(List.getElem?_eq_some_iff.1 hj).1;simpa [Xm] using this
   rw[zz6 cs j hjl]at hj;simp only[Option.some.injEq]at hj
   have h5:(⟨b,off,none⟩:Addr).add j=⟨b,off+j,none⟩:=by unfold Addr.add;split<;>simp_all
   rw[h5,<-hj];exact(HB2.out.cell (p:=⟨b,off+j,none⟩) h2).trans (h3 j hjl)
  case c3=>have h1:=HN.out;have h2:=HNV.out;simp[Xm];omega
  case c4=>intro v hv;simp only[Xm,List.mem_map]at hv;obtain⟨x,-,rfl⟩:=hv;rfl
  intro W3 hrow hg3 hz3;obtain⟨hM,hE,hB3,hs3⟩:=ys3 (k:=k) (cs:=cs) HS.out HW2.out (by rw[<-HN.out];exact HNV.out) (by have:=HNV.out;omega) HF2.out HG.out.2.2.1 hrow.out hg3 hz3;have HM:Hid (Zm w.heap.size W3.heap.size (w.heap.size+4) Vb Ob Tb nv W3 W3 ⟨cs++List.replicate k 0,[],F⟩ (.slice none 0 0)):=hM;have HE:Hid (W3.heap[w.heap.size]?=some (.cells #[.slice none 0 0,.slice none 0 0,.bool false] 53)):=hE;have HB3:Hid (Below w.heap.size w W3):=hB3;have HS3:Hid (W3.heap.size=w.heap.size+5):=hs3;have p4:=HP4.out W3 hB3;have HVG:Hid (w.heap.size<Vb/\Vb<w.heap.size+4):=⟨HS.out.g.1,HS.out.g.2.1⟩;have HALL:Hid (Calls prog 72 #[.pointer (some ⟨w.heap.size+4,0,none⟩),.slice ba bn bc] W3 (Yz w.heap.size W3.heap.size (w.heap.size+4) Vb Ob Tb nv W3 (p.run cs F))):=by
   have hgo:p.run cs F=Fl.go p.body ⟨cs++List.replicate k 0,[],F⟩:=(by rw[HKL.out];rfl);show Calls _ _ _ _ _;rw[hgo];refine all_any (nc:=p.chans.length) (F+1) W3 _ _ 4 _ p.body (Nat.lt_succ_self _) HM.out ?_ ?_
   ·exact Zt.kept (λb hb=>⟨by have:=HS3.out;omega,by omega,by have:=HVG.out;omega⟩) (λb hb=>HB3.out.block b hb) _ _ _ HB.out
   ·have h1:=HOK.out.body
    rw[<-HLEN.out,<-HKL.out,<-HN.out,<-HNV.out]at h1;exact h1
  obtain⟨q,hq⟩:∃q,q=p.run cs F:=⟨_,rfl⟩;rw[<-hq]at HALL;have HQ:Hid (q=p.run cs F):=hq;clear hrow hg3 hz3 hM hE hB3 hs3 hq m0 HW2 KV HB2 HS HP3 HP4
  go_wp2_with fail
  refine Calls.mono HALL.out ?_;rintro e W4 ⟨rfl,sv4,hM4⟩;obtain⟨sa,sn,sc,rfl⟩:∃sa sn sc,sv4=.slice sa sn sc:=by
   rcases hM4.os.2 with⟨h1,_⟩|⟨g,cp,cur,h1,_⟩
   ·exact⟨_,_,_,h1⟩
   ·exact⟨_,_,_,h1⟩
  have HM4:Hid (Zm w.heap.size W3.heap.size (w.heap.size+4) Vb Ob Tb nv W3 W4 q.2 (.slice sa sn sc)):=hM4;clear hM4 HALL p4
  go_wp2_with fail
  rw[HMS2.out];obtain⟨W5,hW5⟩:∃W5,W5=W4.alloc (.cells (Ut n) 58):=⟨_,rfl⟩;obtain⟨Lb,hLb⟩:∃Lb,Lb=W4.heap.size:=⟨_,rfl⟩;have HM5:Hid (Zm w.heap.size W3.heap.size (w.heap.size+4) Vb Ob Tb nv W3 W5 q.2 (.slice sa sn sc)):=HM4.out.below (by rw[hW5];exact(Below.refl _ _).alloc (Nat.le_refl _) _);have m05:W5.cell? ⟨w.heap.size+4,0,none⟩=some (.slice (some ⟨Vb,0,none⟩) nv nv):=HM5.out.cM.c 0 (by omega);have m15:W5.cell? ⟨w.heap.size+4,1,none⟩=some (.slice sa sn sc):=HM5.out.cM.c 1 (by omega);have KL:Hid (W5.heap[Lb]?=some (.cells (List.replicate n (Value.int .u32 0)).toArray 58 (0,0))):=by
   show _=_;rw[hW5,hLb];exact Vm _ _ _ rfl
  have HL5:Hid (W3.heap.size<=Lb/\Lb<W5.heap.size):=by
   refine⟨?_,?_⟩
   ·rw[hLb];exact HM4.out.hbz
   ·rw[hW5,hLb];simp
  have HTK:Hid ((q.2.vars.take n).length=n):=by
   show _=_;have h1:=HM5.out.hv;have h2:=HNV.out;rw[List.length_take];omega
  have HOS:Hid (∀b,(Value.slice sa sn sc).ownBlock=some b->W3.heap.size<=b/\b<Lb):=λb hb=>by rw[hLb];exact HM4.out.os.lt b hb
  rw[<-hW5,<-hLb];clear hW5 hLb HM4
  go_wp2_with (refine zt9 rfl (.tmp 39) (.tmp 43) 50 50 rfl 58 underlying50 Tryz.infoU32S _ _ _ _ _ _ rfl rfl Lb 0 (List.replicate n (Value.int .u32 0)) 58 KL.out (Xm (q.2.vars.take n)) ?d1 ?d2 ?d3 ?d4 ?_)
  case d1=>
   have h2:=HNV.out;have h3:Nat.min nv n=n:=Nat.min_eq_right (by omega);rw[h3,Xm,List.length_map];exact HTK.out
  case d2=>
   intro hpos
   try refine⟨rfl,?_⟩
   try refine⟨_,rfl,?_⟩
   intro j v hj;have hjl:j<(q.2.vars.take n).length:=by
    have:=(List.getElem?_eq_some_iff.1 hj).1;simpa [Xm] using this
   rw[zz6 _ j hjl]at hj;simp only[Option.some.injEq]at hj
   have h5:(⟨Vb,0,none⟩:Addr).add j=⟨Vb,j,none⟩:=by unfold Addr.add;split<;>simp_all
   try rw[h5]
   rw[<-hj];have hjn:j<n:=(by have:=HTK.out;omega);have h6:(q.2.vars.take n).getD j 0=q.2.vars.getD j 0:=by
    rw[List.getD_eq_getElem?_getD,List.getD_eq_getElem?_getD,List.getElem?_take,if_pos hjn]
   rw[h6];exact HM5.out.cV.c j (by have:=HNV.out;omega)
  case d3=>have h1:=HTK.out;simp only[Xm,List.length_map,List.length_replicate];omega
  case d4=>intro v hv;simp only[Xm,List.mem_map]at hv;obtain⟨x,-,rfl⟩:=hv;rfl
  intro W6 hrow6 hg6 hz6;have HR6:Hid (W6.heap[Lb]?=some (.cells (Xm (q.2.vars.take n)).toArray 58 (0,0))):=by
   show _=_;rw[hrow6.out,za2 _ _ HTK.out.symm]
  have q6:∀j,j<W5.heap.size->j≠Lb->W6.heap[j]?=W5.heap[j]?:=λj hj hne=>hg6.block j hj (by simpa using hne);have m16:W6.cell? ⟨w.heap.size+4,1,none⟩=some (.slice sa sn sc):=(World.cell?_of_block (a:=⟨w.heap.size+4,1,none⟩) (q6 (w.heap.size+4) (by have:=HL5.out;have:=HS3.out;omega) (by have:=HL5.out;have:=HS3.out;omega))).trans m15;have hE6:W6.heap[w.heap.size]?=some (.cells #[.slice none 0 0,.slice none 0 0,.bool false] 53 (0,0)):=by
   have h1:=HL5.out;have h2:=HS3.out;have h3:=HVG.out;exact(q6 _ (by omega) (by omega)).trans ((HM5.out.fx _ (by omega) (by omega) (by omega)).trans HE.out)
  have e0:W6.cell? ⟨w.heap.size,0,none⟩=some (.slice none 0 0):=cell_of_row _ _ 0 _ _ (0,0) hE6;have e1:W6.cell? ⟨w.heap.size,1,none⟩=some (.slice none 0 0):=cell_of_row _ _ 1 _ _ (0,0) hE6;have e2:W6.cell? ⟨w.heap.size,2,none⟩=some (.bool false):=cell_of_row _ _ 2 _ _ (0,0) hE6
  have ez:∀j,W6.frozen? ⟨w.heap.size,j,none⟩=false:=λj=>by simp[World.frozen?,hE6]
  have HB6:Hid (Below w.heap.size w W6):=by
   have h1:=HB3.out.trans HM5.out.bel;refine⟨hg6.os.trans h1.os,hg6.tape.trans h1.tape,hg6.output.trans h1.output,by have:=h1.size;omega,λj hj=>(q6 j (by have:=h1.size;omega) (by have:=HL5.out;have:=HS3.out;omega)).trans (h1.block j hj)⟩
  have HO6:Hid (W6.ownsRow W3.heap.size 60 2 (.slice sa sn sc) q.2.sent.length (Xn q.2.sent)):=Zh HM5.out.os (λb hb=>q6 b (by have:=HOS.out b hb;have:=HL5.out;omega) (by have:=HOS.out b hb;omega));clear hrow6 hg6 hz6 q6 hE6 m05 m15 KL
  go_wp2_with fail
  obtain⟨f0,f1,f2,fk,fs⟩:=Jr (.slice (some ⟨Lb,0,none⟩) n n) (.slice sa sn sc) (.bool q.1) e0 e1 e2;refine bodyPost_ret (v:=.agg #[.slice (some ⟨Lb,0,none⟩) n n,.slice sa sn sc,.bool q.1]) (by simp[results,results37,go_sem,f0,f1,f2]) rfl ?_;rw[<-HQ.out];have h1:=HL5.out;have h2:=HS3.out;refine⟨Lb,_,rfl,((HB6.out.setCell (Nat.le_refl _) _).setCell (Nat.le_refl _) _).setCell (Nat.le_refl _) _,by omega,(fk Lb (by omega)).trans HR6.out,HTK.out,HM5.out.vb,?_,λh=>?_,?_⟩
  ·exact zhz (Zh HO6.out (λb hb=>fk b (by have:=HOS.out b hb;omega))) (by omega)
  ·have:=HOS.out Lb h;omega
  ·have:=HM5.out.sl;omega
structure zy5(base:Nat)(w:World)(n:Nat)(q:Bool×Fl.MS)(Lb:Nat)(sv:Value):Prop where
 lb:base<=Lb
 row:w.heap[Lb]?=some (.cells (Xm (q.2.vars.take n)).toArray 58 (0,0))
 len:(q.2.vars.take n).length=n
 vb:∀x∈q.2.vars,x<4294967296
 os:w.ownsRow base 60 2 sv q.2.sent.length (Xn q.2.sent)
 ne:sv.ownBlock≠some Lb
 sl:q.2.sent.length<=2000
def zy5.lt{base:Nat}{w:World}{n:Nat}{q:Bool×Fl.MS}{Lb:Nat}{sv:Value}(h:zy5 base w n q Lb sv):Lb<w.heap.size:=by
 refine Classical.byContradiction λhn=>?_;have:=h.row
 rw[Array.getElem?_eq_none (by omega)]at this;cases this
def zy5.kept{base base':Nat}{w w':World}{n:Nat}{q:Bool×Fl.MS}{Lb:Nat}{sv:Value}(h:zy5 base w n q Lb sv)(hb:base'<=base)(hk:∀b,base<=b->b<w.heap.size->w'.heap[b]?=w.heap[b]?):zy5 base' w' n q Lb sv:=
 ⟨by have:=h.lb;omega,(hk _ h.lb h.lt).trans h.row,h.len,h.vb,zhz (Zh h.os (λb hb=>hk b (h.os.lt b hb).1 (h.os.lt b hb).2)) hb,h.ne,h.sl⟩
def zc6(q:Nat×Nat×Fl.Prog)(cs:List Nat)(F:Nat)(w:World)(e:Ending)(w':World):Prop:=
  Below w.heap.size w w'/\
  ((q.1≠0/\∃a,e=.returned (.tuple #[.agg #[.slice none 0 0,.slice none 0 0,.bool false],.iface 76 (.pointer (some ⟨a,0,none⟩))])/\w'.cell? ⟨a,0,none⟩=some (.int .i64 q.1)/\w'.cell? ⟨a,1,none⟩=some (.int .i64 q.2.1))\/
   (q.1=0/\cs.length≠q.2.2.cells.length/\e=.returned (.tuple #[.agg #[.slice none 0 0,.slice none 0 0,.bool false],.iface 27 (.int .i64 11)]))\/
   (q.1=0/\cs.length=q.2.2.cells.length/\∃Lb sa sn sc,e=.returned (.tuple #[.agg #[.slice (some ⟨Lb,0,none⟩) cs.length cs.length,.slice sa sn sc,.bool (q.2.2.run cs F).1],.nilIface])/\zy5 w.heap.size w' cs.length (q.2.2.run cs F) Lb (.slice sa sn sc)))
def zu1.below{w w':World}{v:Value}{l:List Nat}(h:zu1 w v l)(hb:Below w.heap.size w w'):zu1 w' v l:=by
 obtain⟨ao,cap,h1,h2,h3,h4,h5⟩:=h;refine⟨ao,cap,h1,h2,h3,h4,λhne=>?_⟩;obtain⟨b,off,e,hlt,hc⟩:=h5 hne;exact⟨b,off,e,Nat.lt_of_lt_of_le hlt hb.size,λi hi=>(hb.cell (p:=⟨b,off+i,none⟩) hlt).trans (hc i hi)⟩
def ys4{w:World}{l:List UInt8}{cv:Value}{cs:List Nat}(fuel:Int)(F:Nat)(hF:(F:Int)=min (max fuel 0) 2000)(hl:l.length<=100000)(hg:2<w.heap.size)(hm:Yx w)(hcs:zu1 w cv cs)(hcl:cs.length<=100000):
  Calls prog 28 #[.string ⟨l.toArray⟩,cv,.int .i64 fuel] w (zc6 (Fl.readProg l) cs F w):=by
 have HRD:Hid (∀W,Below w.heap.size w W->Calls prog 34 #[.string ⟨l.toArray⟩] W (zv6 (Fl.readProg l) W)):=λW hW=>zh1 hl (by have:=hW.size;omega) (by
  obtain⟨x,hx⟩:=hm
  exact⟨x,(hW.cell (p:=⟨2,0,none⟩) hg).trans hx⟩)
 have HRUN:Hid (∀W Pb p,Below w.heap.size w W->Ug (λb=>b<W.heap.size) W Pb p->p.Ok->cs.length=p.cells.length->Calls prog 37 #[.pointer (some ⟨Pb,0,none⟩),cv,.int .i64 fuel] W (zm0 cs.length (p.run cs F) W)):=λW Pb p hW hp ho hlen=>yqy fuel F hF hp ho (hcs.below hW) hlen;have HOK:Hid ((Fl.readProg l).1=0->(Fl.readProg l).2.2.Ok):=λh=>(Fl.readProg_ok l h).1;obtain⟨ao,cap,rfl,g1,g2,g3,g4⟩:=hcs;obtain⟨res,hres⟩:∃res,res=Fl.readProg l:=⟨_,rfl⟩;rw[<-hres]at HRD HOK⊢;obtain⟨n,hn⟩:∃n,n=cs.length:=⟨_,rfl⟩;have HN:Hid (n=cs.length):=hn;rw[<-hn]at HRUN;rw[<-hn]at hcl;rw[<-hn]
 have hnI:(n:Int)<=100000:=by omega
 clear hF hl hg hm g1 g2 g3 g4 hres hn
 go_enter func28,ntmps28
 go_wp2_with fail
 have hB1:Below w.heap.size w (w.alloc (.cells #[.slice none 0 0,.slice none 0 0,.bool false] 53)):=(Below.refl _ w).alloc (Nat.le_refl _) _;refine(HRD.out _ hB1).mono ?_;rintro e wz ⟨hB,hcase⟩;have c0:wz.cell? ⟨w.heap.size,0,none⟩=some (.slice none 0 0):=(hB.cell (p:=⟨w.heap.size,0,none⟩) (by simp)).trans (by simp);have c1:wz.cell? ⟨w.heap.size,1,none⟩=some (.slice none 0 0):=(hB.cell (p:=⟨w.heap.size,1,none⟩) (by simp)).trans (by simp);have c2:wz.cell? ⟨w.heap.size,2,none⟩=some (.bool false):=(hB.cell (p:=⟨w.heap.size,2,none⟩) (by simp)).trans (by simp);have fz:∀j,wz.frozen? ⟨w.heap.size,j,none⟩=false:=λj=>(hB.frozen (p:=⟨w.heap.size,j,none⟩) (by simp)).trans (by simp);have HB:Hid (Below w.heap.size w wz):=hB1.trans (hB.mono (by simp))
 have hsz:w.heap.size+1<=wz.heap.size:=by have:=hB.size;simpa using this
 clear hB hB1 HRD;rcases hcase with⟨h0,Pb,rfl,hp⟩|⟨h0,a,rfl,a0,a1⟩
 ·have HP:Hid (Ug (λb=>b<wz.heap.size) wz Pb res.2.2):=hp.kept (λb hb=>hb.2) (λ_ _=>rfl)
  have H0:Hid (res.1=0):=h0;obtain⟨p,hpp⟩:∃p,p=res.2.2:=⟨_,rfl⟩;have HO:Hid p.Ok:=(by rw[hpp];exact HOK.out h0);rw[<-hpp]at HP;have HPP:Hid (p=res.2.2):=hpp;clear hp h0 hpp;obtain⟨Lb0,clv,chv,bv,s1,s2,hP,hL,hC,hH,hBd⟩:=id HP.out;obtain⟨ca,cc,rfl,k1,k2,-⟩:=hC;have p1:wz.cell? ⟨Pb,1,none⟩=some (.slice ca p.cells.length cc):=hP.c 1 (by omega);have hce:p.cells.length<=6:=HO.out.ce;obtain⟨k,hk⟩:∃k,k=p.cells.length:=⟨_,rfl⟩;have HK:Hid (k=p.cells.length):=hk;rw[<-hk]at p1 hce;have hkI:(k:Int)<=6:=(by omega);clear hP hL hH hBd k1 k2 hk s1 s2
  by_cases hnk:n=k
  ·have b0:((n:Int)==(k:Int))=true:=by simp[hnk]
   have HCALL:Hid (Calls prog 37 #[.pointer (some ⟨Pb,0,none⟩),.slice ao n cap,.int .i64 fuel] wz (zm0 n (p.run cs F) wz)):=HRUN.out wz Pb p HB.out HP.out HO.out (by rw[hnk];exact HK.out);have HNK:Hid (n=k):=hnk;obtain⟨q,hq⟩:∃q,q=p.run cs F:=⟨_,rfl⟩;have HQ:Hid (q=p.run cs F):=hq;rw[<-hq]at HCALL;clear hnk HRUN hq
   go_wp2_with fail
   refine Calls.mono HCALL.out ?_;rintro e W2 ⟨Lb,sv,rfl,hB2,r1,r2,r3,r4,r5,r6,r7⟩;obtain⟨sa,sn,sc,rfl⟩:∃sa sn sc,sv=.slice sa sn sc:=by
    rcases r5.2 with⟨h1,_⟩|⟨g,cp,cur,h1,_⟩
    ·exact⟨_,_,_,h1⟩
    ·exact⟨_,_,_,h1⟩
   have HEA:Hid (zy5 wz.heap.size W2 n q Lb (.slice sa sn sc)):=⟨r1,r2,r3,r4,r5,r6,r7⟩;have d0:W2.cell? ⟨w.heap.size,0,none⟩=some (.slice none 0 0):=(hB2.cell (p:=⟨w.heap.size,0,none⟩) (by show w.heap.size<_;omega)).trans c0;have d1:W2.cell? ⟨w.heap.size,1,none⟩=some (.slice none 0 0):=(hB2.cell (p:=⟨w.heap.size,1,none⟩) (by show w.heap.size<_;omega)).trans c1;have d2:W2.cell? ⟨w.heap.size,2,none⟩=some (.bool false):=(hB2.cell (p:=⟨w.heap.size,2,none⟩) (by show w.heap.size<_;omega)).trans c2;have dz:∀j,W2.frozen? ⟨w.heap.size,j,none⟩=false:=λj=>(hB2.frozen (p:=⟨w.heap.size,j,none⟩) (by show w.heap.size<_;omega)).trans (fz j);have HB2:Hid (Below w.heap.size w W2):=HB.out.trans (hB2.mono (by omega));have HSZ:Hid (w.heap.size+1<=wz.heap.size):=hsz;clear hB2 r1 r2 r3 r4 r5 r6 r7 c0 c1 c2 fz p1 HCALL hsz
   go_wp2_with fail
   obtain⟨f0,f1,f2,fk,fs⟩:=Jr (.slice (some ⟨Lb,0,none⟩) n n) (.slice sa sn sc) (.bool q.1) d0 d1 d2;refine bodyPost_ret (v:=.tuple #[.agg #[.slice (some ⟨Lb,0,none⟩) n n,.slice sa sn sc,.bool q.1],.nilIface]) (by simp[results,results28,go_sem,f0,f1,f2]) rfl ?_;refine⟨((HB2.out.setCell (Nat.le_refl _) _).setCell (Nat.le_refl _) _).setCell (Nat.le_refl _) _,.inr (.inr ⟨H0.out,?_,Lb,sa,sn,sc,?_,?_⟩)⟩
   ·rw[<-HN.out,HNK.out,HK.out,HPP.out]
   ·rw[<-HPP.out,<-HQ.out,<-HN.out]
   ·rw[<-HPP.out,<-HQ.out,<-HN.out]
    exact HEA.out.kept (by have:=HSZ.out;omega) (λb hb hb2=>fk b (by have:=HSZ.out;omega))
  ·have b0:((n:Int)==(k:Int))=false:=by simp;omega
   have HNK:Hid (n≠k):=hnk;clear hnk HRUN
   go_wp2_with fail
   obtain⟨f0,f1,f2,fk,fs⟩:=Jr (.slice none 0 0) (.slice none 0 0) (.bool false) c0 c1 c2;refine bodyPost_ret (v:=.tuple #[.agg #[.slice none 0 0,.slice none 0 0,.bool false],.iface 27 (.int .i64 11)]) (by simp[results,results28,go_sem,f0,f1,f2]) rfl ?_;refine⟨((HB.out.setCell (Nat.le_refl _) _).setCell (Nat.le_refl _) _).setCell (Nat.le_refl _) _,.inr (.inl ⟨H0.out,?_,rfl⟩)⟩;rw[<-HN.out,<-HPP.out,<-HK.out];exact HNK.out
 ·have H0:Hid (res.1≠0):=h0
  have hqn:a≠w.heap.size:=by intro h;rw[h,c0]at a0;cases a0
  clear h0 HRUN
  go_wp2_with fail
  obtain⟨f0,f1,f2,fk,fs⟩:=Jr (.slice none 0 0) (.slice none 0 0) (.bool false) c0 c1 c2;refine bodyPost_ret (v:=.tuple #[.agg #[.slice none 0 0,.slice none 0 0,.bool false],.iface 76 (.pointer (some ⟨a,0,none⟩))]) (by simp[results,results28,go_sem,f0,f1,f2]) rfl ?_;exact⟨((HB.out.setCell (Nat.le_refl _) _).setCell (Nat.le_refl _) _).setCell (Nat.le_refl _) _,.inl ⟨H0.out,a,rfl,(World.cell?_of_block (a:=⟨a,0,none⟩) (fk a hqn)).trans a0,(World.cell?_of_block (a:=⟨a,1,none⟩) (fk a hqn)).trans a1⟩⟩
def zc7(q:Nat×Nat×Fl.Prog)(cs:List Nat)(F:Nat)(w:World)(e:Ending)(w':World):Prop:=
  Below w.heap.size w w'/\
  ((q.1≠0/\e=.returned (.tuple #[.agg #[.slice none 0 0,.slice none 0 0,.bool false],.int .i64 q.1,.int .i64 q.2.1]))\/
   (q.1=0/\cs.length≠q.2.2.cells.length/\e=.returned (.tuple #[.agg #[.slice none 0 0,.slice none 0 0,.bool false],.int .i64 11,.int .i64 (-1)]))\/
   (q.1=0/\cs.length=q.2.2.cells.length/\∃Lb sa sn sc,e=.returned (.tuple #[.agg #[.slice (some ⟨Lb,0,none⟩) cs.length cs.length,.slice sa sn sc,.bool (q.2.2.run cs F).1],.int .i64 0,.int .i64 (-1)])/\zy5 w.heap.size w' cs.length (q.2.2.run cs F) Lb (.slice sa sn sc)))
def zhy{w:World}{l:List UInt8}{cv:Value}{cs:List Nat}(fuel:Int)(F:Nat)(hF:(F:Int)=min (max fuel 0) 2000)(hE:Vs w)(hl:l.length<=100000)(hg:2<w.heap.size)(hm:Yx w)(hcs:zu1 w cv cs)(hcl:cs.length<=100000):
  Calls prog 20 #[.string ⟨l.toArray⟩,cv,.int .i64 fuel] w (zc7 (Fl.readProg l) cs F w):=by
 have HC:Hid (∀W,Below w.heap.size w W->Calls prog 28 #[.string ⟨l.toArray⟩,cv,.int .i64 fuel] W (zc6 (Fl.readProg l) cs F W)):=λW hW=>ys4 fuel F hF hl (by have:=hW.size;omega) (by
  obtain⟨x,hx⟩:=hm
  exact⟨x,(hW.cell (p:=⟨2,0,none⟩) hg).trans hx⟩) (hcs.below hW) hcl
 have hEB:∀o,Below w.heap.size w o->Vs o:=λo ho=>(ho.cell (p:=⟨0,0,none⟩) (World.block_lt_of_cell? w _ hE)).trans hE;have HEB:Hid (∀o,Below w.heap.size w o->Vs o):=hEB;obtain⟨ao,cap,rfl,g1,g2,g3,g4⟩:=hcs;obtain⟨res,hres⟩:∃res,res=Fl.readProg l:=⟨_,rfl⟩;rw[<-hres]at HC⊢;obtain⟨n,hn⟩:∃n,n=cs.length:=⟨_,rfl⟩;have HN:Hid (n=cs.length):=hn;rw[<-hn]at HC;rw[<-hn];clear hF hl hg hm g1 g2 g3 g4 hres hn hE hEB hcl
 go_enter func20,ntmps20
 go_wp2_with fail
 have hB1:Below w.heap.size w (w.alloc (.cells #[.slice none 0 0,.slice none 0 0,.bool false] 53)):=(Below.refl _ w).alloc (Nat.le_refl _) _;refine(HC.out _ hB1).mono ?_;rintro e wz ⟨hB,hcase⟩;have c0:wz.cell? ⟨w.heap.size,0,none⟩=some (.slice none 0 0):=(hB.cell (p:=⟨w.heap.size,0,none⟩) (by simp)).trans (by simp);have c1:wz.cell? ⟨w.heap.size,1,none⟩=some (.slice none 0 0):=(hB.cell (p:=⟨w.heap.size,1,none⟩) (by simp)).trans (by simp);have c2:wz.cell? ⟨w.heap.size,2,none⟩=some (.bool false):=(hB.cell (p:=⟨w.heap.size,2,none⟩) (by simp)).trans (by simp);have fz:∀j,wz.frozen? ⟨w.heap.size,j,none⟩=false:=λj=>(hB.frozen (p:=⟨w.heap.size,j,none⟩) (by simp)).trans (by simp);have HB:Hid (Below w.heap.size w wz):=hB1.trans (hB.mono (by simp))
 have hsz:w.heap.size+1<=wz.heap.size:=by have:=hB.size;simpa using this
 clear hB hB1 HC
 have hnew:∀(o:Obj) (w2:World),Below (wz.alloc o).heap.size (wz.alloc o) w2->(w2.cell? ⟨w.heap.size,0,none⟩=some (.slice none 0 0)/\w2.cell? ⟨w.heap.size,1,none⟩=some (.slice none 0 0)/\w2.cell? ⟨w.heap.size,2,none⟩=some (.bool false)/\(∀j,w2.frozen? ⟨w.heap.size,j,none⟩=false))/\Below w.heap.size w w2/\(∀b,b<wz.heap.size->w2.heap[b]?=wz.heap[b]?)/\w2.heap[wz.heap.size]?=some o/\wz.heap.size+1<=w2.heap.size:=λo w2 hB2=>by
  have q:∀b,b<wz.heap.size->w2.heap[b]?=wz.heap[b]?:=λb hb=>(hB2.block b (by simp;omega)).trans (Yn _ _ _ hb);have r:w2.heap[w.heap.size]?=wz.heap[w.heap.size]?:=q _ (by omega);exact⟨⟨(World.cell?_of_block (a:=⟨w.heap.size,0,none⟩) r).trans c0,(World.cell?_of_block (a:=⟨w.heap.size,1,none⟩) r).trans c1,(World.cell?_of_block (a:=⟨w.heap.size,2,none⟩) r).trans c2,λj=>(World.frozen?_of_block (a:=⟨w.heap.size,j,none⟩) r).trans (fz j)⟩,(HB.out.alloc (by omega) _).trans (hB2.mono (by simp;omega)),q,(hB2.block _ (by simp)).trans (Vm _ _ _ rfl),by have:=hB2.size;simpa using this⟩
 have HNEW:Hid (∀(o:Obj) (w2:World),Below (wz.alloc o).heap.size (wz.alloc o) w2->(w2.cell? ⟨w.heap.size,0,none⟩=some (.slice none 0 0)/\w2.cell? ⟨w.heap.size,1,none⟩=some (.slice none 0 0)/\w2.cell? ⟨w.heap.size,2,none⟩=some (.bool false)/\(∀j,w2.frozen? ⟨w.heap.size,j,none⟩=false))/\Below w.heap.size w w2/\(∀b,b<wz.heap.size->w2.heap[b]?=wz.heap[b]?)/\w2.heap[wz.heap.size]?=some o/\wz.heap.size+1<=w2.heap.size):=hnew;clear hnew c0 c1 c2 fz;rcases hcase with⟨h0,a,rfl,a0,a1⟩|⟨h0,h1,rfl⟩|⟨h0,h1,Lb,sa,sn,sc,rfl,hEA⟩
 ·have H0:Hid (res.1≠0):=h0
  have A0:Hid (wz.cell? ⟨a,0,none⟩=some (.int .i64 (res.1:Int))):=a0;have A1:Hid (wz.cell? ⟨a,1,none⟩=some (.int .i64 (res.2.1:Int))):=a1;clear h0 a0 a1
  go_wp2_with fail
  refine(zj3 a 0 (res.1:Int) (res.2.1:Int) _ (HEB.out _ (HB.out.alloc (by omega) _)) ((World.cell?_alloc_lt _ _ _ (World.block_lt_of_cell? wz _ A0.out)).trans A0.out) ((World.cell?_alloc_lt _ _ _ (World.block_lt_of_cell? wz _ A1.out)).trans A1.out)).mono ?_;rintro e w2 ⟨rfl,hB2⟩;obtain⟨⟨d0,d1,d2,dz⟩,hb2,hq2,hr2,hz2⟩:=HNEW.out _ _ hB2;have p0:w2.cell? ⟨wz.heap.size,0,none⟩=some (.slice none 0 0):=cell_of_row _ _ 0 _ _ (0,0) hr2;have p1:w2.cell? ⟨wz.heap.size,1,none⟩=some (.slice none 0 0):=cell_of_row _ _ 1 _ _ (0,0) hr2;have p2:w2.cell? ⟨wz.heap.size,2,none⟩=some (.bool false):=cell_of_row _ _ 2 _ _ (0,0) hr2;have HB2:Hid (Below w.heap.size w w2):=hb2;clear hB2 hb2 hq2 hr2 HNEW
  go_wp2_with fail
  obtain⟨f0,f1,f2,fk,fs⟩:=Jr (.slice none 0 0) (.slice none 0 0) (.bool false) d0 d1 d2;refine bodyPost_ret (v:=.tuple #[.agg #[.slice none 0 0,.slice none 0 0,.bool false],.int .i64 (res.1:Int),.int .i64 (res.2.1:Int)]) (by simp[results,results20,go_sem,f0,f1,f2]) rfl ?_;exact⟨((HB2.out.setCell (Nat.le_refl _) _).setCell (Nat.le_refl _) _).setCell (Nat.le_refl _) _,.inl ⟨H0.out,rfl⟩⟩
 ·have H0:Hid (res.1=0):=h0
  have H1:Hid (cs.length≠res.2.2.cells.length):=h1;clear h0 h1
  go_wp2_with fail
  refine(zk1 11 _ (HEB.out _ (HB.out.alloc (by omega) _))).mono ?_;rintro e w2 ⟨rfl,hB2⟩;obtain⟨⟨d0,d1,d2,dz⟩,hb2,hq2,hr2,hz2⟩:=HNEW.out _ _ hB2;have p0:w2.cell? ⟨wz.heap.size,0,none⟩=some (.slice none 0 0):=cell_of_row _ _ 0 _ _ (0,0) hr2;have p1:w2.cell? ⟨wz.heap.size,1,none⟩=some (.slice none 0 0):=cell_of_row _ _ 1 _ _ (0,0) hr2;have p2:w2.cell? ⟨wz.heap.size,2,none⟩=some (.bool false):=cell_of_row _ _ 2 _ _ (0,0) hr2;have HB2:Hid (Below w.heap.size w w2):=hb2;clear hB2 hb2 hq2 hr2 HNEW
  go_wp2_with fail
  obtain⟨f0,f1,f2,fk,fs⟩:=Jr (.slice none 0 0) (.slice none 0 0) (.bool false) d0 d1 d2;refine bodyPost_ret (v:=.tuple #[.agg #[.slice none 0 0,.slice none 0 0,.bool false],.int .i64 11,.int .i64 (-1)]) (by simp[results,results20,go_sem,f0,f1,f2]) rfl ?_;exact⟨((HB2.out.setCell (Nat.le_refl _) _).setCell (Nat.le_refl _) _).setCell (Nat.le_refl _) _,.inr (.inl ⟨H0.out,H1.out,rfl⟩)⟩
 ·have H0:Hid (res.1=0):=h0
  have H1:Hid (cs.length=res.2.2.cells.length):=h1;obtain⟨q,hq⟩:∃q,q=res.2.2.run cs F:=⟨_,rfl⟩;have HQ:Hid (q=res.2.2.run cs F):=hq;rw[<-hq]at hEA⊢;have HEA:Hid (zy5 (w.heap.size+1) wz cs.length q Lb (.slice sa sn sc)):=by
   show zy5 _ _ _ _ _ _;have:=hEA;simpa using this
  clear h0 h1 hq hEA
  go_wp2_with fail
  refine(zn8 _).mono ?_;rintro e w2 ⟨rfl,hB2⟩;obtain⟨⟨d0,d1,d2,dz⟩,hb2,hq2,hr2,hz2⟩:=HNEW.out _ _ hB2;have p0:w2.cell? ⟨wz.heap.size,0,none⟩=some (.slice (some ⟨Lb,0,none⟩) cs.length cs.length):=cell_of_row _ _ 0 _ _ (0,0) hr2;have p1:w2.cell? ⟨wz.heap.size,1,none⟩=some (.slice sa sn sc):=cell_of_row _ _ 1 _ _ (0,0) hr2;have p2:w2.cell? ⟨wz.heap.size,2,none⟩=some (.bool q.1):=cell_of_row _ _ 2 _ _ (0,0) hr2;have HB2:Hid (Below w.heap.size w w2):=hb2;have HE2:Hid (zy5 (w.heap.size+1) w2 cs.length q Lb (.slice sa sn sc)):=HEA.out.kept (Nat.le_refl _) (λb _ hb=>hq2 b hb);clear hB2 hb2 hq2 hr2 HNEW HEA
  go_wp2_with fail
  obtain⟨f0,f1,f2,fk,fs⟩:=Jr (.slice (some ⟨Lb,0,none⟩) cs.length cs.length) (.slice sa sn sc) (.bool q.1) d0 d1 d2;refine bodyPost_ret (v:=.tuple #[.agg #[.slice (some ⟨Lb,0,none⟩) cs.length cs.length,.slice sa sn sc,.bool q.1],.int .i64 0,.int .i64 (-1)]) (by simp[results,results20,go_sem,f0,f1,f2]) rfl ?_;refine⟨((HB2.out.setCell (Nat.le_refl _) _).setCell (Nat.le_refl _) _).setCell (Nat.le_refl _) _,.inr (.inr ⟨H0.out,H1.out,Lb,sa,sn,sc,?_,?_⟩)⟩
  ·rw[<-HQ.out]
  ·rw[<-HQ.out]
   exact HE2.out.kept (by omega) (λb hb _=>fk b (by omega))
end Go.Proofs.YtminjljgedopkaaGreatDoor
