import Derived.Test.YtjekbnmnjeoagaaGreatDoorM18
import Derived.Lib.SlBytesConst
set_option linter.all false
set_option maxRecDepth 100000
set_option maxHeartbeats 40000000
namespace Go.Proofs.YtjekbnmnjeoagaaGreatDoor
open Go.RowKit Go.Proofs.Tryz
variable{w w1 w2 w':World}{v v1 lv:Value}{base n tb nb no k p lev:Nat}{xs:List Value}{s r:List UInt8}{ls:List Int}{ns:List Fl.Node}
def Xz(w:World)(v:Value)(w':World)(v':Value):Prop:=w.grownBy w' v.ownBlock/\(v'.ownBlock=v.ownBlock\/∃b,v'.ownBlock=some b/\w.heap.size<=b)
def Xz.refl(w:World)(v:Value):Xz w v w v:=⟨⟨rfl,rfl,rfl,Nat.le_refl _,λ_ _ _=>rfl⟩,.inl rfl⟩
def Xz.trans{w w1 w2:World}{v v1 v2:Value}(h:Xz w v w1 v1)(k:Xz w1 v1 w2 v2):Xz w v w2 v2:=by
 refine⟨⟨k.1.os.trans h.1.os,k.1.tape.trans h.1.tape,k.1.output.trans h.1.output,Nat.le_trans h.1.size k.1.size,λg hg b0=>?_⟩,?_⟩
 ·refine(k.1.block g (Qj hg h.1.size) (λhh=>?_)).trans (h.1.block g hg b0)
  rcases h.2 with h2|⟨b,hb,a0⟩
  ·rw[h2]at hh;exact b0 hh
  rw[hb]at hh;simp only[Option.some.injEq]at hh;omega
 rcases k.2 with k2|⟨b,hb,a0⟩
 ·rcases h.2 with h2|⟨b,hb,a0⟩
  ·exact .inl (k2.trans h2)
  exact .inr ⟨b,k2.trans hb,a0⟩
 exact .inr ⟨b,hb,Nat.le_trans h.1.size a0⟩
def Xz.below(h:Xz w v w1 v1)(hb:Bq w1 w2):Xz w v w2 v1:=
 h.trans ⟨⟨hb.os,hb.tape,hb.output,hb.size,λk hk _=>hb.block k hk⟩,.inl rfl⟩
def Xz.alloc{w w1:World}{v v1:Value}(h:Xz w v w1 v1)(o:Obj):Xz w v (w1.alloc o) v1:=h.below (bA)
def Xz.append{v2:Value}(h:Xz w v w1 v1)(hg:w1.grownBy w2 v1.ownBlock)(hw:v2.ownBlock=v1.ownBlock\/v2.ownBlock=some w1.heap.size):Xz w v w2 v2:=
 h.trans ⟨hg,hw.imp id (λhh=>⟨_,hh,Nat.le_refl _⟩)⟩
def Xz.cell{w w':World}{v v':Value}(h:Xz w v w' v'){b o:Nat}(a0:b<w.heap.size)(b0:some b≠v.ownBlock):w'.cell? (Aq b o)=w.cell? (Aq b o):=Qc (w:=w) (h.1.block b a0 b0)
def Ui(w:World)(base:Nat)(v:Value)(n:Nat)(xs:List Value):Prop:=
 w.ownsRow base 5 1 v n xs\/∃g,base<=g/\g<w.heap.size/\v=.slice (some (Aq g 0)) n n/\xs.length=n/\∀j u,xs[j]?=some u->w.cell? (((Aq g 0):Addr).add j)=some u
def Ui.lt{w:World}{base:Nat}{v:Value}{n:Nat}{xs:List Value}(h:Ui w base v n xs):∀k,v.ownBlock=some k->base<=k/\k<w.heap.size:=by
 rcases h with h|⟨g,h1,h2,rfl,_⟩
 ·exact h.lt
 intro k hk;simp only[Value.ownBlock,Option.some.injEq]at hk;subst hk;exact⟨h1,h2⟩
def Ui.below(h:Ui w base v n xs)(hb:Bq w w'):Ui w' base v n xs:=by
 rcases h with h|⟨g,h1,h2,h3,h4,h5⟩
 ·exact .inl (h.kept (row:=none) ⟨hb.os,hb.tape,hb.output,hb.size,λk hk _=>hb.block k hk⟩ (by cases v.ownBlock<;>simp))
 refine .inr ⟨g,h1,Qj h2 hb.size,h3,h4,λj u hj=>?_⟩;have:=h5 j u hj
 have h6:(((Aq g 0):Addr).add j).block=g:=by unfold Addr.add;split<;>rfl
 rw[hb.cell (by rw[h6];exact h2)];exact this
def Ui.alloc{w:World}{base:Nat}{v:Value}{n:Nat}{xs:List Value}(h:Ui w base v n xs)(o:Obj):Ui (w.alloc o) base v n xs:=h.below (bA)
section
variable{P:Program}(w:World)
def za4(base:Nat)(t ty:TypeId)(i:TypeInfo)(z:Value)(ht:P.underlying t=some (.slice 5))(hi:P.info? 5=some i)(hz:i.zero=some z)
  (a0:i.size=1) (j0:i.bytes=1) (k0:z.cells.size=1)
  (v:Value) (n:Nat) (xs:List Value) (e0:Ui w base v n xs)
  (a:Addr) (m c:Nat) (news:List Value) (hl:news.length=m*1) (c0:∀j u,news[j]?=some u->w.cell? (a.add j)=some u) (h1:∀u∈news,u.oneCell'=true)
  (g0:n+m<=maxLen) (b0:(n+m)*1<=140737488355328) (d0:base<=w.heap.size) (hm:0<m):
  ∃v' w',(Builtin.append_ #[t,t] ty #[v,.slice (some a) m c]).run P w=.ok v' w'/\w'.ownsRow base 5 1 v' (n+m) (xs++news)/\w.grownBy w' v.ownBlock/\(v'.ownBlock=v.ownBlock\/v'.ownBlock=some w.heap.size):=by
 rcases e0 with e0|⟨g,m0,n0,rfl,h0,f0⟩
 ·exact zpx (P:=P) w base t ty 5 i z 1 1 ht hi hz a0 j0 k0 (by decide) v n xs e0 a m c news hl c0 h1 g0 b0 d0 hm
 have h63':((n+m:Nat):Int)<=9223372036854775807:=by unfold maxLen at g0;omega
 have hr:=run_append_grow (P:=P) w t ty 5 i z ht hi hz (Aq g 0) n n xs (by rw[a0,h0];omega) f0 a m c news (by rw[a0];exact hl) c0 (by omega) h63' (growslice_fits (by omega) (by rw[j0];exact b0));have l0:=grownCap_ge w (n+m) n 5;have i0:grownCap w (n+m) n 5<=maxLen:=grownCap_le_maxLen w (n+m) n 5 g0
 have hlen:(xs++news).length=(n+m)*1:=by rw[List.length_append,h0,hl];omega
 refine⟨_,_,hr,⟨hlen,.inr ⟨w.heap.size,_,_,rfl,d0,heap_alloc_new w.drew _,l0,i0,?_,?_⟩⟩,⟨rfl,rfl,rfl,by simp,λk hk _=>heap_alloc_old w.drew _ (by exact hk)⟩,.inr rfl⟩
 ·simp only[Array.size_append,List.size_toArray,size_zeroCells,k0,h0,hl];omega
 simp only[Array.toList_append,List.append_assoc];rw[<-List.append_assoc,<-hlen];exact List.take_left
def zz3{ops:Array Oper}{rest:List Oper}{o:Oper}{a:Act}{Q:Exit->Act->World->Prop}(f0:o.guard=none)(s x:Operand)(t:TypeId)
  (ho:o.op=.call {callee:=.builtin .append,args:=#[s,x],argTypes:=#[t,t]})
  (base:Nat) (i:TypeInfo) (z:Value) (ht:P.underlying t=some (.slice 5)) (hi:P.info? 5=some i) (hz:i.zero=some z)
  (b0:i.size=1) (g0:i.bytes=1) (h0:z.cells.size=1)
  (v:Value) (n:Nat) (xs:List Value) (hs:a.eval s=v) (e0:Ui w base v n xs)
  (ad:Addr) (m c:Nat) (news:List Value) (hx:a.eval x=.slice (some ad) m c) (hl:news.length=m*1) (hm:0<m) (c0:∀j u,news[j]?=some u->w.cell? (ad.add j)=some u) (h1:∀u∈news,u.oneCell'=true)
  (i0:n+m<=maxLen) (a0:(n+m)*1<=140737488355328) (d0:base<=w.heap.size)
  (h:∀v' w',w'.ownsRow base 5 1 v' (n+m) (xs++news)->w.grownBy w' v.ownBlock->(v'.ownBlock=v.ownBlock\/v'.ownBlock=some w.heap.size)->wpList P ops Q rest (a.put o.dst v') w'):wpList P ops Q (o::rest) a w:=
 wpList_plain f0 λ_ hK=>by
  obtain⟨v',w',hr,h2,h3,h4⟩:=za4 (P:=P) w base t o.type i z ht hi hz b0 g0 h0 v n xs e0 ad m c news hl c0 h1 i0 a0 d0 hm;have j0:=hK _ _ (h v' w' h2 h3 h4);unfold Oper.wp execOp;simp only[ho,resolve,invoke,builtin,Sem.run_bind,Sem.run_pure,Result.andThen_ok,List.map_toArray,List.map_cons,List.map_nil,hs,hx,hr];exact j0
end
def Tryz.infoByte:(Tryz.prog.info? 5).map (λi=>(i.zero,i.size,i.bytes))=some (some (.int .u8 0),1,1):=by kernel_rfl
def Xx(u:UInt8):Value:=.int .u8 (u.toNat:Int)
def or128:∀x,x<256->x|||128=x % 128+128:=by decide
def ys6(x:Nat)(hx:x<256):bits .or .u8 (x:Int) 128=((x % 128+128:Nat):Int):=by
 have:=u8_or_nat x 128 hx (by omega);rw[or128 x hx]at this;simpa using this
def Jn(n:Nat)(hn:n<2147483648)(base:Nat)(bs:List UInt8)(v:Value)(w:World)(c0:Ui w base v bs.length (bs.map Xx))(hlen:bs.length<=1000000)(o0:base<=w.heap.size):
  Cq 147 #[v,Iq n] w λe w'=>∃v',e=.returned v'/\w'.ownsRow base 5 1 v' (bs++Fl.coded n).length ((bs++Fl.coded n).map Xx)/\Below base w w'/\Xz w v w' v':=by
 obtain⟨i0,hi,p0,q0,r0⟩:=info_parts Tryz.infoByte;have y0:=Zz c0;clear c0
 go_enter func147,ntmps147
 go_wp2_with fail
 go_loopw [0,1] (λvv i wr=>∃(f k:Nat) (xs:List UInt8),f<=9/\k<128 ^ f/\k<2147483648/\i=Iq k/\bs++Fl.coded n=xs++Fl.codedF f k/\xs.length+f<=bs.length+9/\Ui wr base vv xs.length (xs.map Xx)/\Below base w wr/\Xz w v wr vv) (λ_ i _=>(intOf i).toNat)
 case atStart=>exact⟨9,n,bs,by omega,by omega,hn,rfl,rfl,by omega,y0.out,Below.refl _ _,Xz.refl _ _⟩
 case round=>
  obtain⟨f,k,xs,hf,s0,hk,rfl,d0,A0,c0,e0,f0⟩:=hrel;have t0:=Zz f0;have u0:=Zz d0;have HB:=Zz e0;have v0:=Zz s0;have HO:=Zz c0;clear d0 e0 s0 c0 f0
  by_cases B0:128<=k
  ·have hge':(128:Int)<=(k:Int):=by omega
   have x0:=ys6 (k % 256) (by omega)
   go_wp2_with (at_builtin;refine zz3 _ rfl _ _ 44 rfl base i0 (.int .u8 0) underlying44 hi p0 q0 r0 rfl _ _ _ rfl (HO.out.alloc _) (Aq _ 0) 1 1 [.int .u8 (bits .or .u8 ((k:Int) % 256) 128)] rfl rfl (by decide) zt4 ?c2 ?c3 ?c4 ?c5 ?_)
   case c2=>intro u hu;simp at hu;subst hu;rfl
   case c3=>unfold maxLen;omega
   case c4=>omega
   case c5=>have:=HB.out.size;simp;omega
   intro v' w2 hown' a0 b0;have k0:Hid (Xz w v w2 v'):=(t0.out.alloc _).append a0 (by simp only[World.size_alloc]at b0⊢;exact b0)
   have g0:Below base w w2:=HB.out.trans ⟨a0.os,a0.tape,a0.output,Nat.le_trans (by simp) a0.size,λg hg=>by
    have hsz:=HB.out.size;refine(a0.block g (by simp;omega) (λhh=>?_)).trans (Below.heap_alloc _ _ _ (by omega))
    have:=(HO.out.lt g hh.symm).1;omega⟩
   have l0:=Zz g0
   obtain⟨f',rfl⟩:∃f',f=f'+1:=⟨f - 1,by
    cases f with
    |zero=>have:=v0.out;simp at this;omega
    |succ g=>omega⟩
   have h0:(.int .u8 (bits .or .u8 ((k:Int) % 256) 128):Value)=Xx (UInt8.ofNat (k % 128+128)):=by
    have h1:((k:Int) % 256)=((k % 256:Nat):Int):=(by omega);rw[h1,x0];have h2:(UInt8.ofNat (k % 128+128)).toNat=k % 128+128:=(by simp;omega);unfold Xx;rw[h2]
    congr 1;omega
   have j0:w2.ownsRow base 5 1 v' (xs++[UInt8.ofNat (k % 128+128)]).length ((xs++[UInt8.ofNat (k % 128+128)]).map Xx):=(by rw[h0]at hown';simpa using hown');have m0:=Zz j0;have n0:Hid (bs++Fl.coded n=(xs++[UInt8.ofNat (k % 128+128)])++Fl.codedF f' (k / 128)):=by
    show bs++Fl.coded n=_;rw[u0.out];simp[Fl.codedF,show ¬k<128 by omega]
   have z0:Hid (k / 128<128 ^ f'):=by
    have:=v0.out;rw[Nat.pow_succ]at this;exact Nat.div_lt_of_lt_mul (by rw[Nat.mul_comm];exact this)
   clear hown' a0 b0 g0 h0 j0 x0;go_wp2;exact⟨⟨f',k / 128,xs++[UInt8.ofNat (k % 128+128)],by omega,z0.out,by omega,by go_num,n0.out,by simp;omega,.inl m0.out,l0.out,k0.out⟩,by simp[intOf];omega⟩
  have hge':(k:Int)<128:=(by omega);have hc:Fl.codedF f k=[UInt8.ofNat k]:=by
   cases f with
   |zero=>rfl
   |succ g=>simp[Fl.codedF,show k<128 by omega]
  have HC:=Zz hc;clear hc
  go_wp2_with (at_builtin;refine zz3 _ rfl _ _ 44 rfl base i0 (.int .u8 0) underlying44 hi p0 q0 r0 rfl _ _ _ rfl (HO.out.alloc _) (Aq _ 0) 1 1 [.int .u8 (k:Int)] rfl rfl (by decide) zt4 ?d2 ?d3 ?d4 ?d5 ?_)
  case d2=>intro u hu;simp at hu;subst hu;rfl
  case d3=>unfold maxLen;omega
  case d4=>omega
  case d5=>have:=HB.out.size;simp;omega
  intro v' w2 hown' a0 b0;have k0:Hid (Xz w v w2 v'):=(t0.out.alloc _).append a0 (by simp only[World.size_alloc]at b0⊢;exact b0)
  have g0:Below base w w2:=HB.out.trans ⟨a0.os,a0.tape,a0.output,Nat.le_trans (by simp) a0.size,λg hg=>by
   have hsz:=HB.out.size;refine(a0.block g (by simp;omega) (λhh=>?_)).trans (Below.heap_alloc _ _ _ (by omega))
   have:=(HO.out.lt g hh.symm).1;omega⟩
  have l0:=Zz g0;have h0:(.int .u8 (k:Int):Value)=Xx (UInt8.ofNat k):=by
   have h2:(UInt8.ofNat k).toNat=k:=(by simp;omega);unfold Xx;rw[h2]
  have j0:w2.ownsRow base 5 1 v' (bs++Fl.coded n).length ((bs++Fl.coded n).map Xx):=by
   rw[h0]at hown';rw[u0.out,HC.out];simpa using hown'
  have m0:=Zz j0;clear hown' a0 b0 g0 h0 j0;go_wp2;go_ret;exact⟨v',rfl,m0.out,l0.out,k0.out⟩
def zr5(l:List Int)(hl:l.all Fl.inR=true)(G0:l.length<=200)(B base:Nat)(y0:B<=base)(lv:Value)(bs:List UInt8)(v:Value)(w:World)(hi:Zw B w lv l)(a0:Ui w base v bs.length (bs.map Xx))(hlen:bs.length<=900000)(b0:base<=w.heap.size):
  Cq 146 #[v,lv] w λe w'=>∃v',e=.returned v'/\w'.ownsRow base 5 1 v' (bs++(Fl.coded l.length++Fl.codedAll l)).length ((bs++(Fl.coded l.length++Fl.codedAll l)).map Xx)/\Below base w w'/\Xz w v w' v':=by
 have HA:Hid (∀(k:Nat) (ys:List UInt8) (u:Value) (W:World),k<2147483648->Ui W base u ys.length (ys.map Xx)->ys.length<=1000000->base<=W.heap.size->Cq 147 #[u,Iq k] W λe w'=>∃v',e=.returned v'/\w'.ownsRow base 5 1 v' (ys++Fl.coded k).length ((ys++Fl.coded k).map Xx)/\Below base W w'/\Xz W u w' v'):=λk ys u W h1 h2 h3 h4=>Jn k h1 base ys u W h2 h3 h4;obtain⟨ao,cap,rfl,_,hm,_⟩:=id hi;have HI:=Zz hi;have HL:=Zz hl;have HO:=Zz a0;clear hi hl a0 hm
 go_enter func146,ntmps146
 go_wp2_with (go_at_call 147;refine(HA.out l.length bs v w (by omega) HO.out (by omega) b0).mono ?_;rintro e w1 ⟨v1,rfl,i0,j0,k0⟩)
 have l0:=Zz i0;have m0:=Zz j0;have n0:=Zz k0;clear i0 j0 k0
 go_wp2_with fail
 go_loopw [0,13] (λvv i wr=>∃(j:Nat) (xs:List UInt8),j<=l.length/\i=Iq j/\xs=bs++(Fl.coded l.length++Fl.codedAll (l.take j))/\wr.ownsRow base 5 1 vv xs.length (xs.map Xx)/\Below base w wr/\Xz w v wr vv) (λ_ i _=>l.length - (intOf i).toNat)
 case atStart=>exact⟨0,bs++Fl.coded l.length,by omega,rfl,by simp[Fl.codedAll],l0.out,m0.out,n0.out⟩
 case round=>
  clear l0 m0 n0;obtain⟨j,xs,hj,rfl,g0,a0,c0,d0⟩:=hrel;have o0:=Zz d0;have p0:=Zz g0;have q0:=Zz a0;have f0:=Zz c0;have z0:xs.length<=1000000:=by
   have h1:=Fl.codedAll_len (l.take j);have h2:=Fl.coded_len l.length;have h3:(l.take j).length<=200:=(by simp;omega);rw[g0];simp only[List.length_append];omega
  clear g0 a0 c0 d0
  by_cases e0:j<l.length
  ·obtain⟨b,off,rfl,H0,A0⟩:=((HI.out).below (f0.out.mono y0)).at e0
   have B0:(j:Int)<(l.length:Int):=(by omega);have r0:Fl.inR (l.getD j 0)=true:=by
    have:=HL.out;rw[List.all_eq_true]at this;exact this _ (by rw[Qa,Qb e0];exact List.getElem_mem e0)
   simp only[Fl.inR,Bool.and_eq_true,decide_eq_true_eq]at r0;obtain⟨x,hx⟩:∃x:Nat,(x:Int)=l.getD j 0:=⟨(l.getD j 0).toNat,by omega⟩;have h0:x<2147483648:=(by omega);rw[<-hx]at A0;have HX:=Zz hx;have C0:base<=wr.heap.size:=Nat.le_trans b0 f0.out.size;clear r0 hx
   go_wp2_with (go_at_call 147;refine(HA.out x xs u0 wr h0 (.inl q0.out) z0 C0).mono ?_;rintro e w2 ⟨v2,rfl,s0,t0,v0⟩)
   have D0:=Zz s0;have E0:Hid (Below base w w2):=f0.out.trans t0;have F0:Hid (Xz w v w2 v2):=o0.out.trans v0;clear s0 t0 v0;go_wp2;refine⟨⟨j+1,xs++Fl.coded x,by omega,by go_num,?_,D0.out,E0.out,F0.out⟩,by simp[intOf];omega⟩;have hg:l.take (j+1)=l.take j++[(x:Int)]:=by
    rw[HX.out,List.take_succ_eq_append_getElem e0,Qa,Qb e0];rfl
   rw[hg,p0.out];simp[Fl.codedAll]
  have B0:(l.length:Int)<=(j:Int):=(by omega);have x0:j=l.length:=(by omega);have HF:Hid (xs=bs++(Fl.coded l.length++Fl.codedAll l)):=by
   show xs=_;rw[p0.out,x0,List.take_length]
  clear x0;go_wp2;go_ret;exact⟨u0,rfl,by rw[<-HF.out];exact q0.out,f0.out,o0.out⟩
def za5(ls:List Int)(ns:List Fl.Node)(la na:Option Addr)(lc nc B:Nat)(w:World)(hl:Zw B w (.slice la ls.length lc) ls)(hn:Yu B w (.slice na ns.length nc) ns)(hB:B<=w.heap.size):
  Cq 99 #[.agg #[.slice la ls.length lc,.slice na ns.length nc]] w λe w'=>e=.returned (.bool (decide (ls.length<=4) && (ls.all Fl.inR && (decide (1<=ns.length) && decide (ns.length<=200)))))/\Bq w w':=by
 have HA:Hid (∀W,Below B w W->Cq 141 #[.slice la ls.length lc] W λe w'=>e=.returned (.bool (ls.all Fl.inR))/\Bq W w'):=λW hW=>zv2 ls _ B W (hl.below hW);obtain⟨r,hr⟩:=nmE ((decide (ls.length<=4) && (ls.all Fl.inR && (decide (1<=ns.length) && decide (ns.length<=200)))));rw[<-hr];have HR:=Zz hr;clear hl hr hn
 by_cases h4:ls.length<=4
 ·have h4':(ls.length:Int)<=4:=by omega
  go_enter func99,ntmps99
  go_wp2_with fail
  have d0:Below B w (w.alloc (.cells #[.slice la ls.length lc,.slice na ns.length nc] 30)):=(Below.refl _ w).alloc hB _;refine(HA.out _ d0).mono ?_;rintro e w1 ⟨rfl,b0⟩;have p1:w1.cell? (Aq w.heap.size 1)=some (.slice na ns.length nc):=(b0.cell (p:=(Aq w.heap.size 1)) (by simp)).trans (by simp);have a0:Hid (Bq w w1):=((Below.refl _ w).alloc (Nat.le_refl _) _).trans (b0.mono (by simp));clear b0 d0 HA
  cases ha:ls.all Fl.inR with
  |false=>
   have HS:Hid (r=false):=(by show r=false;rw[HR.out,ha];simp);clear ha;go_wp2;go_ret;exact⟨Zm HS.out.symm,a0.out⟩
  |true=>
   have c0:=Zz ha;clear ha
   by_cases h1:1<=ns.length
   ·have h1':(1:Int)<=(ns.length:Int):=by omega
    by_cases h2:ns.length<=200
    ·have h2':(ns.length:Int)<=200:=by omega
     have HS:Hid (r=true):=(by show r=true;rw[HR.out,c0.out];simp[h4,h1,h2]);go_wp2;go_ret;exact⟨Zm HS.out.symm,a0.out⟩
    have h2':(200:Int)<(ns.length:Int):=(by omega);have HS:Hid (r=false):=(by show r=false;rw[HR.out,c0.out];simp[h2]);go_wp2;go_ret;exact⟨Zm (by rw[HS.out];simp;omega),a0.out⟩
   have h1':(ns.length:Int)<1:=(by omega);have HS:Hid (r=false):=(by show r=false;rw[HR.out,c0.out];simp[h1]);go_wp2;go_ret;exact⟨Zm HS.out.symm,a0.out⟩
 have h4':(4:Int)<(ls.length:Int):=by omega
 have HS:Hid (r=false):=by show r=false;rw[HR.out];simp[h4]
 go_enter func99,ntmps99
 go_wp2_with fail
 go_ret;exact⟨Zm HS.out.symm,(Below.refl _ w).alloc (Nat.le_refl _) _⟩
def its_out(tp:Value)(nb no:Nat)(K:Int)(w:World)(c0:w.cell? (Aq nb no)=some (Iq K))(hk:K<0\/8<=K):
  Cq 142 #[tp,.pointer (some (Aq nb no))] w λe w'=>e=.returned (.bool false)/\Bq w w':=by
 by_cases b0:K<0
 ·clear hk
  go_enter func142,ntmps142
  go_wp2_with fail
  refine Xq 29 5 _ 12 _ (by kernel_rfl) (by kernel_rfl) rfl rfl (λops hY a0=>?_);simp only[List.take_succ_cons,List.take_zero,List.drop_succ_cons,List.drop_zero]
  iterate 29 still_step
  refine wpStill_nil ?_
  go_wp2_with fail
  go_ret;exact⟨rfl,dA⟩
 have d0:8<=K:=by omega
 clear hk
 go_enter func142,ntmps142
 go_wp2_with fail
 refine Xq 29 5 _ 12 _ (by kernel_rfl) (by kernel_rfl) rfl rfl (λops hY a0=>?_);simp only[List.take_succ_cons,List.take_zero,List.drop_succ_cons,List.drop_zero]
 iterate 29 still_step
 refine wpStill_nil ?_
 go_wp2_with fail
 go_ret;exact⟨rfl,dA⟩
def its_in{nd:Fl.Node}(h:Vm w nb no nd lv)(hr:Vs w tb 0)(hk:nd.kind=(k:Int))(h8:k<8):
  Cq 142 #[Pq tb,.pointer (some (Aq nb no))] w λe w'=>e=.returned (.bool (Fl.sound nd))/\Bq w w':=by
 have k0:Hid (Fl.sound nd=((Fl.inR nd.level && (Fl.inR nd.a && (Fl.inR nd.b && Fl.inR nd.c))) && ((decide (zyx (Vx k) nd.a nd.b nd.c=0) && ((k==7)||decide (nd.list=[]))) && (decide (nd.list.length<=16) && nd.list.all Fl.inR)))):=ys5 hk h8;have HN:=Zz h;have HR:=Zz hr
 have c0:w.cell? (Aq nb no)=some (Iq (k:Int)):=by rw[<-hk];exact h.c0
 have c1:=h.c1;have c2:=h.c2;have c3:=h.c3;have c4:=h.c4;obtain⟨r,a0⟩:=nmE (Fl.sound nd);rw[<-a0];have l0:=Zz a0
 have h8':(k:Int)<8:=by omega
 have h0':(0:Int)<=(k:Int):=by omega
 have HK:=Zz hk;clear h hr hk a0
 go_enter func142,ntmps142
 go_wp2_with fail
 refine Xq 29 5 _ 12 _ (by kernel_rfl) (by kernel_rfl) rfl rfl (λops hY t0=>?_);simp only[List.take_succ_cons,List.take_zero,List.drop_succ_cons,List.drop_zero]
 iterate 29 still_step
 refine wpStill_nil ?_;clear c0 c1 c2 c3 c4
 go_wp2_with fail
 have m0:Zw (w.heap.size+1) (w.drew.alloc (.cells #[Iq nd.level,Iq nd.a,Iq nd.b,Iq nd.c] 3)) (.slice (some (Aq w.heap.size 0)) 4 4) [nd.level,nd.a,nd.b,nd.c]:=Zw.fresh (w:=w.drew) [nd.level,nd.a,nd.b,nd.c] 3 (by simp[maxLen]) _ (by simp);refine(zv2 [nd.level,nd.a,nd.b,nd.c] _ _ _ m0).mono ?_;clear m0;rintro e w1 ⟨rfl,n0⟩;have i0:Hid (Bq w w1):=(((Below.refl _ w).drew).alloc (Nat.le_refl _) _).trans (n0.mono (by simp[World.size_alloc]));clear n0
 have f0:[nd.level,nd.a,nd.b,nd.c].all Fl.inR=(Fl.inR nd.level && (Fl.inR nd.a && (Fl.inR nd.b && Fl.inR nd.c))):=by simp[Bool.and_assoc]
 obtain⟨t,ht⟩:=nmE ([nd.level,nd.a,nd.b,nd.c].all Fl.inR);rw[<-ht];rw[f0]at ht;clear f0
 cases t with
 |false=>
  have HS:Hid (r=false):=(by show r=false;rw[l0.out,k0.out,<-ht];rfl);clear ht;go_wp2;go_ret;exact⟨Zm HS.out.symm,i0.out⟩
 |true=>
  have HS:Hid (r=((decide (zyx (Vx k) nd.a nd.b nd.c=0) && ((k==7)||decide (nd.list=[]))) && (decide (nd.list.length<=16) && nd.list.all Fl.inR))):=(by show r=_;rw[l0.out,k0.out,<-ht];rfl);have g0:Hid (Bq w w1.drew):=i0.out.drew;have o0:=HN.out.below g0.out;have j0:=HR.out.below g0.out k h8;have d0:w1.cell? (Aq nb no)=some (Iq (k:Int)):=(i0.out.cell (p:=(Aq nb no)) (Qe w _ HN.out.c0)).trans (by rw[HN.out.c0,HK.out]);have e1:w1.drew.cell? (Aq tb (k*4+1))=some (Iq (Vx k:Nat)):=(by have:=j0.1;simpa using this);have e2:w1.drew.cell? (Aq tb (k*4+2))=some (.bool (k==7)):=(by have:=j0.2.1;simpa using this);have u0:Vx k<=3:=(by unfold Vx;(repeat' split)<;>omega);have HC:Hid (Cq 207 #[.pointer (some (Aq tb (k*4))),.pointer (some (Aq nb no))] w1.drew λe w'=>e=.returned (.bool (decide (zyx (Vx k) nd.a nd.b nd.c=0) && ((k==7)||decide (nd.list=[]))))/\Below w1.drew.heap.size w1.drew w'):=ylz tb (k*4) nb no (Vx k) u0 (k==7) nd lv w1.drew o0 e1 e2;obtain⟨u,hu⟩:=nmE ((decide (zyx (Vx k) nd.a nd.b nd.c=0) && ((k==7)||decide (nd.list=[]))));rw[<-hu]at HC HS;clear ht o0 j0 e1 e2 hu;obtain⟨lao,lcap,v0,x0,y0,z0⟩:=id HN.out.hl;subst v0;unfold maxLen at y0;clear z0 x0
  go_wp2_with fail
  refine Xq 8 9 _ 17 _ (by kernel_rfl) (by kernel_rfl) rfl rfl (λops hY t0=>?_);simp only[List.take_succ_cons,List.take_zero,List.drop_succ_cons,List.drop_zero]
  iterate 8 still_step
  refine wpStill_nil ?_
  go_wp2_with fail
  refine(HC.out).mono ?_;rintro e w2 ⟨rfl,p0⟩;have b0:Hid (Bq w w2):=g0.out.trans (p0.mono g0.out.size);have q0:=HN.out.below b0.out;have f5:=q0.c5;have A0:Hid (∀W,Bq w W->Cq 141 #[.slice lao nd.list.length lcap] W λe w'=>e=.returned (.bool (nd.list.all Fl.inR))/\Bq W w'):=λW hW=>zv2 nd.list _ w.heap.size W (HN.out.hl.below hW);clear p0 q0 HC d0
  cases u with
  |false=>
   have e0:Hid (r=false):=(by show r=false;rw[HS.out];rfl);go_wp2;go_ret;exact⟨Zm e0.out.symm,b0.out⟩
  |true=>
   by_cases r0:nd.list.length<=16
   ·have h16':(nd.list.length:Int)<=16:=by omega
    have e0:Hid (r=nd.list.all Fl.inR):=(by show r=_;rw[HS.out];simp[r0])
    go_wp2_with fail
    refine(A0.out _ b0.out).mono ?_;rintro e w3 ⟨rfl,s0⟩;have B0:Hid (Bq w w3):=b0.out.trans (s0.mono b0.out.size);clear s0 f5;obtain⟨v,hv⟩:=nmE (nd.list.all Fl.inR);rw[<-hv]at e0⊢;clear hv;go_wp2;go_ret;exact⟨Zm e0.out.symm,B0.out⟩
   have h16':(16:Int)<(nd.list.length:Int):=(by omega);have e0:Hid (r=false):=(by show r=_;rw[HS.out];simp[r0]);go_wp2;go_ret;exact⟨Zm e0.out.symm,b0.out⟩
def its_any{nd:Fl.Node}(h:Vm w nb no nd lv)(hr:Vs w tb 0):
  Cq 142 #[Pq tb,.pointer (some (Aq nb no))] w λe w'=>e=.returned (.bool (Fl.sound nd))/\Bq w w':=by
 by_cases hk:0<=nd.kind/\nd.kind<8
 ·exact its_in (k:=nd.kind.toNat) h hr (by omega) (by omega)
 rw[yo4 (by omega)];exact its_out _ nb no nd.kind w h.c0 (by omega)
namespace Fl
def firstBad(ns:List Node):Int:=match (List.range ns.length).find? (bad ns) with|some k=>(k:Int)|none=> -1
def bad_eq(ns:List Node)(k:Nat):bad ns k=(!sound (nth ns k)||((prem (nth ns k)).any (λp=>decide ((k:Int)<=p))||dupAt ns k)):=rfl
def shaped_bad(ns:List Node)(h:0<=firstBad ns):shaped ns=firstBad ns:=by
 unfold firstBad at*;unfold shaped
 cases hf:(List.range ns.length).find? (bad ns) with
 |some k=>rfl
 |none=>rw[hf]at h;simp at h
def firstBad_lt(ns:List Node):firstBad ns<(ns.length:Int)/\ -1<=firstBad ns:=by
 unfold firstBad
 cases hf:(List.range ns.length).find? (bad ns) with
 |some k=>have:=List.mem_of_find?_eq_some hf;simp at this;simp only;omega
 |none=>simp only;omega
def no_bad(ns:List Node)(h:firstBad ns<0)(k:Nat)(hk:k<ns.length):bad ns k=false:=by
 unfold firstBad at h
 cases hf:(List.range ns.length).find? (bad ns) with
 |some j=>rw[hf]at h;simp only at h;omega
 |none=>
  rw[List.find?_eq_none]at hf;have:=hf k (by simpa using hk);simpa using this
def allGood_bad(ns:List Node)(h:firstBad ns<0):allGood ns:=λk hk=>by
 have:=no_bad ns h k hk;rw[bad_eq]at this;simp only[Bool.or_eq_false_iff,Bool.not_eq_false']at this;exact⟨this.1,this.2.1⟩
def shaped_un(ns:List Node)(h:firstBad ns<0):shaped ns=firstUn ns:=by
 have hd:firstDup ns= -1:=by
  unfold firstDup
  rw[find_none _ _ (λk hk=>by
   have:=no_bad ns h k hk;rw[bad_eq]at this;simp only[Bool.or_eq_false_iff,Bool.not_eq_false']at this
   exact this.2.2)]
 rw[shaped_good (allGood_bad ns h),hd];simp
end Fl
structure zy0(ns:List Fl.Node)(w wr:World)(TB B T:Nat)(j:Nat)(seen:List Fl.Node):Prop where
 hj:j<=ns.length
 hlen:seen.length=j
 hmem:∀x,x∈seen ↔ x∈ns.take j
 hno:∀t,t<j->Fl.bad ns t=false
 hs:zo8 wr T B seen
 hr:Vs wr TB 0
 hb:Bq w wr
 hw:w.heap.size<=TB
 hTB:TB<B
 hBT:B<T
 hz:T<wr.heap.size
def zy0.below{ns:List Fl.Node}{w wr w':World}{TB B T:Nat}{j:Nat}{seen:List Fl.Node}(h:zy0 ns w wr TB B T j seen)(hb:Bq wr w'):zy0 ns w w' TB B T j seen:=
 ⟨h.hj,h.hlen,h.hmem,h.hno,h.hs.kept (row:=none) ⟨hb.os,hb.tape,hb.output,hb.size,λk hk _=>hb.block k hk⟩ (by simp) (by simp),h.hr.below hb,h.hb.trans (hb.mono h.hb.size),h.hw,h.hTB,h.hBT,Qj h.hz hb.size⟩
def zhz(ns:List Fl.Node)(nv:Value)(w:World)(hn:Yu w.heap.size w nv ns)(hlen:ns.length<=1000):
  Cq 100 #[nv] w λe w'=>e=.returned (Iq (Fl.firstBad ns))/\Bq w w':=by
 obtain⟨na,nc,rfl,_,hm,_⟩:=id hn;have HN:=Zz hn;clear hn hm
 go_enter func100,ntmps100
 go_wp2_with (first|(go_at_call 107;refine(zo4 _).mono ?_;rintro e w1 ⟨rfl,rfl⟩)|(refine zx0 rfl _ _ 210 rfl _ _ _ Zb rfl (by simp) rfl Tryz.infoRules ztx zq0 ?_))
 have g0:((w.alloc (.cells Zb 210)).alloc (.cells Zb 210)).heap[w.heap.size+1]?=some (.cells Zb 210 (0,0)):=by
  have:=heap_alloc_last (w.alloc (.cells Zb 210)) (.cells Zb 210)
  rwa [World.size_alloc]at this
 have x0:Bq w ((w.alloc (.cells Zb 210)).alloc (.cells Zb 210)):=(bA).alloc (by simp) _;refine(ym5 _).mono ?_;rintro e w1 ⟨rfl,q0,l0,y0⟩;simp only[World.size_alloc]at q0 l0 y0⊢
 have h0:Hid (zy0 ns w w1 (w.heap.size+1) (w.heap.size+1+1) (w.heap.size+1+1+1) 0 []):=
  ⟨by omega,rfl,by simp,λt ht=>by omega,q0,zl3 ((l0.block _ (by omega)).trans g0),x0.trans (l0.mono (by omega)),by omega,by omega,by omega,by omega⟩
 obtain⟨TB,hTB⟩:=nmE (w.heap.size+1);rw[<-hTB]at h0⊢;obtain⟨MB,z0⟩:=nmE (TB+1);rw[<-z0]at h0⊢;obtain⟨T,hT⟩:=nmE (MB+1);rw[<-hT]at h0⊢;clear g0 x0 q0 l0 y0 hTB z0 hT
 go_wp2_with fail
 go_loopw [13] (λi wr=>∃(j:Nat) (seen:List Fl.Node),i=Iq j/\zy0 ns w wr TB MB T j seen) (λi _=>ns.length - (intOf i).toNat)
 case atStart=>exact⟨0,[],rfl,h0.out⟩
 case round=>
  clear h0;obtain⟨j,seen,rfl,hr⟩:=hrel;have hj:=hr.hj;have HR:=Zz hr;clear hr
  by_cases e0:j<ns.length
  ·obtain⟨b,off,rfl⟩:∃b off,na=some (Aq b off):=by
    obtain⟨ao',cap',hv',_,_,hx'⟩:=HN.out;obtain⟨b,off,ha,_⟩:=hx' (by intro h;rw[h]at e0;simp at e0);simp only[Value.slice.injEq]at hv';exact⟨b,off,hv'.1.trans ha⟩
   obtain⟨lv,A0⟩:=(HN.out.below HR.out.hb).node e0 HR.out.hb.size;have r0:=Zz A0;have O0:(j:Int)<(ns.length:Int):=(by omega);clear A0
   go_wp2_with fail
   refine(its_any r0.out HR.out.hr).mono ?_;rintro e w2 ⟨rfl,s0⟩;have m0:Hid (zy0 ns w w2 TB MB T j seen):=HR.out.below s0;have n0:Hid (Vm w2 b (off+j*6) (Fl.nth ns j) lv):=r0.out.below s0;clear s0;obtain⟨nd,d0⟩:=nmE (Fl.nth ns j);rw[<-d0]at n0⊢;have i0:=Zz d0;clear r0 HR d0
   have t0:Hid (Fl.bad ns j=true->Fl.firstBad ns=(j:Int)):=λh=>by
    show Fl.firstBad ns=_;unfold Fl.firstBad;rw[Fl.find_first _ _ j m0.out.hno e0 h]
   cases j0:Fl.sound nd with
   |false=>
    have HF:Hid (Fl.firstBad ns=(j:Int)):=t0.out (by rw[Fl.bad_eq,<-i0.out,j0];rfl);clear j0;go_wp2;go_ret;exact⟨Vc HF.out.symm,m0.out.hb⟩
   |true=>
    obtain⟨k0,H0,I0⟩:=Fl.sound_fits j0;have J0:=Zz j0;have B0:=Zz k0;obtain⟨x,hx⟩:∃x:Nat,nd.kind=(x:Int):=⟨nd.kind.toNat,by omega⟩;have K0:x<8:=(by omega);have c0:=n0.out.c0;rw[hx]at c0;have h3':w2.cell? (Aq TB (x*4+3))=some (.func (.func (byF x)) #[] #[]):=(by have:=(m0.out.hr x K0).2.2;simpa using this)
    have HC:Hid (Cq 143 #[.pointer (some (Aq TB (x*4))),.pointer (some (Aq b (off+j*6))),Iq j] w2 λe w'=>e=.returned (.bool (!(prem nd).any (λx=>decide ((j:Int)<=x))))/\Bq w2 w'):=
     zc6 TB (x*4) (byF x) j (.pointer (some (Aq b (off+j*6)))) (prem nd) w2 h3' (zc5 x _ _) (by rw[<-hx];exact yq5 n0.out)
    have P0:(x:Int)<8:=(by omega);clear j0 k0 H0 I0 hx h3'
    go_wp2_with fail
    refine(HC.out).mono ?_;rintro e w3 ⟨rfl,u0⟩;have C0:Hid (zy0 ns w w3 TB MB T j seen):=m0.out.below u0;have L0:Hid (Vm w3 b (off+j*6) nd lv):=n0.out.below u0;clear u0 HC c0
    cases o0:(prem nd).any (λx=>decide ((j:Int)<=x)) with
    |true=>
     have HF:Hid (Fl.firstBad ns=(j:Int)):=t0.out (by rw[Fl.bad_eq,<-i0.out,o0];simp);clear o0;go_wp2;go_ret;exact⟨Vc HF.out.symm,C0.out.hb⟩
    |false=>
     have M0:=Zz o0;have HC:Hid (Cq 145 #[.pointer (some (Aq b (off+j*6)))] w3 λe w'=>e=.returned (.agg (Yo nd).toArray)/\Bq w3 w'):=zp2 L0.out B0.out.2.2.2.2.2.1;clear o0
     go_wp2_with (go_at_call 145;refine(HC.out).mono ?_;rintro e w4 ⟨rfl,D0⟩)
     have a0:Hid (zy0 ns w w4 TB MB T j seen):=C0.out.below D0;have E0:=a0.out.hs;clear D0 HC;refine(ym6 E0 B0.out (by have:=a0.out.hlen;omega)).mono ?_;rintro e w5 ⟨c,t,rfl,ht,F0,f0⟩;have b0:=a0.out;have p0:Hid (Bq w w5/\Vs w5 TB 0/\T<w5.heap.size):=by
      refine⟨b0.hb.grown f0 b0.hb.size (λk hk=>by simp only[Option.some.injEq]at hk;have:=b0.hw;have:=b0.hTB;omega),λk hk=>?_,Qj b0.hz f0.size⟩;have v0:some TB≠some MB:=(by have:=b0.hTB;simp;omega);obtain⟨g1,g2,g3⟩:=b0.hr k hk;exact⟨f0.cell g1 v0,f0.cell g2 v0,f0.cell g3 v0⟩
     have N0:=Zz F0;have HT:=Zz ht;clear E0 F0 f0 ht b0;have G0:Hid (nd∈seen ↔ Fl.dupAt ns j=true):=by
      show _ ↔ _;rw[Fl.dupAt_iff ns j e0,a0.out.hmem,i0.out]
     cases t with
     |true=>
      have HF:Hid (Fl.firstBad ns=(j:Int)):=t0.out (by rw[Fl.bad_eq,G0.out.1 (HT.out.1 rfl)];simp);go_wp2;go_ret;exact⟨Vc HF.out.symm,p0.out.1⟩
     |false=>
      have HD:Hid (Fl.bad ns j=false):=by
       show Fl.bad ns j=false;have h1:Fl.dupAt ns j=false:=by
        rw[Bool.eq_false_iff];intro h
        have:=HT.out.2 (G0.out.2 h);cases this
       rw[Fl.bad_eq,<-i0.out,J0.out,M0.out,h1];rfl
      go_wp2
      go_roundw
      case rel=>
       refine⟨j+1,nd::seen,by go_num,⟨by omega,by simp[a0.out.hlen],λx=>?_,λt ht=>?_,N0.out,p0.out.2.1,p0.out.1,a0.out.hw,a0.out.hTB,a0.out.hBT,p0.out.2.2⟩⟩
       ·rw[Fl.take_snocN ns j e0,List.mem_cons,List.mem_append,List.mem_singleton,a0.out.hmem x,i0.out];exact or_comm
       by_cases h:t<j
       ·exact a0.out.hno t h
       have:t=j:=by omega
       subst this;exact HD.out
      case measure=>simp[intOf];omega
  have HF:Hid (Fl.firstBad ns= -1):=by
   show Fl.firstBad ns= -1;unfold Fl.firstBad;rw[Fl.find_none _ _ (λk hk=>HR.out.hno k (by omega))]
  go_wp2;go_ret;exact⟨Vc HF.out.symm,HR.out.hb⟩
namespace Fl
end Fl
namespace Fl
def inR_nat{x:Int}(h:inR x=true):0<=x/\x<2147483648:=by simpa [inR] using h
def zm2{k:Int}(h:fields k≠ -2):0<=k/\k<8:=by unfold fields at h;(repeat' split at h)<;>omega
def drop_lt{a:List UInt8}(h:s.drop p=a++r)(ha:0<a.length):p<s.length:=by
 rcases Nat.lt_or_ge p s.length with h1|h1
 ·exact h1
 rw[List.drop_eq_nil_of_le h1]at h;have:=congrArg List.length h;simp at this;omega
def Jv{c:UInt8}(h:s.drop p=c::r):p<s.length/\s.getD p 0=c/\s.drop (p+1)=r:=by
 have h1:p<s.length:=drop_lt (a:=[c]) (r:=r) (by simpa using h) (by simp);refine⟨h1,?_,by rw[<-List.drop_drop,h];rfl⟩
 have:(s.drop p)[0]?=some c:=by rw[h];rfl
 rw[List.getElem?_drop]at this;rw[Qa];simpa using congrArg (λo=>o.getD 0) this
end Fl
def yo5{B:Nat}{xs:List Int}(h:Zw B w v xs)(hc:∀b o,b<B->w'.cell? (Aq b o)=w.cell? (Aq b o)):Zw B w' v xs:=by
 obtain⟨ao,cap,hv,c0,hl,hx⟩:=h;refine⟨ao,cap,hv,c0,hl,λd0=>?_⟩;obtain⟨b,off,ha,b0,a0⟩:=hx d0;exact⟨b,off,ha,b0,λi hi=>(hc b _ b0).trans (a0 i hi)⟩
def zlx{base':Nat}{e:TypeId}{size:Nat}(h:w.ownsRow base e size v n xs)(hb:base'<=base):w.ownsRow base' e size v n xs:=
 ⟨h.1,h.2.imp id (λ⟨g,cap,cur,hv,hg,rest⟩=>⟨g,cap,cur,hv,Nat.le_trans hb hg,rest⟩)⟩
def zd2{nd:Fl.Node}(hk:nd.kind=(k:Int))(h8:k<8)(h7:k≠7)(a0:nd.level=(lev:Int)):Fl.nodeBytes nd=[UInt8.ofNat k]++(Fl.coded lev++Fl.codedAll ([nd.a,nd.b,nd.c].take (Vx k))):=by
 unfold Fl.nodeBytes Fl.nodeNums;rw[hk,a0,yy0 k h8 h7,if_neg (by omega),if_neg (by omega)];simp
def zhy{nd:Fl.Node}(hk:nd.kind=((7:Nat):Int))(a0:nd.level=(lev:Int)):Fl.nodeBytes nd=[UInt8.ofNat 7]++(Fl.coded lev++(Fl.coded nd.list.length++Fl.codedAll nd.list)):=by
 unfold Fl.nodeBytes Fl.nodeNums
 have:Fl.fields (((7:Nat):Int))= -1:=by decide
 rw[hk,a0,this];simp
def yo6(ls:List Int)(ns:List Fl.Node)(la na:Option Addr)(lc nc B:Nat)(w:World)(hB:B<=w.heap.size)(hl:Zw B w (.slice la ls.length lc) ls)(hn:Yu B w (.slice na ns.length nc) ns)(h1:ls.length<=4)(hall:ls.all Fl.inR=true)(h2:ns.length<=200)(m0:∀k,k<ns.length->Fl.sound (Fl.nth ns k)=true):
  Cq 102 #[.agg #[.slice la ls.length lc,.slice na ns.length nc]] w λe w'=>∃v',e=.returned v'/\w'.ownsRow w.heap.size 5 1 v' (Fl.headBytes ls ns++Fl.allBytes ns).length ((Fl.headBytes ls ns++Fl.allBytes ns).map Xx)/\Bq w w':=by
 obtain⟨i0,hi,P1,Q1,R1⟩:=info_parts Tryz.infoByte;have HL:=Zz hl;have HN:=Zz hn;have HA:=Zz hall;have HS:=Zz m0;have kc:=Lib.run_convert_bytes_const (P:=prog) (((w.alloc (.cells #[.slice la ls.length lc,.slice na ns.length nc] 30)).alloc (.cells Zb 210)).alloc (.cells Zb 210)) 44 5 #[.int .u8 70,.int .u8 80,.int .u8 49] 3 3 underlying44 underlying5;simp only[World.size_alloc,List.size_toArray,List.length_cons,List.length_nil,Nat.reduceAdd]at kc;clear hl hn hall m0
 go_enter func102,ntmps102
 go_wp2_with (first|(go_at_call 107;refine(zo4 _).mono ?_;rintro e w1 ⟨rfl,rfl⟩)|(refine zx0 rfl _ _ 210 rfl _ _ _ Zb rfl (by simp) rfl Tryz.infoRules ztx zq0 ?_))
 clear kc;obtain⟨W4,n0⟩:=nmE (((((w.alloc (.cells #[.slice la ls.length lc,.slice na ns.length nc] 30)).alloc (.cells Zb 210)).alloc (.cells Zb 210)).alloc (.cells #[.int .u8 70,.int .u8 80,.int .u8 49] 5 (3,4))));rw[<-n0]
 have S1:W4.heap.size=w.heap.size+4:=by rw[n0];simp
 have W0:Bq w W4:=by
  rw[n0];exact(((bA).alloc (by simp) _).alloc (by simp;omega) _).alloc (by simp;omega) _
 have x0:W4.heap[w.heap.size+2]?=some (.cells Zb 210 (0,0)):=by
  rw[n0,Below.heap_alloc _ _ _ (by simp)];have:=heap_alloc_last ((w.alloc (.cells #[.slice la ls.length lc,.slice na ns.length nc] 30)).alloc (.cells Zb 210)) (.cells Zb 210);simpa only [World.size_alloc] using this
 have v1:W4.heap[w.heap.size]?=some (.cells #[.slice la ls.length lc,.slice na ns.length nc] 30 (0,0)):=by
  rw[n0,Below.heap_alloc _ _ _ (by simp;omega),Below.heap_alloc _ _ _ (by simp;omega),Below.heap_alloc _ _ _ (by simp)];exact heap_alloc_last _ _
 have y0:W4.heap[w.heap.size+3]?=some (.cells #[.int .u8 70,.int .u8 80,.int .u8 49] 5 (3,4)):=by
  have:=heap_alloc_last (((w.alloc (.cells #[.slice la ls.length lc,.slice na ns.length nc] 30)).alloc (.cells Zb 210)).alloc (.cells Zb 210)) (.cells #[.int .u8 70,.int .u8 80,.int .u8 49] 5 (3,4));rw[n0];simpa only [World.size_alloc] using this
 have x1:Hid (Vs W4 (w.heap.size+2) 0):=zl3 x0;have HH:Hid (Ui W4 (w.heap.size+3) (.slice (some (Aq (w.heap.size+3) 0)) 3 3) ([70,80,49]:List UInt8).length (([70,80,49]:List UInt8).map Xx)):=by
  refine .inr ⟨w.heap.size+3,Nat.le_refl _,by omega,rfl,rfl,λj u hj=>?_⟩
  have h2:((Aq (w.heap.size+3) 0):Addr).add j=(Aq (w.heap.size+3) j):=by unfold Addr.add;split<;>simp_all
  rw[h2,cell_of_row W4 _ j _ _ _ y0];simpa [Xx] using hj
 have T1:=Zz v1;have X0:=Zz W0
 have y1:Hid (Cq 146 #[.slice (some (Aq (w.heap.size+3) 0)) 3 3,.slice la ls.length lc] W4 λe w'=>∃v',e=.returned v'/\w'.ownsRow (w.heap.size+3) 5 1 v' (([70,80,49]:List UInt8)++(Fl.coded ls.length++Fl.codedAll ls)).length ((([70,80,49]:List UInt8)++(Fl.coded ls.length++Fl.codedAll ls)).map Xx)/\Below (w.heap.size+3) W4 w'/\Xz W4 (.slice (some (Aq (w.heap.size+3) 0)) 3 3) w' v'):=
  zr5 ls HA.out (by omega) B (w.heap.size+3) (by omega) (.slice la ls.length lc) [70,80,49] _ W4 (HL.out.below (W0.mono hB)) HH.out (by simp) (by omega)
 clear x0 v1 y0 W0 n0;refine(y1.out).mono ?_;rintro e w5 ⟨v5,rfl,M0,N0,_⟩;have U1:=Fl.coded_len ls.length;have V1:=Fl.codedAll_len ls
 have W1:(([70,80,49]:List UInt8)++(Fl.coded ls.length++Fl.codedAll ls)).length<=60:=by simp only[List.length_append,List.length_cons,List.length_nil];omega
 obtain⟨xs5,Y0⟩:=nmE ((([70,80,49]:List UInt8)++(Fl.coded ls.length++Fl.codedAll ls)));rw[<-Y0]at M0 W1;have X1:=Zz Y0;have Y1:=Zz M0;have Z1:=Zz N0;have q1:w5.cell? (Aq w.heap.size 1)=some (.slice na ns.length nc):=(N0.cell (p:=(Aq w.heap.size 1)) (by simp)).trans ((cell_of_row _ _ _ _ _ _ T1.out).trans rfl)
 have z0:Hid (Cq 147 #[v5,Iq (ns.length:Nat)] w5 λe w'=>∃v',e=.returned v'/\w'.ownsRow (w.heap.size+3) 5 1 v' (xs5++Fl.coded ns.length).length ((xs5++Fl.coded ns.length).map Xx)/\Below (w.heap.size+3) w5 w'/\Xz w5 v5 w' v'):=
  Jn ns.length (by omega) (w.heap.size+3) xs5 v5 w5 (.inl M0) (by omega) (by have:=N0.size;omega)
 clear y1 HH M0 N0 Y0 U1 V1
 go_wp2_with fail
 refine(z0.out).mono ?_;rintro e w6 ⟨v6,rfl,z1,Z0,_⟩;have A1:=Zz z1;have B1:Hid (Below (w.heap.size+3) W4 w6):=Z1.out.trans Z0;have q6:w6.cell? (Aq w.heap.size 1)=some (.slice na ns.length nc):=(Z0.cell (p:=(Aq w.heap.size 1)) (by simp)).trans q1
 have a2:(xs5++Fl.coded ns.length).length<=70:=by have:=Fl.coded_len ns.length;simp only[List.length_append];omega
 have C1:Hid (xs5++Fl.coded ns.length=Fl.headBytes ls ns):=by
  show _=_;rw[X1.out];unfold Fl.headBytes;simp[List.append_assoc]
 clear z0 z1 Z0 q1 Y1
 go_wp2_with fail
 obtain⟨TB,hTB⟩:=nmE (w.heap.size+1+1);rw[<-hTB]
 have b2:Hid (Vs W4 TB 0):=by subst hTB;exact x1.out
 have z2:=Zz hTB
 have u0:Hid (w6.ownsRow (TB+1) 5 1 v6 (xs5++Fl.coded ns.length).length ((xs5++Fl.coded ns.length).map Xx)):=by subst hTB;exact A1.out
 have D1:Hid (Below (TB+1) W4 w6):=by subst hTB;exact B1.out
 have hz4':W4.heap.size=TB+2:=by omega
 have A2:w.heap.size<TB:=by omega
 clear hTB A1 B1 x1 q6 S1
 go_loopw [4,24] (λv i wr=>∃(j:Nat) (xs:List UInt8),j<=ns.length/\i=Iq j/\xs=Fl.headBytes ls ns++Fl.allBytes (ns.take j)/\wr.ownsRow (TB+1) 5 1 v xs.length (xs.map Xx)/\Below (TB+1) W4 wr) (λ_ i _=>ns.length - (intOf i).toNat)
 case atStart=>exact⟨0,xs5++Fl.coded ns.length,by omega,rfl,by rw[C1.out];simp[Fl.allBytes],u0.out,D1.out⟩
 case round=>
  clear u0 D1 C1 a2;obtain⟨j,xs,hj,rfl,a1,d0,o0⟩:=hrel;have b1:=Zz a1;have A0:=Zz d0;have p0:=Zz o0;have B2:xs.length<=41000:=by
   have h1:=Fl.allBytes_len (ns.take j) (λx hx=>by
    obtain⟨i,hi,rfl⟩:=Fl.mem_nth (List.mem_of_mem_take hx);exact HS.out i hi)
   have h2:=Fl.coded_len ls.length;have h3:=Fl.codedAll_len ls;have h4:=Fl.coded_len ns.length;have h5:(ns.take j).length<=200:=(by simp;omega);rw[a1];simp only[Fl.headBytes,List.length_append,List.length_cons,List.length_nil];omega
  have C2:TB+2<=wr.heap.size:=(by have:=o0.size;omega);clear a1 d0 o0
  by_cases v0:j<ns.length
  ·obtain⟨b,off,rfl⟩:∃b off,na=some (Aq b off):=by
    obtain⟨ao',cap',hv',_,_,hx'⟩:=HN.out;obtain⟨b,off,ha,_⟩:=hx' (by intro h;rw[h]at v0;simp at v0);simp only[Value.slice.injEq]at hv';exact⟨b,off,hv'.1.trans ha⟩
   have E1:Bq w wr:=X0.out.trans (p0.out.mono (by omega));obtain⟨D2,lv,c0,c1,c2,c3,c4,c5,c6⟩:=(HN.out.below (E1.mono hB)).at v0;have m0:=HS.out j v0;obtain⟨nd,f1⟩:=nmE (Fl.nth ns j);rw[<-f1]at c0 c1 c2 c3 c4 c5 m0;have F1:=Zz f1;obtain⟨B0,d2,f2⟩:=Fl.sound_fits m0;obtain⟨k,hk⟩:∃k:Nat,nd.kind=(k:Int):=⟨nd.kind.toNat,by omega⟩;have h8:k<8:=(by omega);rw[hk]at c1;obtain⟨lao,lcap,rfl,_⟩:=id c0;have i2:Hid (∀W,Below (TB+1) W4 W->Zw B W (.slice lao nd.list.length lcap) nd.list):=λW hW=>yo5 c0 (λb o hb=>(hW.cell (p:=(Aq b o)) (by simp only;omega)).trans (p0.out.cell (p:=(Aq b o)) (by simp only;omega)).symm);have O0:=Zz B0;have E2:=Zz m0;have HK:=Zz hk
   have j2:Hid (Vs wr TB 0):=λk hk=>by
    obtain⟨g1,g2,g3⟩:=b2.out k hk;exact⟨(p0.out.cell (p:=(Aq TB _)) (by simp)).trans g1,(p0.out.cell (p:=(Aq TB _)) (by simp)).trans g2,(p0.out.cell (p:=(Aq TB _)) (by simp)).trans g3⟩
   have F2:(j:Int)<(ns.length:Int):=(by omega);have h8':(k:Int)<8:=(by omega);clear f1 B0 d2 f2 hk c0 m0 E1;have k2:Hid (∀o o',Ui ((wr.alloc o).alloc o') (TB+1) u4 xs.length (xs.map Xx)):=λo o'=>(Ui.alloc (Or.inl A0.out) o).alloc o'
   go_wp2_with (at_builtin;(refine zz3 _ rfl _ _ 44 rfl (TB+1) i0 (.int .u8 0) underlying44 hi P1 Q1 R1 rfl _ _ _ rfl (k2.out _ _) (Aq _ 0) 1 1 [.int .u8 (k:Int)] rfl rfl (by decide) zev ?c2 ?c3 ?c4 ?c5 ?_))
   case c2=>intro u hu;simp at hu;subst hu;rfl
   case c3=>unfold maxLen;omega
   case c4=>omega
   case c5=>simp;omega
   intro v7 w7 i1 j1 k1;obtain⟨N,hN⟩:=nmE (wr.heap.size);obtain⟨WA,C0⟩:=nmE (wr.alloc (.cells #[Iq (k:Int),Iq nd.level,Iq nd.a,Iq nd.b,Iq nd.c,.slice lao nd.list.length lcap] 92));have l2:WA.heap.size=N+1:=(by rw[C0,hN];simp);have h0:WA.heap[N]?=some (.cells #[Iq (k:Int),Iq nd.level,Iq nd.a,Iq nd.b,Iq nd.c,.slice lao nd.list.length lcap] 92 (0,0)):=(by rw[C0,hN];exact heap_alloc_last _ _);have P0:Below N wr WA:=(by rw[C0,hN];exact bA);rw[<-C0]at j1;have Q0:Hid (Xz WA u4 w7 v7):=((Xz.refl WA u4).alloc _).append j1 (by simp only[World.size_alloc,l2,hN]at k1⊢;exact k1);have u0:Hid (w7.ownsRow (TB+1) 5 1 v7 (xs++[UInt8.ofNat k]).length ((xs++[UInt8.ofNat k]).map Xx)):=by
    have m2:(.int .u8 (k:Int):Value)=Xx (UInt8.ofNat k):=by
     have h2:(UInt8.ofNat k).toNat=k:=(by simp;omega);unfold Xx;rw[h2]
    rw[m2]at i1;show World.ownsRow _ _ _ _ _ _ _;simpa using i1
   have D0:some N≠u4.ownBlock:=λhh=>by have:=(A0.out.lt N hh.symm).2;omega
   have E0:some TB≠u4.ownBlock:=λhh=>by have:=(A0.out.lt TB hh.symm).1;omega
   have F0:Hid (∀W V,Xz WA u4 W V->(∀o,W.cell? (Aq N o)=#[Value.int .i64 (k:Int),Iq nd.level,Iq nd.a,Iq nd.b,Iq nd.c,.slice lao nd.list.length lcap][o]?)/\Vs W TB 0/\Below (TB+1) W4 W/\N<W.heap.size/\Below N wr WA):=λW V hst=>by
    refine⟨λo=>(hst.cell (by omega) D0).trans (cell_of_row _ _ _ _ _ _ h0),λk hk=>?_,?_,by have:=hst.1.size;omega,P0⟩
    ·obtain⟨g1,g2,g3⟩:=j2.out k hk
     have q:∀o,W.cell? (Aq TB o)=wr.cell? (Aq TB o):=λo=>(hst.cell (by omega) E0).trans (P0.cell (p:=(Aq TB o)) (by simp only;omega));exact⟨(q _).trans g1,(q _).trans g2,(q _).trans g3⟩
    exact(p0.out.trans (P0.mono (by omega))).grown hst.1 (by omega) (λg hg=>(A0.out.lt g hg).1)
   rw[<-hN];have d1:w7.cell? (Aq N 1)=some (Iq nd.level):=(F0.out _ _ Q0.out).1 1;have G2:TB<N:=(by omega);clear i1 j1 k1 h0 P0 D0 E0 c1 c2 c3 c4 c5 c6 C0 hN;obtain⟨lev,q0⟩:∃lev:Nat,nd.level=(lev:Int):=⟨nd.level.toNat,by have:=Fl.inR_nat O0.out.2.1;omega⟩;have r0:lev<2147483648:=(by have:=Fl.inR_nat O0.out.2.1;omega);have G1:=Zz q0;rw[q0]at d1;obtain⟨ys7,f0⟩:=nmE (xs++[UInt8.ofNat k]);rw[<-f0]at u0;have n2:ys7.length<=41001:=(by rw[f0];simp;omega);have H1:=Zz f0;have o2:N<w7.heap.size:=(F0.out _ _ Q0.out).2.2.2.1;clear f0 q0
   have z0:Hid (Cq 147 #[v7,Iq lev] w7 λe w'=>∃v',e=.returned v'/\w'.ownsRow (TB+1) 5 1 v' (ys7++Fl.coded lev).length ((ys7++Fl.coded lev).map Xx)/\Below (TB+1) w7 w'/\Xz w7 v7 w' v'):=
    Jn lev r0 (TB+1) ys7 v7 w7 (.inl u0.out) (by omega) (by omega)
   go_wp2_with fail
   refine(z0.out).mono ?_;rintro e w8 ⟨v8,rfl,I1,_,J1⟩;have R0:Hid (Xz WA u4 w8 v8):=Q0.out.trans J1;have l1:=Zz I1;clear z0 I1 J1 d1 u0 Q0 o2;have K1:=(F0.out _ _ R0.out).2.1 k h8;have q2:N<w8.heap.size:=(F0.out _ _ R0.out).2.2.2.1;have e1:w8.cell? (Aq TB (k*4+1))=some (Iq (Vx k:Nat)):=(by have:=K1.1;simpa using this);have r2:Vx k<=3:=(by unfold Vx;(repeat' split)<;>omega);have L1:Hid (Cq 148 #[.pointer (some (Aq TB (k*4))),Pq N] w8 λe w'=>e=.returned (.slice (some (Aq w8.heap.size 0)) (Vx k) 3)/\w'=(w8.alloc (.cells #[.pointer (some (Aq N 2)),.pointer (some (Aq N 3)),.pointer (some (Aq N 4))] 279)).drew):=yvy TB (k*4) N (Vx k) w8 r2 (by omega) e1;clear K1 e1
   go_wp2_with fail
   refine(L1.out).mono ?_;rintro e w9 ⟨rfl,S0⟩;obtain⟨PB,T0⟩:=nmE (w8.heap.size);have H2:w9.heap.size=PB+1:=(by rw[S0,T0];simp);have j0:w9.heap[PB]?=some (.cells #[.pointer (some (Aq N 2)),.pointer (some (Aq N 3)),.pointer (some (Aq N 4))] 279 (0,0)):=(by rw[S0,T0];exact heap_alloc_last _ _);have a0:Bq w8 w9:=(by rw[S0];exact(bA).drew);have s2:Hid (Xz WA u4 w9 v8):=R0.out.below a0;have M1:Hid (w9.ownsRow (TB+1) 5 1 v8 (ys7++Fl.coded lev).length ((ys7++Fl.coded lev).map Xx)):=l1.out.kept (row:=none) ⟨a0.os,a0.tape,a0.output,a0.size,λk hk _=>a0.block k hk⟩ (by cases v8.ownBlock<;>simp)
   have G0:some PB≠v8.ownBlock:=λhh=>by have:=(l1.out.lt PB hh.symm).2;omega
   have t2:Hid (∀W V,Xz w9 v8 W V->∀o,W.cell? (Aq PB o)=#[Value.pointer (some (Aq N 2)),.pointer (some (Aq N 3)),.pointer (some (Aq N 4))][o]?):=λW V hst o=>(hst.cell (by omega) G0).trans (cell_of_row _ _ _ _ _ _ j0);rw[<-T0];clear S0 j0 a0 G0 l1 R0 L1 T0 q2
   go_wp2_with fail
   go_loopw [4,44] (λv i wz=>∃(m:Nat) (zs:List UInt8),m<=Vx k/\i=Iq m/\zs=ys7++(Fl.coded lev++Fl.codedAll ([nd.a,nd.b,nd.c].take m))/\wz.ownsRow (TB+1) 5 1 v zs.length (zs.map Xx)/\Xz w9 v8 wz v) (λ_ i _=>Vx k - (intOf i).toNat)
   case atStart=>exact⟨0,ys7++Fl.coded lev,by omega,rfl,by simp[Fl.codedAll],M1.out,Xz.refl _ _⟩
   case round=>
    clear M1;obtain⟨m,zs,hm,rfl,m1,d0,b0⟩:=hrel;have n1:=Zz m1;have o1:=Zz d0;have u2:=Zz b0;have I2:zs.length<=41060:=by
     have h1:=Fl.coded_len lev;have h2:=Fl.codedAll_len ([nd.a,nd.b,nd.c].take m);have h3:([nd.a,nd.b,nd.c].take m).length<=3:=(by simp;omega);rw[m1];simp only[List.length_append];omega
    have U0:=s2.out.trans b0;have k0:=F0.out _ _ U0;have J2:N<wr.heap.size:=k0.2.2.2.1;have l0:TB+1<=wr.heap.size:=(by omega);clear m1 d0
    by_cases v2:m<Vx k
    ·have K2:m<3:=by omega
     have p1:wr.cell? (Aq PB m)=some (.pointer (some (Aq N (2+m)))):=by
      rw[t2.out _ _ b0 m]
      have:m=0\/m=1\/m=2:=by omega
      rcases this with rfl|rfl|rfl<;>rfl
     have p2:wr.cell? (Aq N (2+m))=some (Iq ([nd.a,nd.b,nd.c].getD m 0)):=by
      rw[k0.1 (2+m)]
      have:m=0\/m=1\/m=2:=by omega
      rcases this with rfl|rfl|rfl<;>rfl
     have H0:Fl.inR ([nd.a,nd.b,nd.c].getD m 0)=true:=by
      obtain⟨_,_,ha,hb,hc,_⟩:=O0.out
      have:m=0\/m=1\/m=2:=by omega
      rcases this with rfl|rfl|rfl<;>assumption
     have I0:=Fl.inR_nat H0;obtain⟨x,hx⟩:∃x:Nat,(x:Int)=[nd.a,nd.b,nd.c].getD m 0:=⟨([nd.a,nd.b,nd.c].getD m 0).toNat,by omega⟩;rw[<-hx]at p2;have r1:x<2147483648:=(by omega);have HX:=Zz hx;have x2:(m:Int)<(Vx k:Int):=(by omega)
     have N1:Hid (Cq 147 #[u4,Iq x] wr λe w'=>∃v',e=.returned v'/\w'.ownsRow (TB+1) 5 1 v' (zs++Fl.coded x).length ((zs++Fl.coded x).map Xx)/\Below (TB+1) wr w'/\Xz wr u4 w' v'):=
      Jn x r1 (TB+1) zs u4 wr (.inl o1.out) (by omega) l0
     clear H0 I0 hx k0 U0 b0
     go_wp2_with fail
     refine(N1.out).mono ?_;rintro e w10 ⟨v10,rfl,e0,_,g0⟩;have s0:=Zz e0;have s1:Hid (Xz w9 v8 w10 v10):=u2.out.trans g0;clear e0 g0 p1 p2 N1;go_wp2;refine⟨⟨m+1,zs++Fl.coded x,by omega,by go_num,?_,s0.out,s1.out⟩,by simp[intOf];omega⟩;rw[Fl.take_snocI _ m (by simp;omega),<-HX.out,Fl.codedAll_snoc,n1.out];simp[List.append_assoc]
    have O1:m=Vx k:=(by omega);have hR:=k0.2.1 k h8;have e2:wr.cell? (Aq TB (k*4+2))=some (.bool (k==7)):=(by have:=hR.2.1;simpa using this);have e5:wr.cell? (Aq N 5)=some (.slice lao nd.list.length lcap):=k0.1 5;have V0:=Zz k0.2.2.1;have x2:¬(m:Int)<(Vx k:Int):=(by omega)
    by_cases h7:k=7
    ·subst h7
     have L2:Bq w wr:=X0.out.trans (V0.out.mono (by omega));have J0:Hid (Cq 146 #[u4,.slice lao nd.list.length lcap] wr λe w'=>∃v',e=.returned v'/\w'.ownsRow (TB+1) 5 1 v' (zs++(Fl.coded nd.list.length++Fl.codedAll nd.list)).length ((zs++(Fl.coded nd.list.length++Fl.codedAll nd.list)).map Xx)/\Below (TB+1) wr w'/\Xz wr u4 w' v'):=by
      obtain⟨_,_,_,_,_,y2,K0⟩:=O0.out;refine zr5 nd.list K0 (by omega) B (TB+1) (by omega) _ zs u4 wr (i2.out wr V0.out) (.inl o1.out) (by omega) l0
     have t1:((7:Nat)==7)=true:=rfl;rw[t1]at e2;clear k0 U0 b0 hR
     go_wp2_with fail
     refine(J0.out).mono ?_;rintro e w10 ⟨v10,rfl,e0,L0,g0⟩;have s0:=Zz e0;have u1:Hid (Below (TB+1) W4 w10):=V0.out.trans L0;clear e0 L0 g0 e2 e5 J0;go_wp2;refine⟨⟨j+1,zs++(Fl.coded nd.list.length++Fl.codedAll nd.list),by omega,by go_num,?_,s0.out,u1.out⟩,by simp[intOf];omega⟩;rw[Fl.take_snocN ns j v0,Fl.allBytes_snoc,<-F1.out,zhy HK.out G1.out,n1.out,H1.out,b1.out,O1];simp[Fl.codedAll,Vx,List.append_assoc]
    have t1:(k==7)=false:=(by simpa using h7);rw[t1]at e2;have t0:Hid (zs=Fl.headBytes ls ns++Fl.allBytes (ns.take (j+1))):=by
     show zs=_;rw[Fl.take_snocN ns j v0,Fl.allBytes_snoc,<-F1.out,zd2 HK.out h8 h7 G1.out,n1.out,H1.out,b1.out,O1];simp[List.append_assoc]
    clear k0 U0 b0 hR;go_wp2;exact⟨⟨j+1,zs,by omega,by go_num,t0.out,o1.out,V0.out⟩,by simp[intOf];omega⟩
  have M2:j=ns.length:=(by omega);have t0:Hid (xs=Fl.headBytes ls ns++Fl.allBytes ns):=by
   show xs=_;rw[b1.out,List.take_of_length_le (by omega)]
  go_wp2;go_ret;refine⟨u4,rfl,?_,X0.out.trans (p0.out.mono (by omega))⟩;rw[<-t0.out];exact zlx A0.out (by omega)
def yw6(r:List UInt8×Bool×Int)(w:World)(e:Ending)(w':World):Prop:=
 Bq w w'/\
 (r.2.1=true->∃va n c,e=.returned (.tuple #[.slice va n c,.nilIface])/\w'.ownsRow w.heap.size 5 1 (.slice va n c) r.1.length (r.1.map Xx))/\
 (r.2.1=false->(r.2.2<0->e=.returned (.tuple #[Zq,.iface 23 (Iq 8)]))/\(0<=r.2.2->∃q,e=.returned (.tuple #[Zq,.iface 145 (Pq q)])/\w'.cell? (Aq q 0)=some (Iq 8)/\w'.cell? (Aq q 1)=some (Iq r.2.2)))
def za6(h:(decide (ls.length<=4) && (ls.all Fl.inR && (decide (1<=ns.length) && decide (ns.length<=200))))=false):Fl.encode ls ns=([],false,-1):=by
 unfold Fl.encode
 by_cases h1:4<ls.length\/ns.length=0\/200<ns.length
 ·rw[if_pos h1]
 rw[if_neg h1];have ha:ls.all Fl.inR=false:=by
  have e1:decide (ls.length<=4)=true:=(by simp;omega);have e2:decide (1<=ns.length)=true:=(by simp;omega);have e3:decide (ns.length<=200)=true:=(by simp;omega);rw[e1,e2,e3]at h;simpa using h
 rw[if_pos ha]
def ys8(h:(decide (ls.length<=4) && (ls.all Fl.inR && (decide (1<=ns.length) && decide (ns.length<=200))))=true):ls.length<=4/\ls.all Fl.inR=true/\1<=ns.length/\ns.length<=200/\Fl.encode ls ns=if 0<=Fl.shaped ns then([],false,Fl.shaped ns) else(Fl.headBytes ls ns++Fl.allBytes ns,true,-1):=by
 simp only[Bool.and_eq_true,decide_eq_true_eq]at h;refine⟨h.1,h.2.1,h.2.2.1,h.2.2.2,?_⟩;unfold Fl.encode;rw[if_neg (by omega),if_neg (by rw[h.2.1];simp)]
def yyw(ls:List Int)(ns:List Fl.Node)(la na:Option Addr)(lc nc:Nat)(w:World)(hl:Zw w.heap.size w (.slice la ls.length lc) ls)(hn:Yu w.heap.size w (.slice na ns.length nc) ns):
  Cq 71 #[.agg #[.slice la ls.length lc,.slice na ns.length nc]] w (yw6 (Fl.encode ls ns) w):=by
 have HL:=Zz hl;have HN:=Zz hn;clear hl hn
 go_enter func71,ntmps71
 go_wp2_with fail
 obtain⟨W1,e0⟩:=nmE (w.alloc (.cells #[.slice la ls.length lc,.slice na ns.length nc] 30));rw[<-e0]
 have l0:Bq w W1:=by rw[e0];exact bA
 have J0:W1.heap.size=w.heap.size+1:=by rw[e0];simp
 have hp:∀i,W1.cell? (Aq w.heap.size i)=#[Value.slice la ls.length lc,.slice na ns.length nc][i]?:=λi=>by rw[e0];exact World.cell?_alloc_new _ _ _ _
 have HP:=Zz hp;have F0:=Zz l0
 have x0:Hid (Cq 99 #[.agg #[.slice la ls.length lc,.slice na ns.length nc]] W1 λe w'=>e=.returned (.bool (decide (ls.length<=4) && (ls.all Fl.inR && (decide (1<=ns.length) && decide (ns.length<=200)))))/\Bq W1 w'):=
  za5 ls ns la na lc nc w.heap.size W1 (HL.out.below l0) (HN.out.below l0) (by omega)
 clear e0 l0 hp;refine(x0.out).mono ?_;rintro e w2 ⟨rfl,f0⟩;have y0:=Zz f0;have a0:Hid (Bq w w2):=F0.out.trans (f0.mono (by omega));have p0:w2.cell? (Aq w.heap.size 0)=some (.slice la ls.length lc):=(f0.cell (p:=(Aq w.heap.size 0)) (by simp only;omega)).trans (HP.out 0);have p1:w2.cell? (Aq w.heap.size 1)=some (.slice na ns.length nc):=(f0.cell (p:=(Aq w.heap.size 1)) (by simp only;omega)).trans (HP.out 1);clear f0 x0
 cases c0:(decide (ls.length<=4) && (ls.all Fl.inR && (decide (1<=ns.length) && decide (ns.length<=200)))) with
 |false=>
  have HE:Hid (Fl.encode ls ns=([],false,-1)):=za6 c0;clear c0;go_wp2
  go_ret2
  refine⟨a0.out,λh=>?_,λ_=>⟨λ_=>rfl,λh=>?_⟩⟩
  ·rw[HE.out]at h;cases h
  rw[HE.out]at h;simp at h
 |true=>
  obtain⟨h4,hall,h1,m0,g0⟩:=ys8 c0;have HE:=Zz g0;have HA:=Zz hall;have z0:Hid (Cq 100 #[.slice na ns.length nc] w2 λe w'=>e=.returned (Iq (Fl.firstBad ns))/\Bq w2 w'):=zhz ns _ w2 ((HN.out.below a0.out).mono a0.out.size) (by omega);have A0:=Fl.firstBad_lt ns;clear c0 g0 hall
  go_wp2_with fail
  refine(z0.out).mono ?_;rintro e w3 ⟨rfl,h0⟩;have i0:Hid (Bq w w3):=a0.out.trans (h0.mono a0.out.size);have n0:w.heap.size<w2.heap.size:=(by have:=y0.out.size;omega);have r0:w3.cell? (Aq w.heap.size 0)=some (.slice la ls.length lc):=(h0.cell (p:=(Aq w.heap.size 0)) n0).trans p0;have r1:w3.cell? (Aq w.heap.size 1)=some (.slice na ns.length nc):=(h0.cell (p:=(Aq w.heap.size 1)) n0).trans p1;have o0:w.heap.size<w3.heap.size:=Qj n0 h0.size;clear h0 z0 p0 p1 y0 a0
  by_cases d0:0<=Fl.firstBad ns
  ·have b0:Hid (Fl.encode ls ns=([],false,Fl.firstBad ns)):=by
    show Fl.encode ls ns=_;rw[HE.out,Fl.shaped_bad ns d0,if_pos d0]
   obtain⟨x,hx⟩:=nmE (Fl.firstBad ns);rw[<-hx]at d0 A0 b0⊢;clear hx;have hb':¬x<0:=(by omega);go_wp2
   go_ret2
   refine⟨i0.out.alloc (by omega) _,λh=>?_,λ_=>⟨λh=>?_,λ_=>⟨w3.heap.size,rfl,by simp,?_⟩⟩⟩
   ·rw[b0.out]at h;cases h
   ·rw[b0.out]at h;simp only at h;omega
   rw[b0.out];simp
  have q0:Fl.firstBad ns<0:=(by omega);have hgood:=Fl.allGood_bad ns q0;have t0:Hid (Fl.shaped ns=Fl.firstUn ns):=Fl.shaped_un ns q0
  have B0:Hid (Cq 101 #[.slice na ns.length nc] w3 λe w'=>e=.returned (Iq (Fl.firstUn ns))/\Bq w3 w'):=
   zj5 ns _ w3 ((HN.out.below i0.out).mono i0.out.size) (by omega) (λi hi=>(Fl.sound_fits (hgood i hi).1).2) (λi hi p hp=>by have:=Fl.good_lt (hgood i hi) hp;omega)
  have G0:Hid (∀k,k<ns.length->Fl.sound (Fl.nth ns k)=true):=λk hk=>(hgood k hk).1;obtain⟨x,hx⟩:=nmE (Fl.firstBad ns);rw[<-hx]at q0 A0⊢;clear hgood d0 hx
  go_wp2_with fail
  refine(B0.out).mono ?_;rintro e w4 ⟨rfl,j0⟩;have k0:Hid (Bq w w4):=i0.out.trans (j0.mono i0.out.size);have s0:w4.cell? (Aq w.heap.size 0)=some (.slice la ls.length lc):=(j0.cell (p:=(Aq w.heap.size 0)) o0).trans r0;have s1:w4.cell? (Aq w.heap.size 1)=some (.slice na ns.length nc):=(j0.cell (p:=(Aq w.heap.size 1)) o0).trans r1;have K0:w.heap.size<w4.heap.size:=Qj o0 j0.size;clear j0 B0 r0 r1;obtain⟨y,hy⟩:=nmE (Fl.firstUn ns);rw[<-hy]at t0⊢;clear hy
  by_cases C0:0<=y
  ·have b0:Hid (Fl.encode ls ns=([],false,y)):=by
    show Fl.encode ls ns=_;rw[HE.out,t0.out,if_pos C0]
   go_wp2
   go_ret2
   refine⟨k0.out.alloc (by omega) _,λh=>?_,λ_=>⟨λh=>?_,λ_=>⟨w4.heap.size,rfl,by simp,?_⟩⟩⟩
   ·rw[b0.out]at h;cases h
   ·rw[b0.out]at h;simp only at h;omega
   rw[b0.out];simp
  have b0:Hid (Fl.encode ls ns=(Fl.headBytes ls ns++Fl.allBytes ns,true,-1)):=by
   show Fl.encode ls ns=_;rw[HE.out,t0.out,if_neg C0]
  have u0:Hid (Cq 102 #[.agg #[.slice la ls.length lc,.slice na ns.length nc]] w4 λe w'=>∃v',e=.returned v'/\w'.ownsRow w4.heap.size 5 1 v' (Fl.headBytes ls ns++Fl.allBytes ns).length ((Fl.headBytes ls ns++Fl.allBytes ns).map Xx)/\Bq w4 w'):=
   yo6 ls ns la na lc nc w.heap.size w4 (by omega) (HL.out.below k0.out) (HN.out.below k0.out) h4 HA.out m0 G0.out
  obtain⟨bl,D0⟩:=nmE (Fl.headBytes ls ns++Fl.allBytes ns);rw[<-D0]at b0 u0;clear D0
  go_wp2_with fail
  refine(u0.out).mono ?_;rintro e w5 ⟨v',rfl,v0,E0⟩;obtain⟨va,vc,rfl⟩:=yv9 v0;have H0:=Zz v0;have I0:Hid (Bq w w5):=k0.out.trans (E0.mono k0.out.size);clear v0 E0 u0 s0 s1;go_wp2
  go_ret2
  refine⟨I0.out,λ_=>⟨_,_,_,rfl,?_⟩,λh=>?_⟩
  ·rw[b0.out];exact zlx (base:=w4.heap.size) H0.out (by omega)
  rw[b0.out]at h;cases h
def ys9(ls:List Int)(ns:List Fl.Node)(h:(Fl.encode ls ns).2.2<0):(Fl.encode ls ns).2.2= -1:=by
 unfold Fl.encode at*
 split at h
 ·rename_i hc;rw[if_pos hc]
 rename_i hc;rw[if_neg hc]
 split at h
 ·rename_i hd;rw[if_pos hd]
 rename_i hd;rw[if_neg hd]
 split at h
 ·rename_i he;simp only at h;omega
 rename_i he;rw[if_neg he]
end Go.Proofs.YtjekbnmnjeoagaaGreatDoor
