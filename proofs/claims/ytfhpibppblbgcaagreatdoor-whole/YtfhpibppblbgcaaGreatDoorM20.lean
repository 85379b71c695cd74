import Derived.Test.YtfhpibppblbgcaaGreatDoorM19
set_option linter.all false
set_option maxRecDepth 100000
set_option maxHeartbeats 40000000
namespace Go.Proofs.YtfhpibppblbgcaaGreatDoor
open Go.RowKit Go.Proofs.Tryz
variable{w w1 w2:World}{v v1:Value}{n tb nb no k x p:Nat}{a s r:List UInt8}
def Xq(w:World)(v:Value)(w':World)(v':Value):Prop:=w.grownBy w' v.ownBlock/\(v'.ownBlock=v.ownBlock\/∃b,v'.ownBlock=some b/\w.heap.size<=b)
def Xq.refl(w:World)(v:Value):Xq w v w v:=⟨⟨rfl,rfl,rfl,Nat.le_refl _,λ_ _ _=>rfl⟩,.inl rfl⟩
def Xq.trans{w w1 w2:World}{v v1 v2:Value}(h:Xq w v w1 v1)(k:Xq w1 v1 w2 v2):Xq w v w2 v2:=by
 refine⟨⟨k.1.os.trans h.1.os,k.1.tape.trans h.1.tape,k.1.output.trans h.1.output,Nat.le_trans h.1.size k.1.size,λg hg b0=>?_⟩,?_⟩
 ·refine(k.1.block g (Qj hg h.1.size) (λhh=>?_)).trans (h.1.block g hg b0)
  rcases h.2 with h2|⟨b,hb,a0⟩
  ·rw[h2]at hh;exact b0 hh
  rw[hb]at hh;simp only[Option.some.injEq]at hh;omega
 rcases k.2 with k2|⟨b,hb,a0⟩
 ·rcases h.2 with h2|⟨b,hb,a0⟩
  ·exact .inl (k2.trans h2)
  exact .inr ⟨b,k2.trans hb,a0⟩
 exact .inr ⟨b,hb,Nat.le_trans h.1.size a0⟩
def Xq.below(h:Xq w v w1 v1)(hb:Bq w1 w2):Xq w v w2 v1:=
 h.trans ⟨⟨hb.os,hb.tape,hb.output,hb.size,λk hk _=>hb.block k hk⟩,.inl rfl⟩
def Xq.alloc{w w1:World}{v v1:Value}(h:Xq w v w1 v1)(o:Obj):Xq w v (w1.alloc o) v1:=h.below (bA)
def Xq.append{v2:Value}(h:Xq w v w1 v1)(hg:w1.grownBy w2 v1.ownBlock)(hw:v2.ownBlock=v1.ownBlock\/v2.ownBlock=some w1.heap.size):Xq w v w2 v2:=
 h.trans ⟨hg,hw.imp id (λhh=>⟨_,hh,Nat.le_refl _⟩)⟩
def Xq.cell{w w':World}{v v':Value}(h:Xq w v w' v'){b o:Nat}(a0:b<w.heap.size)(b0:some b≠v.ownBlock):w'.cell? (Aq b o)=w.cell? (Aq b o):=Qc (w:=w) (h.1.block b a0 b0)
def Jz(w:World)(base:Nat)(v:Value)(n:Nat)(xs:List Value):Prop:=
 w.ownsRow base 5 1 v n xs\/∃g,base<=g/\g<w.heap.size/\v=.slice (some (Aq g 0)) n n/\xs.length=n/\∀j u,xs[j]?=some u->w.cell? (((Aq g 0):Addr).add j)=some u
def Jz.lt{w:World}{base:Nat}{v:Value}{n:Nat}{xs:List Value}(h:Jz w base v n xs):∀k,v.ownBlock=some k->base<=k/\k<w.heap.size:=by
 rcases h with h|⟨g,h1,h2,rfl,_⟩
 ·exact h.lt
 intro k hk;simp only[Value.ownBlock,Option.some.injEq]at hk;subst hk;exact⟨h1,h2⟩
def Jz.below{w':World}{base:Nat}{xs:List Value}(h:Jz w base v n xs)(hb:Bq w w'):Jz w' base v n xs:=by
 rcases h with h|⟨g,h1,h2,h3,h4,h5⟩
 ·exact .inl (h.kept (row:=none) ⟨hb.os,hb.tape,hb.output,hb.size,λk hk _=>hb.block k hk⟩ (by cases v.ownBlock<;>simp))
 refine .inr ⟨g,h1,Qj h2 hb.size,h3,h4,λj u hj=>?_⟩;have:=h5 j u hj
 have h6:(((Aq g 0):Addr).add j).block=g:=by unfold Addr.add;split<;>rfl
 rw[hb.cell (by rw[h6];exact h2)];exact this
def Jz.alloc{w:World}{base:Nat}{v:Value}{n:Nat}{xs:List Value}(h:Jz w base v n xs)(o:Obj):Jz (w.alloc o) base v n xs:=h.below (bA)
section
variable{P:Program}(w:World)
def yw0(base:Nat)(t ty:TypeId)(i:TypeInfo)(z:Value)(ht:P.underlying t=some (.slice 5))(hi:P.info? 5=some i)(hz:i.zero=some z)
  (a0:i.size=1) (j0:i.bytes=1) (k0:z.cells.size=1)
  (v:Value) (n:Nat) (xs:List Value) (e0:Jz w base v n xs)
  (a:Addr) (m c:Nat) (news:List Value) (hl:news.length=m*1) (c0:∀j u,news[j]?=some u->w.cell? (a.add j)=some u) (h1:∀u∈news,u.oneCell'=true)
  (g0:n+m<=maxLen) (b0:(n+m)*1<=140737488355328) (d0:base<=w.heap.size) (hm:0<m):
  ∃v' w',(Builtin.append_ #[t,t] ty #[v,.slice (some a) m c]).run P w=.ok v' w'/\w'.ownsRow base 5 1 v' (n+m) (xs++news)/\w.grownBy w' v.ownBlock/\(v'.ownBlock=v.ownBlock\/v'.ownBlock=some w.heap.size):=by
 rcases e0 with e0|⟨g,m0,n0,rfl,h0,f0⟩
 ·exact zn9 (P:=P) w base t ty 5 i z 1 1 ht hi hz a0 j0 k0 (by decide) v n xs e0 a m c news hl c0 h1 g0 b0 d0 hm
 have h63':((n+m:Nat):Int)<=9223372036854775807:=by unfold maxLen at g0;omega
 have hr:=run_append_grow (P:=P) w t ty 5 i z ht hi hz (Aq g 0) n n xs (by rw[a0,h0];omega) f0 a m c news (by rw[a0];exact hl) c0 (by omega) h63' (growslice_fits (by omega) (by rw[j0];exact b0));have l0:=grownCap_ge w (n+m) n 5;have i0:grownCap w (n+m) n 5<=maxLen:=grownCap_le_maxLen w (n+m) n 5 g0
 have bj:(xs++news).length=(n+m)*1:=by rw[List.length_append,h0,hl];omega
 refine⟨_,_,hr,⟨bj,.inr ⟨w.heap.size,_,_,rfl,d0,heap_alloc_new w.drew _,l0,i0,?_,?_⟩⟩,⟨rfl,rfl,rfl,by simp,λk hk _=>heap_alloc_old w.drew _ (by exact hk)⟩,.inr rfl⟩
 ·simp only[Array.size_append,List.size_toArray,size_zeroCells,k0,h0,hl];omega
 simp only[Array.toList_append,List.append_assoc];rw[<-List.append_assoc,<-bj];exact List.take_left
def zzy{ops:Array Oper}{rest:List Oper}{o:Oper}{a:Act}{Q:Exit->Act->World->Prop}(f0:o.guard=none)(s x:Operand)(t:TypeId)
  (ho:o.op=.call {callee:=.builtin .append,args:=#[s,x],argTypes:=#[t,t]})
  (base:Nat) (i:TypeInfo) (z:Value) (ht:P.underlying t=some (.slice 5)) (hi:P.info? 5=some i) (hz:i.zero=some z)
  (b0:i.size=1) (g0:i.bytes=1) (h0:z.cells.size=1)
  (v:Value) (n:Nat) (xs:List Value) (hs:a.eval s=v) (e0:Jz w base v n xs)
  (ad:Addr) (m c:Nat) (news:List Value) (hx:a.eval x=.slice (some ad) m c) (hl:news.length=m*1) (hm:0<m) (c0:∀j u,news[j]?=some u->w.cell? (ad.add j)=some u) (h1:∀u∈news,u.oneCell'=true)
  (i0:n+m<=maxLen) (a0:(n+m)*1<=140737488355328) (d0:base<=w.heap.size)
  (h:∀v' w',w'.ownsRow base 5 1 v' (n+m) (xs++news)->w.grownBy w' v.ownBlock->(v'.ownBlock=v.ownBlock\/v'.ownBlock=some w.heap.size)->wpList P ops Q rest (a.put o.dst v') w'):wpList P ops Q (o::rest) a w:=
 wpList_plain f0 λ_ hK=>by
  obtain⟨v',w',hr,h2,h3,h4⟩:=yw0 (P:=P) w base t o.type i z ht hi hz b0 g0 h0 v n xs e0 ad m c news hl c0 h1 i0 a0 d0 hm;have j0:=hK _ _ (h v' w' h2 h3 h4);unfold Oper.wp execOp;simp only[ho,resolve,invoke,builtin,Sem.run_bind,Sem.run_pure,Result.andThen_ok,List.map_toArray,List.map_cons,List.map_nil,hs,hx,hr];exact j0
end
def Tryz.infoByte:(Tryz.prog.info? 5).map (λi=>(i.zero,i.size,i.bytes))=some (some (.int .u8 0),1,1):=by kernel_rfl
def Xm(u:UInt8):Value:=.int .u8 (u.toNat:Int)
def or128:∀x,x<256->x|||128=x % 128+128:=by decide
def yo3(x:Nat)(hx:x<256):bits .or .u8 (x:Int) 128=((x % 128+128:Nat):Int):=by
 have:=u8_or_nat x 128 hx (by omega);rw[or128 x hx]at this;simpa using this
def Je(n:Nat)(hn:n<2147483648)(base:Nat)(bs:List UInt8)(v:Value)(w:World)(c0:Jz w base v bs.length (bs.map Xm))(bj:bs.length<=1000000)(o0:base<=w.heap.size):
  Cq 76 #[v,Iq n] w λe w'=>∃v',e=.returned v'/\w'.ownsRow base 5 1 v' (bs++Fl.aP n).length ((bs++Fl.aP n).map Xm)/\Below base w w'/\Xq w v w' v':=by
 obtain⟨i0,hi,p0,q0,r0⟩:=info_parts Tryz.infoByte;have y0:=Zz c0;clear c0
 go_enter func76,ntmps76
 go_wp2_with fail
 go_loopw [0,1] (λvv i wr=>∃(f k:Nat) (xs:List UInt8),f<=9/\k<128 ^ f/\k<2147483648/\i=Iq k/\bs++Fl.aP n=xs++Fl.cS f k/\xs.length+f<=bs.length+9/\Jz wr base vv xs.length (xs.map Xm)/\Below base w wr/\Xq w v wr vv) (λ_ i _=>(intOf i).toNat)
 case atStart=>exact⟨9,n,bs,by omega,by omega,hn,rfl,rfl,by omega,y0,Below.refl _ _,Xq.refl _ _⟩
 case round=>
  obtain⟨f,k,xs,hf,s0,hk,rfl,d0,A0,c0,e0,f0⟩:=hrel;have t0:=Zz f0;have u0:=Zz d0;have HB:=Zz e0;have v0:=Zz s0;have HO:=Zz c0;clear d0 e0 s0 c0 f0
  by_cases B0:128<=k
  ·have hge':(128:Int)<=(k:Int):=by omega
   have x0:=yo3 (k % 256) (by omega)
   go_wp2_with (at_builtin;refine zzy _ rfl _ _ 26 rfl base i0 (.int .u8 0) underlying26 hi p0 q0 r0 rfl _ _ _ rfl (HO.alloc _) (Aq _ 0) 1 1 [.int .u8 (bits .or .u8 ((k:Int) % 256) 128)] rfl rfl (by decide) zy7 ?c2 ?c3 ?c4 ?c5 ?_)
   case c2=>intro u hu;simp at hu;subst hu;rfl
   case c3=>unfold maxLen;omega
   case c4=>omega
   case c5=>have:=HB.size;simp;omega
   intro v' w2 hown' a0 b0;have k0:Hid (Xq w v w2 v'):=(t0.alloc _).append a0 (by simp only[World.size_alloc]at b0⊢;exact b0)
   have g0:Below base w w2:=HB.trans ⟨a0.os,a0.tape,a0.output,Nat.le_trans (by simp) a0.size,λg hg=>by
    have cF:=HB.size;refine(a0.block g (by simp;omega) (λhh=>?_)).trans (Below.heap_alloc _ _ _ (by omega))
    have:=(HO.lt g hh.symm).1;omega⟩
   have l0:=Zz g0
   obtain⟨f',rfl⟩:∃f',f=f'+1:=⟨f - 1,by
    cases f with
    |zero=>have:=v0.out;simp at this;omega
    |succ g=>omega⟩
   have h0:(.int .u8 (bits .or .u8 ((k:Int) % 256) 128):Value)=Xm (UInt8.ofNat (k % 128+128)):=by
    have h1:((k:Int) % 256)=((k % 256:Nat):Int):=(by omega);rw[h1,x0];have h2:(UInt8.ofNat (k % 128+128)).toNat=k % 128+128:=(by simp;omega);unfold Xm;rw[h2]
    congr 1;omega
   have j0:w2.ownsRow base 5 1 v' (xs++[UInt8.ofNat (k % 128+128)]).length ((xs++[UInt8.ofNat (k % 128+128)]).map Xm):=(by rw[h0]at hown';simpa using hown');have m0:=Zz j0;have n0:Hid (bs++Fl.aP n=(xs++[UInt8.ofNat (k % 128+128)])++Fl.cS f' (k / 128)):=by
    show bs++Fl.aP n=_;rw[u0.out];simp[Fl.cS,show ¬k<128 by omega]
   have z0:Hid (k / 128<128 ^ f'):=by
    have:=v0.out;rw[Nat.pow_succ]at this;exact Nat.div_lt_of_lt_mul (by rw[Nat.mul_comm];exact this)
   clear hown' a0 b0 g0 h0 j0 x0;go_wp2;exact⟨⟨f',k / 128,xs++[UInt8.ofNat (k % 128+128)],by omega,z0,by omega,by go_num,n0,by simp;omega,.inl m0,l0,k0⟩,by simp[intOf];omega⟩
  have hge':(k:Int)<128:=(by omega);have hc:Fl.cS f k=[UInt8.ofNat k]:=by
   cases f with
   |zero=>rfl
   |succ g=>simp[Fl.cS,show k<128 by omega]
  have HC:=Zz hc;clear hc
  go_wp2_with (at_builtin;refine zzy _ rfl _ _ 26 rfl base i0 (.int .u8 0) underlying26 hi p0 q0 r0 rfl _ _ _ rfl (HO.alloc _) (Aq _ 0) 1 1 [.int .u8 (k:Int)] rfl rfl (by decide) zy7 ?d2 ?d3 ?d4 ?d5 ?_)
  case d2=>intro u hu;simp at hu;subst hu;rfl
  case d3=>unfold maxLen;omega
  case d4=>omega
  case d5=>have:=HB.size;simp;omega
  intro v' w2 hown' a0 b0;have k0:Hid (Xq w v w2 v'):=(t0.alloc _).append a0 (by simp only[World.size_alloc]at b0⊢;exact b0)
  have g0:Below base w w2:=HB.trans ⟨a0.os,a0.tape,a0.output,Nat.le_trans (by simp) a0.size,λg hg=>by
   have cF:=HB.size;refine(a0.block g (by simp;omega) (λhh=>?_)).trans (Below.heap_alloc _ _ _ (by omega))
   have:=(HO.lt g hh.symm).1;omega⟩
  have l0:=Zz g0;have h0:(.int .u8 (k:Int):Value)=Xm (UInt8.ofNat k):=by
   have h2:(UInt8.ofNat k).toNat=k:=(by simp;omega);unfold Xm;rw[h2]
  have j0:w2.ownsRow base 5 1 v' (bs++Fl.aP n).length ((bs++Fl.aP n).map Xm):=by
   rw[h0]at hown';rw[u0.out,HC.out];simpa using hown'
  have m0:=Zz j0;clear hown' a0 b0 g0 h0 j0;go_wp2;go_ret;exact⟨v',rfl,m0,l0,k0⟩
def zp1(l:List Int)(hl:l.all Fl.cq=true)(G0:l.length<=200)(B base:Nat)(y0:B<=base)(lv:Value)(bs:List UInt8)(v:Value)(w:World)(hi:Zv B w lv l)(a0:Jz w base v bs.length (bs.map Xm))(bj:bs.length<=900000)(b0:base<=w.heap.size):
  Cq 75 #[v,lv] w λe w'=>∃v',e=.returned v'/\w'.ownsRow base 5 1 v' (bs++(Fl.aP l.length++Fl.aW l)).length ((bs++(Fl.aP l.length++Fl.aW l)).map Xm)/\Below base w w'/\Xq w v w' v':=by
 have HA:Hid (∀(k:Nat) (ys:List UInt8) (u:Value) (W:World),k<2147483648->Jz W base u ys.length (ys.map Xm)->ys.length<=1000000->base<=W.heap.size->Cq 76 #[u,Iq k] W λe w'=>∃v',e=.returned v'/\w'.ownsRow base 5 1 v' (ys++Fl.aP k).length ((ys++Fl.aP k).map Xm)/\Below base W w'/\Xq W u w' v'):=λk ys u W h1 h2 h3 h4=>Je k h1 base ys u W h2 h3 h4;obtain⟨ao,cap,rfl,_,hm,_⟩:=id hi;have HI:=Zz hi;have HL:=Zz hl;have HO:=Zz a0;clear hi hl a0 hm
 go_enter func75,ntmps75
 go_wp2_with (go_at_call 76;refine(HA l.length bs v w (by omega) HO (by omega) b0).mono ?_;rintro e w1 ⟨v1,rfl,i0,j0,k0⟩)
 have l0:=Zz i0;have m0:=Zz j0;have n0:=Zz k0;clear i0 j0 k0
 go_wp2_with fail
 go_loopw [0,13] (λvv i wr=>∃(j:Nat) (xs:List UInt8),j<=l.length/\i=Iq j/\xs=bs++(Fl.aP l.length++Fl.aW (l.take j))/\wr.ownsRow base 5 1 vv xs.length (xs.map Xm)/\Below base w wr/\Xq w v wr vv) (λ_ i _=>l.length - (intOf i).toNat)
 case atStart=>exact⟨0,bs++Fl.aP l.length,by omega,rfl,by simp[Fl.aW],l0,m0,n0⟩
 case round=>
  clear l0 m0 n0;obtain⟨j,xs,hj,rfl,g0,a0,c0,d0⟩:=hrel;have o0:=Zz d0;have p0:=Zz g0;have q0:=Zz a0;have f0:=Zz c0;have z0:xs.length<=1000000:=by
   have h1:=Fl.dY (l.take j);have h2:=Fl.dx l.length;have h3:(l.take j).length<=200:=(by simp;omega);rw[g0];simp only[List.length_append];omega
  clear g0 a0 c0 d0
  by_cases e0:j<l.length
  ·obtain⟨b,off,rfl,H0,A0⟩:=((HI.out).below (f0.mono y0)).at e0
   have B0:(j:Int)<(l.length:Int):=(by omega);have r0:Fl.cq (l.getD j 0)=true:=by
    have:=HL.out;rw[List.all_eq_true]at this;exact this _ (by rw[Qa,Qb e0];exact List.getElem_mem e0)
   simp only[Fl.cq,Bool.and_eq_true,decide_eq_true_eq]at r0;obtain⟨x,hx⟩:∃x:Nat,(x:Int)=l.getD j 0:=⟨(l.getD j 0).toNat,by omega⟩;have h0:x<2147483648:=(by omega);rw[<-hx]at A0;have HX:=Zz hx;have C0:base<=wr.heap.size:=Nat.le_trans b0 f0.size;clear r0 hx
   go_wp2_with (go_at_call 76;refine(HA x xs u0 wr h0 (.inl q0) z0 C0).mono ?_;rintro e w2 ⟨v2,rfl,s0,t0,v0⟩)
   have D0:=Zz s0;have E0:Hid (Below base w w2):=f0.trans t0;have F0:Hid (Xq w v w2 v2):=o0.trans v0;clear s0 t0 v0;go_wp2;refine⟨⟨j+1,xs++Fl.aP x,by omega,by go_num,?_,D0,E0,F0⟩,by simp[intOf];omega⟩;have hg:l.take (j+1)=l.take j++[(x:Int)]:=by
    rw[HX.out,List.take_succ_eq_append_getElem e0,Qa,Qb e0];rfl
   rw[hg,p0.out];simp[Fl.aW]
  have B0:(l.length:Int)<=(j:Int):=(by omega);have x0:j=l.length:=(by omega);have HF:Hid (xs=bs++(Fl.aP l.length++Fl.aW l)):=by
   show xs=_;rw[p0.out,x0,List.take_length]
  clear x0;go_wp2;go_ret;exact⟨u0,rfl,by rw[<-HF.out];exact q0.out,f0,o0⟩
def yw1(ls:List Int)(ns:List Fl.ar)(la na:Option Addr)(lc nc B:Nat)(w:World)(hl:Zv B w (.slice la ls.length lc) ls)(hn:Yv B w (.slice na ns.length nc) ns)(hB:B<=w.heap.size):
  Cq 38 #[.agg #[.slice la ls.length lc,.slice na ns.length nc]] w λe w'=>e=.returned (.bool (decide (ls.length<=4) && (ls.all Fl.cq && (decide (1<=ns.length) && decide (ns.length<=200)))))/\Bq w w':=by
 have HA:Hid (∀W,Below B w W->Cq 70 #[.slice la ls.length lc] W λe w'=>e=.returned (.bool (ls.all Fl.cq))/\Bq W w'):=λW hW=>zvw ls _ B W (hl.below hW);obtain⟨r,hr⟩:=nmE ((decide (ls.length<=4) && (ls.all Fl.cq && (decide (1<=ns.length) && decide (ns.length<=200)))));rw[<-hr];have HR:=Zz hr;clear hl hr hn
 by_cases h4:ls.length<=4
 ·have h4':(ls.length:Int)<=4:=by omega
  go_enter func38,ntmps38
  go_wp2_with fail
  have d0:Below B w (w.alloc (.cells #[.slice la ls.length lc,.slice na ns.length nc] 69)):=(Below.refl _ w).alloc hB _;refine(HA _ d0).mono ?_;rintro e w1 ⟨rfl,b0⟩;have p1:Cl w1 w.heap.size 1 (.slice na ns.length nc):=(b0.cell (p:=(Aq w.heap.size 1)) (by simp)).trans (by simp);have a0:Hid (Bq w w1):=((Below.refl _ w).alloc (Nat.le_refl _) _).trans (b0.mono (by simp));clear b0 d0 HA
  cases ha:ls.all Fl.cq with
  |false=>
   have HS:Hid (r=false):=(by show r=false;rw[HR.out,ha];simp);clear ha;go_wp2;go_ret;exact⟨Zc HS.symm,a0⟩
  |true=>
   have c0:=Zz ha;clear ha
   by_cases h1:1<=ns.length
   ·have h1':(1:Int)<=(ns.length:Int):=by omega
    by_cases h2:ns.length<=200
    ·have h2':(ns.length:Int)<=200:=by omega
     have HS:Hid (r=true):=(by show r=true;rw[HR.out,c0.out];simp[h4,h1,h2]);go_wp2;go_ret;exact⟨Zc HS.symm,a0⟩
    have h2':(200:Int)<(ns.length:Int):=(by omega);have HS:Hid (r=false):=(by show r=false;rw[HR.out,c0.out];simp[h2]);go_wp2;go_ret;exact⟨Zc (by rw[HS.out];simp;omega),a0⟩
   have h1':(ns.length:Int)<1:=(by omega);have HS:Hid (r=false):=(by show r=false;rw[HR.out,c0.out];simp[h1]);go_wp2;go_ret;exact⟨Zc HS.symm,a0⟩
 have h4':(4:Int)<(ls.length:Int):=by omega
 have HS:Hid (r=false):=by show r=false;rw[HR.out];simp[h4]
 go_enter func38,ntmps38
 go_wp2_with fail
 go_ret;exact⟨Zc HS.symm,(Below.refl _ w).alloc (Nat.le_refl _) _⟩
def its_out(tp:Value)(nb no:Nat)(K:Int)(w:World)(c0:w.cell? (Aq nb no)=some (Iq K))(hk:K<0\/8<=K):
  Cq 71 #[tp,.pointer (some (Aq nb no))] w λe w'=>e=.returned (.bool false)/\Bq w w':=by
 by_cases b0:K<0
 ·clear hk
  go_enter func71,ntmps71
  go_wp2_with fail
  refine Xg 29 5 _ 12 _ (by kernel_rfl) (by kernel_rfl) rfl rfl (λops hY a0=>?_);simp only[List.take_succ_cons,List.take_zero,List.drop_succ_cons,List.drop_zero]
  iterate 29 still_step
  refine wpStill_nil ?_
  go_wp2_with fail
  go_ret;exact⟨rfl,dA⟩
 have d0:8<=K:=by omega
 clear hk
 go_enter func71,ntmps71
 go_wp2_with fail
 refine Xg 29 5 _ 12 _ (by kernel_rfl) (by kernel_rfl) rfl rfl (λops hY a0=>?_);simp only[List.take_succ_cons,List.take_zero,List.drop_succ_cons,List.drop_zero]
 iterate 29 still_step
 refine wpStill_nil ?_
 go_wp2_with fail
 go_ret;exact⟨rfl,dA⟩
def its_in{nd:Fl.ar}{lv:Value}(h:Vg w nb no nd lv)(hr:Yb w tb 0)(hk:nd.kind=(k:Int))(h8:k<8):
  Cq 71 #[Pq tb,.pointer (some (Aq nb no))] w λe w'=>e=.returned (.bool (Fl.bG nd))/\Bq w w':=by
 have k0:Hid (Fl.bG nd=((Fl.cq nd.ag && (Fl.cq nd.a && (Fl.cq nd.b && Fl.cq nd.c))) && ((decide (zx6 (Xw k) nd.a nd.b nd.c=0) && ((k==7)||decide (nd.aU=[]))) && (decide (nd.aU.length<=16) && nd.aU.all Fl.cq)))):=yo2 hk h8;have HN:=Zz h;have HR:=Zz hr
 have c0:w.cell? (Aq nb no)=some (Iq (k:Int)):=by rw[<-hk];exact h.c0
 have c1:=h.c1;have c2:=h.c2;have c3:=h.c3;have c4:=h.c4;obtain⟨r,a0⟩:=nmE (Fl.bG nd);rw[<-a0];have l0:=Zz a0
 have h8':(k:Int)<8:=by omega
 have h0':(0:Int)<=(k:Int):=by omega
 have HK:=Zz hk;clear h hr hk a0
 go_enter func71,ntmps71
 go_wp2_with fail
 refine Xg 29 5 _ 12 _ (by kernel_rfl) (by kernel_rfl) rfl rfl (λops hY t0=>?_);simp only[List.take_succ_cons,List.take_zero,List.drop_succ_cons,List.drop_zero]
 iterate 29 still_step
 refine wpStill_nil ?_;clear c0 c1 c2 c3 c4
 go_wp2_with fail
 have m0:Zv (w.heap.size+1) (w.drew.alloc (.cells #[Iq nd.ag,Iq nd.a,Iq nd.b,Iq nd.c] 3)) (.slice (some (Aq w.heap.size 0)) 4 4) [nd.ag,nd.a,nd.b,nd.c]:=Zv.fresh (w:=w.drew) [nd.ag,nd.a,nd.b,nd.c] 3 (by simp[maxLen]) _ (by simp);refine(zvw [nd.ag,nd.a,nd.b,nd.c] _ _ _ m0).mono ?_;clear m0;rintro e w1 ⟨rfl,n0⟩;have i0:Hid (Bq w w1):=(((Below.refl _ w).drew).alloc (Nat.le_refl _) _).trans (n0.mono (by simp[World.size_alloc]));clear n0
 have f0:[nd.ag,nd.a,nd.b,nd.c].all Fl.cq=(Fl.cq nd.ag && (Fl.cq nd.a && (Fl.cq nd.b && Fl.cq nd.c))):=by simp[Bool.and_assoc]
 obtain⟨t,ht⟩:=nmE ([nd.ag,nd.a,nd.b,nd.c].all Fl.cq);rw[<-ht];rw[f0]at ht;clear f0
 cases t with
 |false=>
  have HS:Hid (r=false):=(by show r=false;rw[l0.out,k0.out,<-ht];rfl);clear ht;go_wp2;go_ret;exact⟨Zc HS.symm,i0⟩
 |true=>
  have HS:Hid (r=((decide (zx6 (Xw k) nd.a nd.b nd.c=0) && ((k==7)||decide (nd.aU=[]))) && (decide (nd.aU.length<=16) && nd.aU.all Fl.cq))):=(by show r=_;rw[l0.out,k0.out,<-ht];rfl);have g0:Hid (Bq w w1.drew):=i0.drew;have o0:=HN.below g0.out;have j0:=HR.below g0 k h8;have d0:Cl w1 nb no (Iq (k:Int)):=(i0.cell (p:=(Aq nb no)) (Qe w _ HN.c0)).trans (by rw[HN.c0,HK.out]);have e1:w1.drew.cell? (Aq tb (k*4+1))=some (Iq (Xw k:Nat)):=(by have:=j0.1;simpa using this);have e2:w1.drew.cell? (Aq tb (k*4+2))=some (.bool (k==7)):=(by have:=j0.2.1;simpa using this);have u0:Xw k<=3:=(by unfold Xw;(repeat' split)<;>omega);have HC:Hid (Cq 126 #[.pointer (some (Aq tb (k*4))),.pointer (some (Aq nb no))] w1.drew λe w'=>e=.returned (.bool (decide (zx6 (Xw k) nd.a nd.b nd.c=0) && ((k==7)||decide (nd.aU=[]))))/\Below w1.drew.heap.size w1.drew w'):=yh4 tb (k*4) nb no (Xw k) u0 (k==7) nd lv w1.drew o0 e1 e2;obtain⟨u,hu⟩:=nmE ((decide (zx6 (Xw k) nd.a nd.b nd.c=0) && ((k==7)||decide (nd.aU=[]))));rw[<-hu]at HC HS;clear ht o0 j0 e1 e2 hu;obtain⟨lao,lcap,v0,x0,y0,z0⟩:=id HN.hl;subst v0;unfold maxLen at y0;clear z0 x0
  go_wp2_with fail
  refine Xg 8 9 _ 17 _ (by kernel_rfl) (by kernel_rfl) rfl rfl (λops hY t0=>?_);simp only[List.take_succ_cons,List.take_zero,List.drop_succ_cons,List.drop_zero]
  iterate 8 still_step
  refine wpStill_nil ?_
  go_wp2_with fail
  refine(HC.out).mono ?_;rintro e w2 ⟨rfl,p0⟩;have b0:Hid (Bq w w2):=g0.trans (p0.mono g0.size);have q0:=HN.below b0.out;have f5:=q0.c5;have A0:Hid (∀W,Bq w W->Cq 70 #[.slice lao nd.aU.length lcap] W λe w'=>e=.returned (.bool (nd.aU.all Fl.cq))/\Bq W w'):=λW hW=>zvw nd.aU _ w.heap.size W (HN.hl.below hW);clear p0 q0 HC d0
  cases u with
  |false=>
   have e0:Hid (r=false):=(by show r=false;rw[HS.out];rfl);go_wp2;go_ret;exact⟨Zc e0.symm,b0⟩
  |true=>
   by_cases r0:nd.aU.length<=16
   ·have h16':(nd.aU.length:Int)<=16:=by omega
    have e0:Hid (r=nd.aU.all Fl.cq):=(by show r=_;rw[HS.out];simp[r0])
    go_wp2_with fail
    refine(A0 _ b0).mono ?_;rintro e w3 ⟨rfl,s0⟩;have B0:Hid (Bq w w3):=b0.trans (s0.mono b0.size);clear s0 f5;obtain⟨v,hv⟩:=nmE (nd.aU.all Fl.cq);rw[<-hv]at e0⊢;clear hv;go_wp2;go_ret;exact⟨Zc e0.symm,B0⟩
   have h16':(16:Int)<(nd.aU.length:Int):=(by omega);have e0:Hid (r=false):=(by show r=_;rw[HS.out];simp[r0]);go_wp2;go_ret;exact⟨Zc e0.symm,b0⟩
def its_any{nd:Fl.ar}{lv:Value}(h:Vg w nb no nd lv)(hr:Yb w tb 0):
  Cq 71 #[Pq tb,.pointer (some (Aq nb no))] w λe w'=>e=.returned (.bool (Fl.bG nd))/\Bq w w':=by
 by_cases hk:0<=nd.kind/\nd.kind<8
 ·exact its_in (k:=nd.kind.toNat) h hr (by omega) (by omega)
 rw[yly (by omega)];exact its_out _ nb no nd.kind w h.c0 (by omega)
namespace Fl
def bk(ns:List ar):Int:=match (List.range ns.length).find? (eh ns) with|some k=>(k:Int)|none=> -1
def gO(ns:List ar)(k:Nat):eh ns k=(!bG (nth ns k)||((prem (nth ns k)).any (λp=>decide ((k:Int)<=p))||eX ns k)):=rfl
def kt(ns:List ar)(h:0<=bk ns):bh ns=bk ns:=by
 unfold bk at*;unfold bh
 cases hf:(List.range ns.length).find? (eh ns) with
 |some k=>rfl
 |none=>rw[hf]at h;simp at h
def jO(ns:List ar):bk ns<(ns.length:Int)/\ -1<=bk ns:=by
 unfold bk
 cases hf:(List.range ns.length).find? (eh ns) with
 |some k=>have:=List.mem_of_find?_eq_some hf;simp at this;simp only;omega
 |none=>simp only;omega
def mm(ns:List ar)(h:bk ns<0)(k:Nat)(hk:k<ns.length):eh ns k=false:=by
 unfold bk at h
 cases hf:(List.range ns.length).find? (eh ns) with
 |some j=>rw[hf]at h;simp only at h;omega
 |none=>
  rw[List.find?_eq_none]at hf;have:=hf k (by simpa using hk);simpa using this
def gD(ns:List ar)(h:bk ns<0):fF ns:=λk hk=>by
 have:=mm ns h k hk;rw[gO]at this;simp only[Bool.or_eq_false_iff,Bool.not_eq_false']at this;exact⟨this.1,this.2.1⟩
def lu(ns:List ar)(h:bk ns<0):bh ns=bB ns:=by
 have hd:bK ns= -1:=by
  unfold bK
  rw[dO _ _ (λk hk=>by
   have:=mm ns h k hk;rw[gO]at this;simp only[Bool.or_eq_false_iff,Bool.not_eq_false']at this
   exact this.2.2)]
 rw[gH (gD ns h),hd];simp
end Fl
structure zyz(ns:List Fl.ar)(w wr:World)(TB B T:Nat)(j:Nat)(cA:List Fl.ar):Prop where
 hj:j<=ns.length
 bj:cA.length=j
 dW:∀x,x∈cA ↔ x∈ns.take j
 du:∀t,t<j->Fl.eh ns t=false
 hs:zrw wr T B cA
 hr:Yb wr TB 0
 hb:Bq w wr
 hw:w.heap.size<=TB
 iJ:TB<B
 oN:B<T
 hz:T<wr.heap.size
def zyz.below{ns:List Fl.ar}{w wr w':World}{TB B T:Nat}{j:Nat}{cA:List Fl.ar}(h:zyz ns w wr TB B T j cA)(hb:Bq wr w'):zyz ns w w' TB B T j cA:=
 ⟨h.hj,h.bj,h.dW,h.du,h.hs.kept (row:=none) ⟨hb.os,hb.tape,hb.output,hb.size,λk hk _=>hb.block k hk⟩ (by simp) (by simp),h.hr.below hb,h.hb.trans (hb.mono h.hb.size),h.hw,h.iJ,h.oN,Qj h.hz hb.size⟩
def ze4(ns:List Fl.ar)(nv:Value)(w:World)(hn:Yv w.heap.size w nv ns)(bj:ns.length<=1000):
  Cq 39 #[nv] w λe w'=>e=.returned (Iq (Fl.bk ns))/\Bq w w':=by
 obtain⟨na,nc,rfl,_,hm,_⟩:=id hn;have HN:=Zz hn;clear hn hm
 go_enter func39,ntmps39
 go_wp2_with (first|(go_at_call 46;refine(zr6 _).mono ?_;rintro e w1 ⟨rfl,rfl⟩)|(refine zx9 rfl _ _ 129 rfl _ _ _ Za rfl (by simp) rfl Tryz.infoRules zr5 zp9 ?_))
 have g0:((w.alloc (.cells Za 129)).alloc (.cells Za 129)).heap[w.heap.size+1]?=some (.cells Za 129 (0,0)):=by
  have:=heap_alloc_last (w.alloc (.cells Za 129)) (.cells Za 129)
  rwa [World.size_alloc]at this
 have x0:Bq w ((w.alloc (.cells Za 129)).alloc (.cells Za 129)):=(bA).alloc (by simp) _;refine(yy2 _).mono ?_;rintro e w1 ⟨rfl,q0,l0,y0⟩;simp only[World.size_alloc]at q0 l0 y0⊢
 have h0:Hid (zyz ns w w1 (w.heap.size+1) (w.heap.size+1+1) (w.heap.size+1+1+1) 0 []):=
  ⟨by omega,rfl,by simp,λt ht=>by omega,q0,zj4 ((l0.block _ (by omega)).trans g0),x0.trans (l0.mono (by omega)),by omega,by omega,by omega,by omega⟩
 obtain⟨TB,iJ⟩:=nmE (w.heap.size+1);rw[<-iJ]at h0⊢;obtain⟨MB,z0⟩:=nmE (TB+1);rw[<-z0]at h0⊢;obtain⟨T,hT⟩:=nmE (MB+1);rw[<-hT]at h0⊢;clear g0 x0 q0 l0 y0 iJ z0 hT
 go_wp2_with fail
 go_loopw [13] (λi wr=>∃(j:Nat) (cA:List Fl.ar),i=Iq j/\zyz ns w wr TB MB T j cA) (λi _=>ns.length - (intOf i).toNat)
 case atStart=>exact⟨0,[],rfl,h0⟩
 case round=>
  clear h0;obtain⟨j,cA,rfl,hr⟩:=hrel;have hj:=hr.hj;have HR:=Zz hr;clear hr
  by_cases e0:j<ns.length
  ·obtain⟨b,off,rfl⟩:∃b off,na=some (Aq b off):=by
    obtain⟨ao',cap',hv',_,_,hx'⟩:=HN.out;obtain⟨b,off,ha,_⟩:=hx' (by intro h;rw[h]at e0;simp at e0);simp only[Value.slice.injEq]at hv';exact⟨b,off,hv'.1.trans ha⟩
   obtain⟨lv,A0⟩:=(HN.below HR.hb).node e0 HR.hb.size;have r0:=Zz A0;have O0:(j:Int)<(ns.length:Int):=(by omega);clear A0
   go_wp2_with fail
   refine(its_any r0 HR.hr).mono ?_;rintro e w2 ⟨rfl,s0⟩;have m0:Hid (zyz ns w w2 TB MB T j cA):=HR.below s0;have n0:Hid (Vg w2 b (off+j*6) (Fl.nth ns j) lv):=r0.below s0;clear s0;obtain⟨nd,d0⟩:=nmE (Fl.nth ns j);rw[<-d0]at n0⊢;have i0:=Zz d0;clear r0 HR d0
   have t0:Hid (Fl.eh ns j=true->Fl.bk ns=(j:Int)):=λh=>by
    show Fl.bk ns=_;unfold Fl.bk;rw[Fl.fh _ _ j m0.du e0 h]
   cases j0:Fl.bG nd with
   |false=>
    have HF:Hid (Fl.bk ns=(j:Int)):=t0 (by rw[Fl.gO,<-i0.out,j0];rfl);clear j0;go_wp2;go_ret;exact⟨zz8 HF.symm,m0.hb⟩
   |true=>
    obtain⟨k0,H0,I0⟩:=Fl.ey j0;have J0:=Zz j0;have B0:=Zz k0;obtain⟨x,hx⟩:∃x:Nat,nd.kind=(x:Int):=⟨nd.kind.toNat,by omega⟩;have K0:x<8:=(by omega);have c0:=n0.c0;rw[hx]at c0;have h3':w2.cell? (Aq TB (x*4+3))=some (.func (.func (byF x)) #[] #[]):=(by have:=(m0.hr x K0).2.2;simpa using this)
    have HC:Hid (Cq 72 #[.pointer (some (Aq TB (x*4))),.pointer (some (Aq b (off+j*6))),Iq j] w2 λe w'=>e=.returned (.bool (!(prem nd).any (λx=>decide ((j:Int)<=x))))/\Bq w2 w'):=
     zs6 TB (x*4) (byF x) j (.pointer (some (Aq b (off+j*6)))) (prem nd) w2 h3' (zpz x _ _) (by rw[<-hx];exact zh7 n0)
    have P0:(x:Int)<8:=(by omega);clear j0 k0 H0 I0 hx h3'
    go_wp2_with fail
    refine(HC.out).mono ?_;rintro e w3 ⟨rfl,u0⟩;have C0:Hid (zyz ns w w3 TB MB T j cA):=m0.below u0;have L0:Hid (Vg w3 b (off+j*6) nd lv):=n0.below u0;clear u0 HC c0
    cases o0:(prem nd).any (λx=>decide ((j:Int)<=x)) with
    |true=>
     have HF:Hid (Fl.bk ns=(j:Int)):=t0 (by rw[Fl.gO,<-i0.out,o0];simp);clear o0;go_wp2;go_ret;exact⟨zz8 HF.symm,C0.hb⟩
    |false=>
     have M0:=Zz o0;have HC:Hid (Cq 74 #[.pointer (some (Aq b (off+j*6)))] w3 λe w'=>e=.returned (.agg (Ym nd).toArray)/\Bq w3 w'):=zux L0 B0.2.2.2.2.2.1;clear o0
     go_wp2_with (go_at_call 74;refine(HC.out).mono ?_;rintro e w4 ⟨rfl,D0⟩)
     have a0:Hid (zyz ns w w4 TB MB T j cA):=C0.below D0;have E0:=a0.hs;clear D0 HC;refine(yy3 E0 B0 (by have:=a0.bj;omega)).mono ?_;rintro e w5 ⟨c,t,rfl,ht,F0,f0⟩;have b0:=a0.out;have p0:Hid (Bq w w5/\Yb w5 TB 0/\T<w5.heap.size):=by
      refine⟨b0.hb.grown f0 b0.hb.size (λk hk=>by simp only[Option.some.injEq]at hk;have:=b0.hw;have:=b0.iJ;omega),λk hk=>?_,Qj b0.hz f0.size⟩;have v0:some TB≠some MB:=(by have:=b0.iJ;simp;omega);obtain⟨g1,g2,g3⟩:=b0.hr k hk;exact⟨f0.cell g1 v0,f0.cell g2 v0,f0.cell g3 v0⟩
     have N0:=Zz F0;have HT:=Zz ht;clear E0 F0 f0 ht b0;have G0:Hid (nd∈cA ↔ Fl.eX ns j=true):=by
      show _ ↔ _;rw[Fl.gT ns j e0,a0.dW,i0.out]
     cases t with
     |true=>
      have HF:Hid (Fl.bk ns=(j:Int)):=t0 (by rw[Fl.gO,G0.1 (HT.1 rfl)];simp);go_wp2;go_ret;exact⟨zz8 HF.symm,p0.1⟩
     |false=>
      have HD:Hid (Fl.eh ns j=false):=by
       show Fl.eh ns j=false;have h1:Fl.eX ns j=false:=by
        rw[Bool.eq_false_iff];intro h
        have:=HT.2 (G0.2 h);cases this
       rw[Fl.gO,<-i0.out,J0.out,M0.out,h1];rfl
      go_wp2
      go_roundw
      case rel=>
       refine⟨j+1,nd::cA,by go_num,⟨by omega,by simp[a0.bj],λx=>?_,λt ht=>?_,N0,p0.2.1,p0.1,a0.hw,a0.iJ,a0.oN,p0.2.2⟩⟩
       ·rw[Fl.fg ns j e0,List.mem_cons,List.mem_append,List.mem_singleton,a0.dW x,i0.out];exact or_comm
       by_cases h:t<j
       ·exact a0.du t h
       have:t=j:=by omega
       subst this;exact HD
      case measure=>simp[intOf];omega
  have HF:Hid (Fl.bk ns= -1):=by
   show Fl.bk ns= -1;unfold Fl.bk;rw[Fl.dO _ _ (λk hk=>HR.du k (by omega))]
  go_wp2;go_ret;exact⟨zz8 HF.symm,HR.hb⟩
namespace Fl
def ji(h:x<256):(UInt8.ofNat x).toNat=x:=by simp;omega
def fZ(h:x<128)(f:Nat):cS f x=[UInt8.ofNat x]:=by
 cases f with
 |zero=>rfl
 |succ f=>simp only[cS,if_pos h]
def ks(at_ len:Nat)(r:List UInt8)(f:Nat):∀k v unit x,unit=128 ^ k->k<=4->(k=0\/0<x)->v+x*unit<2147483648->x<128 ^ (f+1)->
  dK at_ len k v unit (cS f x++r)=(((v+x*unit:Nat):Int),((at_+k+(cS f x).length:Nat):Int),0):=by
 have small:∀f k v unit x,(k=0\/0<x)->v+x*unit<2147483648->x<128->dK at_ len k v unit (cS f x++r)=(((v+x*unit:Nat):Int),((at_+k+(cS f x).length:Nat):Int),0):=by
  intro f k v unit x hx a0 hs;rw[fZ hs];have e:(UInt8.ofNat x).toNat=x:=ji (by omega);have em:x % 128=x:=Nat.mod_eq_of_lt hs;simp only[List.cons_append,List.nil_append,dK,e,em];rw[if_neg (by rintro(⟨h1,h2⟩|h|⟨h1,h2⟩)<;>omega),if_pos hs];simp[Nat.add_assoc]
 induction f with
 |zero=>intro k v unit x hu hk hx a0 hs;exact small 0 k v unit x hx a0 (by simpa using hs)
 |succ f ih=>
  intro k v unit x hu hk hx a0 hs
  by_cases h:x<128
  ·exact small (f+1) k v unit x hx a0 h
  have e:(UInt8.ofNat (x % 128+128)).toNat=x % 128+128:=ji (by omega);have em:(x % 128+128) % 128=x % 128:=(by omega);have c0:x=x / 128*128+x % 128:=(by omega);have b0:v+x % 128*unit+x / 128*(unit*128)=v+x*unit:=by
   have:x*unit=x / 128*(unit*128)+x % 128*unit:=by
    conv=>lhs;rw[c0]
    rw[Nat.add_mul,Nat.mul_assoc,Nat.mul_comm 128 unit]
   omega
  have d0:k≠4:=by
   intro h4;subst h4;have h1:unit=268435456:=(by rw[hu]);rw[h1]at a0;omega
  have hc:cS (f+1) x=UInt8.ofNat (x % 128+128)::cS f (x / 128):=(by simp only[cS,if_neg h]);rw[hc];simp only[List.cons_append,dK,e,em];rw[if_neg (by rintro(⟨h1,h2⟩|h|⟨h1,h2⟩)<;>omega),if_neg (by omega)];rw[ih (k+1) _ _ (x / 128) (by rw[hu,Nat.pow_succ]) (by omega) (Or.inr (by omega)) (by omega) (by rw[Nat.pow_succ]at hs;omega),b0];simp only[List.length_cons]
  congr 2;congr 1;omega
def fp{v:Nat}(h:s.drop p=aP v++r)(hv:v<2147483648):num s p=((v:Int),((p+(aP v).length:Nat):Int),0):=by
 unfold num;rw[h];have:=ks p s.length r 9 0 0 1 v (by rfl) (by omega) (Or.inl rfl) (by omega) (by omega);simpa [aP] using this
def lq(at_ len:Nat)(l:List UInt8):∀k v unit f,k<=4->4<=k+f->0<=(dK at_ len k v unit l).2.1->
  ∃x,(k=0\/0<x)/\(dK at_ len k v unit l).1=((v+x*unit:Nat):Int)/\(dK at_ len k v unit l).2.1=((at_+k+(cS f x).length:Nat):Int)/\l=cS f x++l.drop (cS f x).length:=by
 induction l with
 |nil=>intro k v unit f hk hf h;simp[dK]at h
 |cons c r ih=>
  intro k v unit f hk hf h;have hc:=c.toNat_lt;simp only[dK]at h⊢
  by_cases h1:(c.toNat=0/\0<k)\/2147483648<=v+c.toNat % 128*unit\/(k=4/\128<=c.toNat)
  ·rw[if_pos h1]at h;simp at h
  rw[if_neg h1]at h⊢
  by_cases h2:c.toNat<128
  ·rw[if_pos h2]
   refine⟨c.toNat,?_,by rw[Nat.mod_eq_of_lt h2],?_,?_⟩
   ·by_cases b0:k=0
    ·exact Or.inl b0
    right;rcases Nat.eq_zero_or_pos c.toNat with h0|h0
    ·exact absurd (Or.inl ⟨h0,by omega⟩) h1
    exact h0
   ·rw[fZ h2];rfl
   rw[fZ h2];simp
  rw[if_neg h2]at h⊢;have c0:k≠4:=λh4=>h1 (Or.inr (Or.inr ⟨h4,by omega⟩));obtain⟨f',rfl⟩:∃f',f=f'+1:=⟨f - 1,by omega⟩;obtain⟨y,hy,e1,e2,e3⟩:=ih (k+1) (v+c.toNat % 128*unit) (unit*128) f' (by omega) (by omega) h
  have d0:0<y:=by rcases hy with h|h<;>omega
  have a0:cS (f'+1) (c.toNat % 128+y*128)=c::cS f' y:=by
   have hn:¬(c.toNat % 128+y*128)<128:=(by omega);simp only[cS,if_neg hn];have q1:(c.toNat % 128+y*128) % 128+128=c.toNat:=(by omega);have q2:(c.toNat % 128+y*128) / 128=y:=(by omega);rw[q1,q2];simp
  refine⟨c.toNat % 128+y*128,Or.inr (by omega),?_,?_,?_⟩
  ·rw[e1];congr 1
   rw[Nat.add_mul,Nat.mul_assoc,Nat.mul_comm 128 unit];omega
  ·rw[e2,a0];simp only[List.length_cons];congr 1;omega
  rw[a0];simp only[List.length_cons,List.cons_append,List.drop_succ_cons];rw[<-e3]
def fK(hp:p<=s.length)(h:0<=(num s p).2.1):∃v:Nat,(num s p).1=(v:Int)/\v<2147483648/\(num s p).2.1=((p+(aP v).length:Nat):Int)/\s.drop p=aP v++s.drop (p+(aP v).length):=by
 obtain⟨x,_,e1,e2,e3⟩:=lq p s.length (s.drop p) 0 0 1 9 (by omega) (by omega) h;have ho:=dJ s p hp;refine⟨x,by rw[num,e1];simp,?_,by rw[num,e2];simp[aP],by rw[<-List.drop_drop];exact e3⟩
 have:(num s p).1=(x:Int):=by rw[num,e1];simp
 omega
def ep(x:Int)(l:List Int):aW (x::l)=aP x.toNat++aW l:=by simp[aW]
def eq(h:s.drop p=a++r):s.drop (p+a.length)=r:=by
 rw[<-List.drop_drop,h];simp
def jN(s r:List UInt8):∀(xs:List Int) (p:Nat) (acc:List Int),s.drop p=aW xs++r->xs.all cq=true->
  dj s xs.length p acc=(acc++xs,((p+(aW xs).length:Nat):Int),0):=by
 intro xs
 induction xs with
 |nil=>intro p acc h _;simp[dj,aW]
 |cons x xs ih=>
  intro p acc h ha;simp only[List.all_cons,Bool.and_eq_true]at ha;have hx:=ha.1;simp only[cq,Bool.and_eq_true,decide_eq_true_eq]at hx;rw[ep,List.append_assoc]at h;have hn:=fp h (by omega);simp only[List.length_cons,dj,hn];rw[if_neg (by omega),Int.toNat_natCast,ih _ _ (eq h) ha.2,ep];simp only[List.length_append,Int.toNat_of_nonneg hx.1,List.append_assoc,List.singleton_append,Nat.add_assoc]
def gn{xs:List Int}(h:s.drop p=aW xs++r)(ha:xs.all cq=true):cZ s p xs.length=(xs,((p+(aW xs).length:Nat):Int),0):=by
 have:=jN s r xs p [] h ha;simpa [cZ] using this
def kr(s:List UInt8)(n:Nat):∀(p:Nat) (acc:List Int),p<=s.length->0<=(dj s n p acc).2.1->
  ∃xs:List Int,(dj s n p acc).1=acc++xs/\xs.length=n/\xs.all cq=true/\(dj s n p acc).2.1=((p+(aW xs).length:Nat):Int)/\s.drop p=aW xs++s.drop (p+(aW xs).length):=by
 induction n with
 |zero=>intro p acc hp h;exact⟨[],by simp[dj],rfl,rfl,by simp[dj,aW],by simp[aW]⟩
 |succ n ih=>
  intro p acc hp h;simp only[dj]at h⊢
  by_cases h1:(num s p).2.1<0
  ·rw[if_pos h1]at h;simp at h
  rw[if_neg h1]at h⊢;obtain⟨v,e1,e2,e3,e4⟩:=fK hp (by omega);have ho:=dJ s p hp;rw[e1,e3,Int.toNat_natCast]at h⊢;obtain⟨xs,f1,f2,f3,f4,f5⟩:=ih _ _ (by omega) h;refine⟨(v:Int)::xs,by rw[f1];simp,by simp[f2],?_,?_,?_⟩
  ·simp only[List.all_cons,f3,Bool.and_true,cq,Bool.and_eq_true,decide_eq_true_eq];omega
  ·rw[f4,ep];simp[Nat.add_assoc]
  rw[ep,Int.toNat_natCast,List.append_assoc,List.length_append,<-Nat.add_assoc,<-f5];exact e4
def gN(hp:p<=s.length)(h:0<=(cZ s p n).2.1):
  ∃xs:List Int,(cZ s p n).1=xs/\xs.length=n/\xs.all cq=true/\(cZ s p n).2.1=((p+(aW xs).length:Nat):Int)/\s.drop p=aW xs++s.drop (p+(aW xs).length):=by
 have:=kr s n p [] hp h;simpa [cZ] using this
end Fl
namespace Fl
def ix{x:Int}(h:cq x=true):0<=x/\x<2147483648:=by simpa [cq] using h
def oM{k:Int}(h:aO k≠ -2):0<=k/\k<8:=by unfold aO at h;(repeat' split at h)<;>omega
def mF(h:s.drop p=a++r)(ha:0<a.length):p<s.length:=by
 rcases Nat.lt_or_ge p s.length with h1|h1
 ·exact h1
 rw[List.drop_eq_nil_of_le h1]at h;have:=congrArg List.length h;simp at this;omega
def Jy{c:UInt8}(h:s.drop p=c::r):p<s.length/\s.getD p 0=c/\s.drop (p+1)=r:=by
 have h1:p<s.length:=mF (a:=[c]) (r:=r) (by simpa using h) (by simp);refine⟨h1,?_,by rw[<-List.drop_drop,h];rfl⟩
 have:(s.drop p)[0]?=some c:=by rw[h];rfl
 rw[List.getElem?_drop]at this;rw[Qa];simpa using congrArg (λo=>o.getD 0) this
def lp{nd:ar}(h:s.drop p=aD nd++r)(hs:bG nd=true)(hb:(prem nd).any (λx=>decide ((k:Int)<=x))=false):
  one s p k=(nd,((p+(aD nd).length:Nat):Int),0):=by
 simp only[bG,Bool.and_eq_true,Bool.or_eq_true,decide_eq_true_eq]at hs;obtain⟨hk,k0,bj,ha,i0,hc,aK,hz⟩:=hs;obtain⟨l0,m0⟩:=oM hk;obtain⟨j0,n0⟩:=ix k0;unfold aD at h;rw[List.cons_append]at h;obtain⟨hp,hd,h1⟩:=Jy h
 have d0:((s.getD p 0).toNat:Int)=nd.kind:=by rw[hd,ji (by omega)];omega
 rw[List.append_assoc]at h1;have hn:=fp h1 (by omega);have h2:=eq h1
 have fin:∀e,cg p k nd e=(nd,e,0):=λe=>by unfold cg;rw[hb];rfl
 unfold one;rw[if_neg (by omega)];simp only[d0,hn];rw[if_neg hk,if_neg (by omega)];simp only[Int.toNat_natCast]
 by_cases hf:aO nd.kind= -1
 ·rw[if_pos hf]
  have a0:aO nd.kind<0:=(by omega);rw[if_pos a0,List.append_assoc]at h2;have hm:=fp h2 (by omega);have h3:=eq h2;have b0:ct nd=nd.aU:=(by unfold ct;rw[if_pos a0]);rw[b0]at h3;have hl:=gn h3 aK;simp only[hm,Int.toNat_natCast];rw[if_neg (by omega),if_neg (by omega)];simp only[hl];rw[if_neg (by omega)];have e0:(⟨nd.kind,(nd.ag.toNat:Int),0,0,0,nd.aU⟩:ar)=nd:=by
   have q:∀i x,jd (aO nd.kind) i x=true->0<=i->x=0:=λi x hx hi=>by
    simp only[jd,Bool.and_eq_true,Bool.or_eq_true,decide_eq_true_eq]at hx;omega
   obtain⟨kd,lv,a,b,c,li⟩:=nd;simp only[ar.mk.injEq];exact⟨trivial,Int.toNat_of_nonneg j0,(q 0 _ ha (by omega)).symm,(q 1 _ i0 (by omega)).symm,(q 2 _ hc (by omega)).symm,trivial⟩
  rw[e0,fin]
  congr 2
  unfold aD;rw[if_pos a0,b0];simp only[List.length_cons,List.length_append];omega
 rw[if_neg hf]
 have a0:¬aO nd.kind<0:=by have:=fH nd.kind;omega
 rw[if_neg a0,List.nil_append]at h2
 have b0:ct nd=[nd.a,nd.b,nd.c].take (aO nd.kind).toNat:=by unfold ct;rw[if_neg a0]
 have o0:=fH nd.kind
 have f0:(ct nd).length=(aO nd.kind).toNat:=by rw[b0];simp;omega
 have okR:∀i x,jd (aO nd.kind) i x=true->cq x=true/\(aO nd.kind<=i->x=0):=λi x hx=>by
  simp only[jd,Bool.and_eq_true,Bool.or_eq_true,decide_eq_true_eq]at hx;exact⟨hx.1,λh=>by omega⟩
 obtain⟨ra,za⟩:=okR 0 _ ha;obtain⟨rb,zb⟩:=okR 1 _ i0;obtain⟨rc,zc⟩:=okR 2 _ hc;have g0:(ct nd).all cq=true:=by
  rw[List.all_eq_true];intro x hx;rw[b0]at hx;have:=List.mem_of_mem_take hx;simp only[List.mem_cons,List.not_mem_nil,or_false]at this;rcases this with rfl|rfl|rfl<;>assumption
 have hl:=gn h2 g0;rw[f0]at hl;simp only[hl];rw[if_neg (by omega)]
 have h0:nd.aU=[]:=by rcases hz with h|h;exact absurd h hf;exact h
 have e0:(⟨nd.kind,(nd.ag.toNat:Int),(ct nd).getD 0 0,(ct nd).getD 1 0,(ct nd).getD 2 0,[]⟩:ar)=nd:=by
  rw[b0];have c0:aO nd.kind=0\/aO nd.kind=1\/aO nd.kind=2\/aO nd.kind=3:=(by omega);obtain⟨kd,lv,a,b,c,li⟩:=nd;simp only[ar.mk.injEq]at*;refine⟨trivial,Int.toNat_of_nonneg j0,?_,?_,?_,h0.symm⟩<;>(rcases c0 with c0|c0|c0|c0<;>rw[c0]at za zb zc⊢<;>simp<;>first|done|exact(za (by omega)).symm|exact(zb (by omega)).symm|exact(zc (by omega)).symm)
 rw[e0,fin]
 congr 2
 unfold aD;rw[if_neg a0];simp only[List.length_cons,List.length_append,List.nil_append,List.length_nil];omega
def mj(hp:p<=s.length)(h:0<=(one s p k).2.1):
  s.drop p=aD (one s p k).1++s.drop (p+(aD (one s p k).1).length)/\(one s p k).2.1=((p+(aD (one s p k).1).length:Nat):Int):=by
 unfold one at h⊢
 by_cases h0:p=s.length
 ·rw[if_pos h0]at h;simp at h
 rw[if_neg h0]at h⊢;simp only at h⊢
 by_cases h1:aO ((s.getD p 0).toNat:Int)= -2
 ·rw[if_pos h1]at h;simp at h
 rw[if_neg h1]at h⊢;have d0:s.drop p=s.getD p 0::s.drop (p+1):=by
  rw[List.drop_eq_getElem_cons (show p<s.length by omega),Qa,Qb (show p<s.length by omega)];rfl
 generalize hc:s.getD p 0=c at*
 have g0:UInt8.ofNat ((c.toNat:Int)).toNat=c:=by simp
 have c0:∀(nd:ar) (e:Int),nd.kind=(c.toNat:Int)->0<=(cg p k nd e).2.1->e=((p+(aD nd).length:Nat):Int)->s.drop p=aD nd++s.drop (p+(aD nd).length)->
   s.drop p=aD (cg p k nd e).1++s.drop (p+(aD (cg p k nd e).1).length)/\(cg p k nd e).2.1=((p+(aD (cg p k nd e).1).length:Nat):Int):=by
  intro nd e _ hh he hd;unfold cg at hh⊢
  by_cases hq:((prem nd).any λx=>decide ((k:Int)<=x))=true
  ·rw[if_pos hq]at hh;simp at hh
  rw[if_neg hq];exact⟨hd,he⟩
 have du:=dJ s (p+1) (by omega)
 by_cases h2:(num s (p+1)).2.1<0
 ·rw[if_pos h2]at h;simp at h
 rw[if_neg h2]at h⊢;obtain⟨v,a1,a2,a3,a4⟩:=fK (s:=s) (p:=p+1) (by omega) (by omega);rw[a1,a3]at h⊢;rw[a3]at du;simp only[Int.toNat_natCast]at h⊢
 by_cases h3:aO (c.toNat:Int)= -1
 ·rw[if_pos h3]at h⊢
  have a0:aO (c.toNat:Int)<0:=(by omega);have e0:=dJ s (p+1+(aP v).length) (by omega)
  by_cases h4:(num s (p+1+(aP v).length)).2.1<0
  ·rw[if_pos h4]at h;simp at h
  rw[if_neg h4]at h⊢;obtain⟨m,b1,b2,b3,b4⟩:=fK (s:=s) (p:=p+1+(aP v).length) (by omega) (by omega);rw[b1,b3]at h⊢;rw[b3]at e0;simp only[Int.toNat_natCast]at h⊢
  by_cases h5:(16:Int)<(m:Int)
  ·rw[if_pos h5]at h;simp at h
  rw[if_neg h5]at h⊢
  by_cases h6:(cZ s (p+1+(aP v).length+(aP m).length) m).2.1<0
  ·rw[if_pos h6]at h;simp at h
  rw[if_neg h6]at h⊢;obtain⟨xs,c1,c2,c3,c4,c5⟩:=gN (s:=s) (p:=p+1+(aP v).length+(aP m).length) (n:=m) (by omega) (by omega);rw[c1,c4]at h⊢;have hnb:aD ⟨(c.toNat:Int),(v:Int),0,0,0,xs⟩=c::(aP v++(aP m++aW xs)):=by
   unfold aD ct;simp only[if_pos a0,Int.toNat_natCast,c2];rw[show UInt8.ofNat c.toNat=c by simp]
  refine c0 _ _ rfl h ?_ ?_
  ·rw[hnb];simp only[List.length_cons,List.length_append];congr 1;omega
  rw[hnb];simp only[List.length_cons,List.length_append,List.cons_append,List.append_assoc];rw[d0,a4,b4,c5]
  have:p+((aP v).length+((aP m).length+(aW xs).length)+1)=p+1+(aP v).length+(aP m).length+(aW xs).length:=by omega
  rw[this]
 rw[if_neg h3]at h⊢;have i0:=fH (c.toNat:Int)
 have a0:¬aO (c.toNat:Int)<0:=by omega
 by_cases h6:(cZ s (p+1+(aP v).length) (aO (c.toNat:Int)).toNat).2.1<0
 ·rw[if_pos h6]at h;simp at h
 rw[if_neg h6]at h⊢;obtain⟨xs,c1,c2,c3,c4,c5⟩:=gN (s:=s) (p:=p+1+(aP v).length) (n:=(aO (c.toNat:Int)).toNat) (by omega) (by omega);rw[c1,c4]at h⊢;have f0:ct ⟨(c.toNat:Int),(v:Int),xs.getD 0 0,xs.getD 1 0,xs.getD 2 0,[]⟩=xs:=by
  unfold ct;simp only[if_neg a0];have b0:aO (c.toNat:Int)=0\/aO (c.toNat:Int)=1\/aO (c.toNat:Int)=2\/aO (c.toNat:Int)=3:=(by omega);rcases b0 with b0|b0|b0|b0<;>rw[b0]at c2⊢
  ·cases xs with
   |nil=>rfl
   |cons a t=>simp at c2
  ·obtain⟨a,rfl⟩:=List.length_eq_one_iff.1 c2;rfl
  ·match xs,c2 with
   |[a,b],_=>rfl
  match xs,c2 with
  |[a,b,d],_=>rfl
 have hnb:aD ⟨(c.toNat:Int),(v:Int),xs.getD 0 0,xs.getD 1 0,xs.getD 2 0,[]⟩=c::(aP v++aW xs):=by
  unfold aD;rw[f0];simp only[if_neg a0,Int.toNat_natCast,List.nil_append];rw[show UInt8.ofNat c.toNat=c by simp]
 refine c0 _ _ rfl h ?_ ?_
 ·rw[hnb];simp only[List.length_cons,List.length_append];congr 1;omega
 rw[hnb];simp only[List.length_cons,List.length_append,List.cons_append,List.append_assoc];rw[d0,a4,c5]
 have:p+((aP v).length+(aW xs).length+1)=p+1+(aP v).length+(aW xs).length:=by omega
 rw[this]
def ei(x:ar)(l:List ar):aH (x::l)=aD x++aH l:=by simp[aH]
def jh(s r:List UInt8):∀(ns:List ar) (k p:Nat) (st:List Int) (acc:List ar),s.drop p=aH ns++r->(∀i,i<ns.length->bG (nth ns i)=true/\(prem (nth ns i)).any (λx=>decide (((k+i:Nat):Int)<=x))=false)->
  ∃st',cK s ns.length k p st acc=(acc++ns,st',((p+(aH ns).length:Nat):Int),-1):=by
 intro ns
 induction ns with
 |nil=>intro k p st acc h _;exact⟨st,by simp[cK,aH]⟩
 |cons x ns ih=>
  intro k p st acc h hg;rw[ei,List.append_assoc]at h;have h0:=hg 0 (by simp);have ho:=lp h h0.1 h0.2
  obtain⟨st',he⟩:=ih (k+1) (p+(aD x).length) (st++[(p:Int)]) (acc++[x]) (eq h) (λi hi=>by
   have:=hg (i+1) (by simp;omega)
   rw[show k+(i+1)=k+1+i by omega]at this;exact this)
  refine⟨st',?_⟩;simp only[List.length_cons,cK];simp only[nth,List.getD_cons_zero,Nat.add_zero]at ho;rw[ho];rw[if_neg (by simp only;omega)];simp only[Int.toNat_natCast];rw[he,ei];simp[Nat.add_assoc]
def jM(s:List UInt8)(m:Nat):∀(k p:Nat) (st:List Int) (acc:List ar),p<=s.length->(cK s m k p st acc).2.2.2<0->
  ∃ns,(cK s m k p st acc).1=acc++ns/\ns.length=m/\(cK s m k p st acc).2.2.1=((p+(aH ns).length:Nat):Int)/\s.drop p=aH ns++s.drop (p+(aH ns).length):=by
 induction m with
 |zero=>intro k p st acc hp h;exact⟨[],by simp[cK],rfl,by simp[cK,aH],by simp[aH]⟩
 |succ m ih=>
  intro k p st acc hp h;have a0:=jD s p k hp;simp only[cK]at h⊢
  by_cases h1:(one s p k).2.1<0
  ·rw[if_pos h1]at h;simp only at h;omega
  rw[if_neg h1]at h⊢;obtain⟨e1,e2⟩:=mj hp (show 0<=(one s p k).2.1 by omega);rw[e2]at a0;rw[e2,Int.toNat_natCast]at h⊢;obtain⟨ns,f1,f2,f3,f4⟩:=ih _ _ _ _ (by omega) h;refine⟨(one s p k).1::ns,by rw[f1];simp,by simp[f2],?_,?_⟩
  ·rw[f3,ei];simp[Nat.add_assoc]
  rw[ei,List.append_assoc,List.length_append,<-Nat.add_assoc,<-f4];exact e1
end Fl
end Go.Proofs.YtfhpibppblbgcaaGreatDoor
