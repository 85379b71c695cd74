import Derived.Test.YtjmcibbdedlcoaaGreatDoorM02
import Derived.Test.YtjmcibbdedlcoaaGreatDoorM03
import Derived.Deep.QuietTactic
import Derived.Deep.WholeRow
import Derived.StillTailTactics
import Derived.Deep.RegionWith
import Derived.BigQuiet
import Derived.Maps.OwnSet
import Derived.ChangeMaps5
set_option linter.all false
set_option maxRecDepth 100000
set_option maxHeartbeats 40000000
namespace Go.Proofs.YtjmcibbdedlcoaaGreatDoor
open Go.RowKit Go.Proofs.Tryz List World Region Value Fl
variable{P:Program}{ops:Array Oper}{rest:List Oper}{o:Oper}{a:Act}{Q:Exit->Act->World->Prop}{w w' wr w1 w2:World}{ty e:TypeId}{t:cG}{base n n1 n2 Jb q0 k q b B cap p Lb Pb:Nat}{v u sv sv' nv' cv lvn:Value}{xs l ls st vs:Is}{lvs ys:Vs}{s:K}{acc:List Fl.ar}{ao:Option Addr}{names:List (List UInt8)}{S:Nat->Prop}
section
variable(w:World)
def zl9(base:Nat)(t ty e:TypeId)(i:TypeInfo)(z:Value)(size bytes:Nat)(ht:P.underlying t=some (.slice e))(hi:P.info? e=some i)(hz:i.zero=some z)
  (a0:i.size=size) (i0:i.bytes=bytes) (m0:z.cells.size=size) (cH:0<size)
  (v:Value) (n:Nat) (xs:Vs) (d0:w.ownsRow base e size v n xs)
  (a:Addr) (m c:Nat) (news:Vs) (hl:news.length=m*size) (c0:∀j u,news[j]?=some u->w.cell? (a.add j)=some u) (h1:∀u∈news,u.oneCell'=true)
  (j0:n+m<=maxLen) (b0:(n+m)*bytes<=140737488355328) (f0:base<=w.heap.size) (hm:0<m):
  ∃v' w',(Builtin.append_ #[t,t] ty #[v,J (some a) m c]).run P w=.ok v' w'/\w'.ownsRow base e size v' (n+m) (xs++news)/\w.grownBy w' v.ownBlock/\(v'.ownBlock=v.ownBlock\/v'.ownBlock=some w.heap.size):=by
 obtain⟨v',w',hr,ho,hg,_⟩:=run_append_own (P:=P) w base t ty e i z size bytes ht hi hz a0 i0 m0 cH v n xs d0 a m c news hl c0 h1 j0 b0 f0;refine⟨v',w',hr,ho,hg,?_⟩;rcases d0.2 with⟨rfl,h0⟩|⟨g,cap,cur,rfl,p0,n0,q0,r0,o0,l0⟩
 ·subst h0
  have g0:=run_append_nil (P:=P) w t ty e i z ht hi hz a m c news (by rw[a0];exact hl) c0 hm (by unfold maxLen at j0;omega) (by rw[i0];simp only[Nat.zero_add]at b0;omega);rw[g0]at hr;injection hr with hv _
  right;rw[<-hv];rfl
 by_cases e0:n+m<=cap
 ·have k0:n*i.size+news.length<=cur.size:=by
   rw[o0,hl,a0,<-Nat.add_mul];exact Nat.mul_le_mul_right _ e0
  have g0:=run_append_room (P:=P) w t ty e i ht hi g n cap cur n0 a m c news (by rw[a0];exact hl) c0 h1 e0 k0;rw[g0]at hr;injection hr with hv _
  left;rw[<-hv];rfl
 have h63':((n+m:Nat):Int)<=9223372036854775807:=by unfold maxLen at j0;omega
 have g0:=run_append_grow (P:=P) w t ty e i z ht hi hz (Y g 0) n cap xs (by rw[a0];exact d0.1) (d0.cells rfl) a m c news (by rw[a0];exact hl) c0 (by omega) h63' (growslice_fits (by omega) (by rw[i0];exact b0));rw[g0]at hr;injection hr with hv _
 right;rw[<-hv];rfl
def Uw(f0:o.guard=none)(s x:Operand)(t:TypeId)
  (ho:o.op=.call {callee:=.builtin .append,args:=#[s,x],argTypes:=#[t,t]})
  (base:Nat) (e:TypeId) (i:TypeInfo) (z:Value) (size bytes:Nat) (ht:P.underlying t=some (.slice e)) (hi:P.info? e=some i) (hz:i.zero=some z)
  (b0:i.size=size) (g0:i.bytes=bytes) (h0:z.cells.size=size) (cH:0<size)
  (v:Value) (n:Nat) (xs:Vs) (hs:a.eval s=v) (e0:w.ownsRow base e size v n xs)
  (ad:Addr) (m c:Nat) (news:Vs) (hx:a.eval x=J (some ad) m c) (hl:news.length=m*size) (hm:0<m) (c0:∀j u,news[j]?=some u->w.cell? (ad.add j)=some u) (h1:∀u∈news,u.oneCell'=true)
  (i0:n+m<=maxLen) (a0:(n+m)*bytes<=140737488355328) (d0:base<=w.heap.size)
  (h:∀v' w',w'.ownsRow base e size v' (n+m) (xs++news)->w.grownBy w' v.ownBlock->(v'.ownBlock=v.ownBlock\/v'.ownBlock=some w.heap.size)->wpList P ops Q rest (a.put o.dst v') w'):wpList P ops Q (o::rest) a w:=
 wpList_plain f0 λ_ hK=>by
  obtain⟨v',w',hr,h2,h3,h4⟩:=zl9 (P:=P) w base t o.type e i z size bytes ht hi hz b0 g0 h0 cH v n xs e0 ad m c news hl c0 h1 i0 a0 d0 hm;have j0:=hK _ _ (h v' w' h2 h3 h4);unfold Oper.wp execOp;simp only[ho,resolve,invoke,builtin,Sem.run_bind,Sem.run_pure,Result.andThen_ok,map_toArray,map_cons,map_nil,hs,hx,hr];exact j0
def Ap{w:World}{dst:Option Tmp}{pos:String}{after:Array Edge}{s x:Operand}{t:TypeId}{i:TypeInfo}{z:Value}{size bytes c:Nat}{xs:Vs}{ad:Addr}
  (ht:P.underlying t=some (.slice e)) (hi:P.info? e=some i) (hz:i.zero=some z) (b0:i.size=size) (f0:i.bytes=bytes) (hk:(z.cells.size==size && decide (0<size))=true)
  (e0:w.ownsRow base e size v n xs) (hs:a.eval s=v) (news:Vs) (hx:a.eval x=J (some ad) 1 c) (hl:news.length=1*size) (c0:∀j u,news[j]?=some u->w.cell? (ad.add j)=some u) (h1:∀u∈news,u.oneCell'=true)
  (g0:n+1<=maxLen) (a0:(n+1)*bytes<=140737488355328) (d0:base<=w.heap.size)
  (h:∀v' w',w'.ownsRow base e size v' (n+1) (xs++news)->w.grownBy w' v.ownBlock->(v'.ownBlock=v.ownBlock\/v'.ownBlock=some w.heap.size)->wpList P ops Q rest (a.put dst v') w'):
  wpList P ops Q ({dst:=dst,op:=.call {callee:=.builtin .append,args:=#[s,x],argTypes:=#[t,t]},type:=ty,pos:=pos,after:=after,guard:=none}::rest) a w:=by
 simp only[Qk,beq_iff_eq,Qn]at hk;exact Uw w rfl s x t rfl base e i z size bytes ht hi hz b0 f0 hk.1 hk.2 v n xs hs e0 ad 1 c news hx hl (by decide) c0 h1 g0 a0 d0 h
end
def Yk(n:Fl.ar)(lv:Value):Vs:=[I n.kind,I n.ag,I n.a,I n.b,I n.c,lv]
def flat:List Fl.ar->Vs->Vs
 |n::ns,lv::lvs=>Yk n lv++flat ns lvs
 |_,_=>[]
def ye1:∀(ns:List Fl.ar) (lvs:Vs),lvs.length=ns.length->(flat ns lvs).length=ns.length*6
 |[],[],_=>rfl
 |n::ns,lv::lvs,h=>by
  have:=ye1 ns lvs (by simpa using h);simp only[flat,Yk,length_append,length_cons,length_nil,this];omega
def zq7:∀(ns:List Fl.ar) (lvs:Vs) (n:Fl.ar) (lv:Value),lvs.length=ns.length->flat (ns++[n]) (lvs++[lv])=flat ns lvs++Yk n lv
 |[],[],n,lv,_=>by simp[flat]
 |m::ns,l::lvs,n,lv,h=>by
  simp only[cons_append,flat,zq7 ns lvs n lv (by simpa using h),append_assoc]
def yqw:∀(ns:List Fl.ar) (lvs:Vs) (i j:Nat),lvs.length=ns.length->i<ns.length->j<6->(flat ns lvs)[i*6+j]?=(Yk (Fl.nth ns i) (lvs.getD i Zq))[j]?
 |n::ns,lv::lvs,0,j,_,_,hj=>by
  simp only[flat,Nat.zero_mul,Nat.zero_add];rw[getElem?_append_left (by simp[Yk];omega)];rfl
 |n::ns,lv::lvs,i+1,j,h,hi,hj=>by
  have:=yqw ns lvs i j (by simpa using h) (by simpa using hi) hj;simp only[flat];rw[getElem?_append_right (by simp[Yk];omega)];rw[show (i+1)*6+j - (Yk n lv).length=i*6+j from by simp[Yk];omega,this];rfl
def zx0{ns:List Fl.ar}(h:w.ownsRow base e 6 v ns.length (flat ns lvs))(hl:lvs.length=ns.length)(hi:∀i,i<ns.length->Zw w.heap.size w (lvs.getD i Zq) (Fl.nth ns i).aU):Yz w.heap.size w v ns:=by
 rcases h.2 with⟨rfl,h0⟩|⟨g,cap,cur,rfl,hb,hg,a0,b0,c0,ht⟩
 ·have:ns=[]:=Qi h0
  subst this;exact Yz.nil _ _
 refine⟨_,cap,rfl,a0,by omega,λ_=>⟨g,0,rfl,(Array.getElem?_eq_some_iff.1 hg).1,λi hil=>⟨lvs.getD i Zq,hi i hil,?_⟩⟩⟩
 have q:∀j u,j<6->(Yk (Fl.nth ns i) (lvs.getD i Zq))[j]?=some u->D w g (i*6+j) u:=λj u hj hu=>by
  have h1:=h.cells (g:=g) rfl (i*6+j) u (by rw[yqw ns lvs i j hl hil hj];exact hu)
  have h2:((Y g 0):Addr).add (i*6+j)=(Y g (i*6+j)):=by unfold Addr.add;split<;>simp_all
  rw[h2]at h1;exact h1
 simp only[Nat.zero_add];exact⟨q 0 _ (by omega) rfl,q 1 _ (by omega) rfl,q 2 _ (by omega) rfl,q 3 _ (by omega) rfl,q 4 _ (by omega) rfl,q 5 _ (by omega) rfl⟩
def zf5{lv:Value}{row:Option Nat}(h:Zw w.heap.size w lv xs)(c0:xs≠[]->lv.ownBlock≠row)(hg:w.grownBy w' row):Zw w'.heap.size w' lv xs:=by
 obtain⟨ao,cap,rfl,hc,hl,hx⟩:=h;refine⟨ao,cap,rfl,hc,hl,λb0=>?_⟩;obtain⟨b,off,rfl,hb,a0⟩:=hx b0;refine⟨b,off,rfl,Qj hb hg.size,λi hi=>?_⟩;exact hg.cell (a0 i hi) (by simpa [ownBlock] using c0 b0)
def zxx{lv:Value}(h:Zw w.heap.size w lv xs)(hb:E w w'):Zw w'.heap.size w' lv xs:=(h.below hb).mono hb.size
def yn0{lv:Value}(h:Zw w.heap.size w lv xs)(o:Obj):Zw (w.alloc o).heap.size (w.alloc o) lv xs:=zxx h (bA)
def zr4{lv:Value}(h:Zw w.heap.size w lv xs)(a0:xs≠[]):∃b,lv.ownBlock=some b/\b<w.heap.size:=by
 obtain⟨ao,cap,rfl,hc,hl,hx⟩:=h;obtain⟨b,off,rfl,hb,_⟩:=hx a0;exact⟨b,rfl,hb⟩
def Jz{lv:Value}{a:Addr}(h:Zw w.heap.size w lv xs)(c0:xs≠[]->lv.ownBlock≠some a.block):Zw (w.setCell a u).heap.size (w.setCell a u) lv xs:=by
 have hs:(w.setCell a u).heap.size=w.heap.size:=by simp[setCell]
 obtain⟨ao,cap,rfl,hc,hl,hx⟩:=h;refine⟨ao,cap,rfl,hc,hl,λb0=>?_⟩;obtain⟨b,off,rfl,hb,a0⟩:=hx b0;refine⟨b,off,rfl,by omega,λi hi=>?_⟩;rw[Qc (w:=w) (Below.heap_setCell w a u b (by have:=c0 b0;simpa [ownBlock] using this))];exact a0 i hi
def zq8{base':Nat}{e':TypeId}{size size':Nat}{v':Value}{n':Nat}{xs xs':Vs}(h:w.ownsRow base e size v n xs)(h':w.ownsRow base' e' size' v' n' xs')(a0:e≠e'):v.ownBlock=none\/v.ownBlock≠v'.ownBlock:=by
 rcases h.2 with⟨rfl,_⟩|⟨g,cap,cur,rfl,hb,hg,_⟩
 ·left;rfl
 right
 rcases h'.2 with⟨rfl,_⟩|⟨g',cap',cur',rfl,hb',hg',_⟩
 ·simp[ownBlock]
 intro hh;simp only[ownBlock,Ql]at hh;rw[hh]at hg;rw[hg]at hg';simp only[Ql,Obj.cells.injEq]at hg';exact a0 hg'.2.1
def Jy(w:World)(lv:Value)(xs:Is)(sv nv:Value):Prop:=Zw w.heap.size w lv xs/\(xs≠[]->lv.ownBlock≠sv.ownBlock/\lv.ownBlock≠nv.ownBlock)
def Jy.first{lv nv:Value}(h:Jy w lv xs sv nv)(hg:w.grownBy w' sv.ownBlock)(hw:sv'.ownBlock=sv.ownBlock\/sv'.ownBlock=some w.heap.size):Jy w' lv xs sv' nv:=by
 refine⟨zf5 h.1 (λhx=>(h.2 hx).1) hg,λhx=>⟨?_,(h.2 hx).2⟩⟩;rcases hw with hw|hw
 ·rw[hw];exact(h.2 hx).1
 obtain⟨b,hb,a0⟩:=zr4 h.1 hx;rw[hw,hb];intro hh;simp at hh;omega
def Jy.second{lv nv:Value}(h:Jy w lv xs sv nv)(hg:w.grownBy w' nv.ownBlock)(hw:nv'.ownBlock=nv.ownBlock\/nv'.ownBlock=some w.heap.size):Jy w' lv xs sv nv':=by
 refine⟨zf5 h.1 (λhx=>(h.2 hx).2) hg,λhx=>⟨(h.2 hx).1,?_⟩⟩;rcases hw with hw|hw
 ·rw[hw];exact(h.2 hx).2
 obtain⟨b,hb,a0⟩:=zr4 h.1 hx;rw[hw,hb];intro hh;simp at hh;omega
def Jy.alloc{w:World}{lv sv nv:Value}{xs:Is}(h:Jy w lv xs sv nv)(o:Obj):Jy (w.alloc o) lv xs sv nv:=⟨yn0 h.1 o,h.2⟩
def Jy.below{lv nv:Value}(h:Jy w lv xs sv nv)(hb:E w w'):Jy w' lv xs sv nv:=⟨zxx h.1 hb,h.2⟩
def Jy.new{lv nv:Value}(h:Zw w'.heap.size w' lv xs)(hf:∀b,lv.ownBlock=some b->w.heap.size<=b)(hs:∀b,sv.ownBlock=some b->b<w.heap.size)(hn:∀b,nv.ownBlock=some b->b<w.heap.size):Jy w' lv xs sv nv:=by
 refine⟨h,λhx=>?_⟩;obtain⟨b,hb,a0⟩:=zr4 h hx;have:=hf b hb;refine⟨λhh=>?_,λhh=>?_⟩
 ·have:=hs b (hh.symm.trans hb);omega
 have:=hn b (hh.symm.trans hb);omega
def Jy.set{lv nv:Value}{a:Addr}(h:Jy w lv xs sv nv)(a0:xs≠[]->lv.ownBlock≠some a.block):Jy (w.setCell a u) lv xs sv nv:=⟨Jz h.1 a0,h.2⟩
structure Fam(w wr:World)(lv cv:Value)(fam:List (Value×Is))(sv nv:Value)(n1 n2:Nat)(xs ys:Vs):Prop where
 hs:wr.ownsRow (w.heap.size+2) 3 1 sv n1 xs
 hn:wr.ownsRow (w.heap.size+2) 188 6 nv n2 ys
 aH:∀p,p∈fam->Jy wr p.1 p.2 sv nv/\(p.2≠[]->∀b,p.1.ownBlock=some b->w.heap.size+2<=b)
 c0:wr.cell? (Y (w.heap.size+1) 0)=some lv
 c1:wr.cell? (Y (w.heap.size+1) 1)=some cv
 d0:wr.cell? (Y w.heap.size 0)=some Zq
 d1:wr.cell? (Y w.heap.size 1)=some Zq
 f0:∀j,wr.frozen? (Y w.heap.size j)=false
 f1:∀j,wr.frozen? (Y (w.heap.size+1) j)=false
 hb:E w wr
 hz:w.heap.size+2<=wr.heap.size
section
variable{lv:Value}{fam:List (Value×Is)}{nv:Value}{xs:Vs}
def Fam.below(h:Fam w wr lv cv fam sv nv n1 n2 xs ys)(hb:E wr w'):Fam w w' lv cv fam sv nv n1 n2 xs ys:=by
 have q:∀b o,b<wr.heap.size->w'.cell? (Y b o)=wr.cell? (Y b o):=λb o a0=>hb.cell (p:=(Y b o)) a0;have f:∀b o,b<wr.heap.size->w'.frozen? (Y b o)=wr.frozen? (Y b o):=λb o a0=>hb.frozen (p:=(Y b o)) a0;have hz:=h.hz;have cH:=hb.size;have og:wr.grownBy w' none:=⟨hb.os,hb.tape,hb.output,hb.size,λk hk _=>hb.block k hk⟩;exact⟨h.hs.kept og (by cases sv.ownBlock<;>simp),h.hn.kept og (by cases nv.ownBlock<;>simp),λp hp=>⟨(h.aH p hp).1.below hb,(h.aH p hp).2⟩,(q _ _ (by omega)).trans h.c0,(q _ _ (by omega)).trans h.c1,(q _ _ (by omega)).trans h.d0,(q _ _ (by omega)).trans h.d1,λj=>(f _ _ (by omega)).trans (h.f0 j),λj=>(f _ _ (by omega)).trans (h.f1 j),h.hb.trans (hb.mono (by omega)),by omega⟩
def Fam.alloc(h:Fam w wr lv cv fam sv nv n1 n2 xs ys)(o:Obj):Fam w (wr.alloc o) lv cv fam sv nv n1 n2 xs ys:=h.below (bA)
def Fam.drew(h:Fam w wr lv cv fam sv nv n1 n2 xs ys):Fam w wr.drew lv cv fam sv nv n1 n2 xs ys:=h.below (dA)
def Fam.add(h:Fam w wr lv cv fam sv nv n1 n2 xs ys){N:Nat}(hi:Zw wr.heap.size wr lvn l)(hf:∀b,lvn.ownBlock=some b->N<=b)(a0:∀b,sv.ownBlock=some b->b<N)(b0:∀b,nv.ownBlock=some b->b<N)(hN:w.heap.size+2<=N):Fam w wr lv cv (fam++[(lvn,l)]) sv nv n1 n2 xs ys:=by
 refine⟨h.hs,h.hn,λp hp=>?_,h.c0,h.c1,h.d0,h.d1,h.f0,h.f1,h.hb,h.hz⟩;simp only[mem_append,mem_singleton]at hp;rcases hp with hp|rfl
 ·exact h.aH p hp
 refine⟨⟨hi,λhx=>?_⟩,λ_ b hb=>by have:=hf b hb;omega⟩;obtain⟨b,hb,e0⟩:=zr4 hi hx;have:=hf b hb;exact⟨λhh=>by have:=a0 b (hh.symm.trans hb);omega,λhh=>by have:=b0 b (hh.symm.trans hb);omega⟩
def Fam.oR(h:Fam w wr lv cv fam sv nv n1 n2 xs ys):(∀b,b<w.heap.size+2->some b≠sv.ownBlock)/\(∀b,b<w.heap.size+2->some b≠nv.ownBlock):=
 ⟨λb hb hh=>by have:=(h.hs.lt b hh.symm).1;omega,λb hb hh=>by have:=(h.hn.lt b hh.symm).1;omega⟩
def Fam.first(h:Fam w wr lv cv fam sv nv n1 n2 xs ys){sv':Value}{n1':Nat}{xs':Vs}(ho:w'.ownsRow (w.heap.size+2) 3 1 sv' n1' xs')(hg:wr.grownBy w' sv.ownBlock)(hw:sv'.ownBlock=sv.ownBlock\/sv'.ownBlock=some wr.heap.size):Fam w w' lv cv fam sv' nv n1' n2 xs' ys:=by
 have hz:=h.hz;have a0:=h.oR.1;have f:∀b j,b<w.heap.size+2->w'.frozen? (Y b j)=wr.frozen? (Y b j):=λb j b0=>Qd (w:=wr) (hg.block b (by omega) (a0 b b0));refine⟨ho,h.hn.kept hg ?_,λp hp=>⟨(h.aH p hp).1.first hg hw,(h.aH p hp).2⟩,hg.cell h.c0 (a0 _ (by simp)),hg.cell h.c1 (a0 _ (by simp)),hg.cell h.d0 (a0 _ (by simp)),hg.cell h.d1 (a0 _ (by simp)),λj=>(f _ _ (by omega)).trans (h.f0 j),λj=>(f _ _ (by omega)).trans (h.f1 j),h.hb.grown hg (by omega) (λg hgg=>by have:=(h.hs.lt g hgg).1;omega),by have:=hg.size;omega⟩;exact zq8 h.hn h.hs (by decide)
def Fam.second(h:Fam w wr lv cv fam sv nv n1 n2 xs ys){nv':Value}{n2':Nat}{ys':Vs}(ho:w'.ownsRow (w.heap.size+2) 188 6 nv' n2' ys')(hg:wr.grownBy w' nv.ownBlock)(hw:nv'.ownBlock=nv.ownBlock\/nv'.ownBlock=some wr.heap.size):Fam w w' lv cv fam sv nv' n1 n2' xs ys':=by
 have hz:=h.hz;have a0:=h.oR.2;have f:∀b j,b<w.heap.size+2->w'.frozen? (Y b j)=wr.frozen? (Y b j):=λb j b0=>Qd (w:=wr) (hg.block b (by omega) (a0 b b0));refine⟨h.hs.kept hg ?_,ho,λp hp=>⟨(h.aH p hp).1.second hg hw,(h.aH p hp).2⟩,hg.cell h.c0 (a0 _ (by simp)),hg.cell h.c1 (a0 _ (by simp)),hg.cell h.d0 (a0 _ (by simp)),hg.cell h.d1 (a0 _ (by simp)),λj=>(f _ _ (by omega)).trans (h.f0 j),λj=>(f _ _ (by omega)).trans (h.f1 j),h.hb.grown hg (by omega) (λg hgg=>by have:=(h.hn.lt g hgg).1;omega),by have:=hg.size;omega⟩;exact zq8 h.hs h.hn (by decide)
def Fam.store(h:Fam w wr lv cv fam sv nv n1 n2 xs ys)(u:Value):Fam w (wr.setCell (Y (w.heap.size+1) 1) u) lv u fam sv nv n1 n2 xs ys:=by
 have hz:=h.hz
 have hs:(wr.setCell (Y (w.heap.size+1) 1) u).heap.size=wr.heap.size:=by simp[setCell]
 have q:∀j,(wr.setCell (Y (w.heap.size+1) 1) u).cell? (Y w.heap.size j)=wr.cell? (Y w.heap.size j):=λj=>by apply Qg;intro hh;injection hh with h2;omega
 refine⟨ownsRow_setCell_below h.hs (by simp) u,ownsRow_setCell_below h.hn (by simp) u,λp hp=>⟨(h.aH p hp).1.set (λhx=>?_),(h.aH p hp).2⟩,?_,cell?_setCell_same' _ _ _ (by simp[h.c1]),(q 0).trans h.d0,(q 1).trans h.d1,λj=>by rw[frozen?_setCell];exact h.f0 j,λj=>by rw[frozen?_setCell];exact h.f1 j,h.hb.setCell (by simp) u,by omega⟩
 ·intro hh
  have h3:w.heap.size+2<=w.heap.size+1:=(h.aH p hp).2 hx _ hh;omega
 have h4:(wr.setCell (Y (w.heap.size+1) 1) u).cell? (Y (w.heap.size+1) 0)=wr.cell? (Y (w.heap.size+1) 0):=by
  apply Qg;intro hh;injection hh with _ h2;exact absurd h2 (by decide)
 rw[h4];exact h.c0
end
def Vy:List Fl.ar->Vs->List (Value×Is)
 |n::ns,lv::lvs=>(lv,n.aU)::Vy ns lvs
 |_,_=>[]
def zu2:∀(ns:List Fl.ar) (lvs:Vs) (n:Fl.ar) (lv:Value),lvs.length=ns.length->Vy (ns++[n]) (lvs++[lv])=Vy ns lvs++[(lv,n.aU)]
 |[],[],n,lv,_=>rfl
 |m::ns,l::lvs,n,lv,h=>by simp only[cons_append,Vy,zu2 ns lvs n lv (by simpa using h)]
def zx1:∀(ns:List Fl.ar) (lvs:Vs) (i:Nat),lvs.length=ns.length->i<ns.length->(lvs.getD i Zq,(Fl.nth ns i).aU)∈Vy ns lvs
 |n::ns,lv::lvs,0,_,_=>by simp[Vy,Fl.nth]
 |n::ns,lv::lvs,i+1,h,hi=>by
  have:=zx1 ns lvs i (by simpa using h) (by simpa using hi);simp only[Vy,mem_cons];right;exact this
structure zu3(s:K)(Jb q0:Nat)(w:World)(lv:Value)(ls:Is)(wr:World)(k q:Nat)(sv nv:Value)(st:Is)(acc:List Fl.ar)(lvs:Vs):Prop where
 hk:k<=Jb
 hq:q<=s.length
 dx:st.length=k
 fg:acc.length=k
 gv:lvs.length=k
 fp:cF s Jb 0 q0 [] []=cF s (Jb - k) k q st acc
 hf:Fam w wr lv nv ((lv,ls)::Vy acc lvs) sv nv k k (st.map (int .i64)) (flat acc lvs)
def zu3.nodes{lv:Value}{nv:Value}(h:zu3 s Jb q0 w lv ls wr k q sv nv st acc lvs):Yz wr.heap.size wr nv acc:=
 zx0 (by rw[h.fg];exact h.hf.hn) (by rw[h.fg,h.gv]) (λi hi=>(h.hf.aH _ (by simp only[mem_cons];right;exact zx1 acc lvs i (by rw[h.fg,h.gv]) hi)).1.1)
def zu3.ak{lv:Value}{nv:Value}(h:zu3 s Jb q0 w lv ls wr k q sv nv st acc lvs):Zw wr.heap.size wr lv ls:=(h.hf.aH (lv,ls) (by simp)).1.1
def Fam.aX{lv:Value}{fam:List (Value×Is)}{nv:Value}{xs:Vs}(h:Fam w wr lv cv fam sv nv n1 n2 xs ys)(u u':Value):
  ((wr.setCell (Y w.heap.size 0) u).setCell (Y w.heap.size 1) u').ownsRow (w.heap.size+2) 188 6 nv n2 ys/\
  ∀p,p∈fam->Zw ((wr.setCell (Y w.heap.size 0) u).setCell (Y w.heap.size 1) u').heap.size ((wr.setCell (Y w.heap.size 0) u).setCell (Y w.heap.size 1) u') p.1 p.2:=by
 refine⟨ownsRow_setCell_below (ownsRow_setCell_below h.hn (by simp) u) (by simp) u',λp hp=>?_⟩
 have a0:p.2≠[]->p.1.ownBlock≠some w.heap.size:=λhx hh=>by
  have h3:w.heap.size+2<=w.heap.size:=(h.aH p hp).2 hx _ hh;omega
 exact Jz (Jz (h.aH p hp).1.1 a0) a0
def zu3.bB{lv:Value}{nv:Value}(h:zu3 s Jb q0 w lv ls wr k q sv nv st acc lvs)(hb:E wr w')(u u':Value):
  Zw ((w'.setCell (Y w.heap.size 0) u).setCell (Y w.heap.size 1) u').heap.size ((w'.setCell (Y w.heap.size 0) u).setCell (Y w.heap.size 1) u') lv ls/\
  Yz ((w'.setCell (Y w.heap.size 0) u).setCell (Y w.heap.size 1) u').heap.size ((w'.setCell (Y w.heap.size 0) u).setCell (Y w.heap.size 1) u') nv acc:=by
 have hr:=(h.hf.below hb).aX u u';exact⟨hr.2 (lv,ls) (by simp),zx0 (by rw[h.fg];exact hr.1) (by rw[h.fg,h.gv]) (λi hi=>hr.2 _ (by simp only[mem_cons];right;exact zx1 acc lvs i (by rw[h.fg,h.gv]) hi))⟩
def Uh{size:Nat}{xs:Vs}(h:w.ownsRow base e size v n xs):∃ao cap,v=J ao n cap:=by
 rcases h.2 with⟨rfl,rfl⟩|⟨g,cap,cur,rfl,_⟩
 ·exact⟨_,_,rfl⟩
 exact⟨_,_,rfl⟩
def yqv(vs:Vs):∀j u,vs[j]?=some u->(w.alloc (.cells vs.toArray e)).cell? (((Y w.heap.size 0):Addr).add j)=some u:=by
 intro j u hj
 have h2:((Y w.heap.size 0):Addr).add j=(Y w.heap.size j):=by unfold Addr.add;split<;>simp_all
 rw[h2,cell?_alloc_new];simpa using hj
def zu3.step{lv:Value}{nv:Value}{nd:Fl.ar}{af fb:Int}(h:zu3 s Jb q0 w lv ls wr k q sv nv st acc lvs)(b0:k<Jb)(ho:one s q k=(nd,af,fb))(c0:0<=af)(a0:af<=s.length)
  (hf:Fam w w' lv nv' (((lv,ls)::Vy acc lvs)++[(lvn,nd.aU)]) sv' nv' (k+1) (k+1) (st.map (int .i64)++[I (q:Int)]) (flat acc lvs++Yk nd lvn)):
  zu3 s Jb q0 w lv ls w' (k+1) af.toNat sv' nv' (st++[(q:Int)]) (acc++[nd]) (lvs++[lvn]):=by
 refine⟨by omega,by omega,by simp[h.dx],by simp[h.fg],by simp[h.gv],?_,?_⟩
 ·rw[h.fp,show Jb - k=(Jb - (k+1))+1 from by omega];simp only[cF,ho];rw[Z (by omega)]
 have bt:lvs.length=acc.length:=by rw[h.fg,h.gv]
 rw[zu2 _ _ _ _ bt,zq7 _ _ _ _ bt,map_append];exact hf
def Zf(e p:Int):List PanicEntry:=[{v:=.iface 177 (.agg #[I e,I p]),recovered:=false}]
structure Mv(w w':World)(b:Nat):Prop where
 g:w.grownBy w' (some b)
 o:∀j,j≠1->w'.cell? (Y b j)=w.cell? (Y b j)
 f:∀j,w'.frozen? (Y b j)=w.frozen? (Y b j)
def Mv.refl(w:World)(b:Nat):Mv w w b:=⟨grownBy.refl _ _,λ_ _=>rfl,λ_=>rfl⟩
def Mv.trans{w w1 w2:World}{b:Nat}(h:Mv w w1 b)(k:Mv w1 w2 b):Mv w w2 b:=
 ⟨⟨k.g.os.trans h.g.os,k.g.tape.trans h.g.tape,k.g.output.trans h.g.output,Nat.le_trans h.g.size k.g.size,λi hi a0=>(k.g.block i (Qj hi h.g.size) a0).trans (h.g.block i hi a0)⟩,λj hj=>(k.o j hj).trans (h.o j hj),λj=>(k.f j).trans (h.f j)⟩
def Mv.lt(h:Mv w w' b)(hb:b<w.heap.size):b<w'.heap.size:=Qj hb h.g.size
def Mv.set(w:World)(b:Nat)(u:Value):Mv w (w.setCell (Y b 1) u) b:=by
 refine⟨⟨rfl,rfl,rfl,by simp[setCell],λk hk a0=>Below.heap_setCell _ _ _ _ (by intro h;exact a0 (by rw[h]))⟩,λj hj=>?_,λj=>frozen?_setCell _ _ _ _⟩;apply Qg;intro hh;injection hh with _ h2;exact hj h2.symm
def Mv.cS(h:E w w')(hb:b<w.heap.size):Mv w w' b:=
 ⟨⟨h.os,h.tape,h.output,h.size,λk hk _=>h.block k hk⟩,λj _=>h.cell (p:=(Y b j)) hb,λj=>h.frozen (p:=(Y b j)) hb⟩
def Mv.grown{row:Option Nat}(h:w.grownBy w' row)(hr:some b≠row)(hb:b<w.heap.size)(aH:∀k,row=some k->w.heap.size<=k):Mv w w' b:=
 ⟨⟨h.os,h.tape,h.output,h.size,λk hk _=>h.block k hk (λe=>by have:=aH k e.symm;omega)⟩,λj _=>Qc (w:=w) (h.block b hb hr),λj=>Qd (w:=w) (h.block b hb hr)⟩
def Mv.below(h:Mv w w' b)(hB:B<=b)(hb:b<w.heap.size):Below B w w':=
 ⟨h.g.os,h.g.tape,h.g.output,h.g.size,λk hk=>h.g.block k (by omega) (by simp;omega)⟩
def Mv.dH{row:Option Nat}(h:Mv w w1 b)(g:w1.grownBy w2 row)(hb:b<w.heap.size)(aH:∀k,row=some k->w.heap.size<=k):Mv w w2 b:=by
 have a0:∀k,k<w.heap.size->some k≠row:=λk hk e=>by have:=aH k e.symm;omega
 have hz:=h.g.size;refine⟨⟨g.os.trans h.g.os,g.tape.trans h.g.tape,g.output.trans h.g.output,Nat.le_trans h.g.size g.size,λk hk b0=>(g.block k (by omega) (a0 k hk)).trans (h.g.block k hk b0)⟩,λj hj=>?_,λj=>?_⟩
 ·exact(Qc (w:=w1) (a:=(Y b j)) (g.block b (by omega) (a0 b hb))).trans (h.o j hj)
 exact(Qd (w:=w1) (a:=(Y b j)) (g.block b (by omega) (a0 b hb))).trans (h.f j)
def Mv.alloc{w w1:World}{b:Nat}(h:Mv w w1 b)(hb:b<w.heap.size)(o:Obj):Mv w (w1.alloc o) b:=h.dH (grownBy_alloc w1 o none) hb (λk e=>by cases e)
def Mv.fU(h:Mv w w1 b)(k:E w1 w2)(hb:b<w.heap.size):Mv w w2 b:=h.trans (Mv.cS k (h.lt hb))
def Mv.drew{w w':World}{b:Nat}(h:Mv w w' b):Mv w w'.drew b:=h.trans ⟨⟨rfl,rfl,rfl,lE,λ_ _ _=>rfl⟩,λ_ _=>rfl,λ_=>rfl⟩
def Mv.drewN{w w':World}{b:Nat}(h:Mv w w' b)(n:Nat):Mv w (w'.drewN n) b:=h.trans ⟨⟨rfl,rfl,rfl,lE,λ_ _ _=>rfl⟩,λ_ _=>rfl,λ_=>rfl⟩
structure Dr(w:World)(b:Nat)(ao:Option Addr)(cap:Nat)(s:K)(p:Nat):Prop where
 c0:w.cell? (Y b 0)=some (J ao s.length cap)
 c1:w.cell? (Y b 1)=some (I p)
 f1:w.frozen? (Y b 1)=false
 hb:s≠[]->∃bb bo,ao=some (Y bb bo)/\bb≠b/\∀i,i<s.length->w.cell? (Y bb (bo+i))=some (.int .u8 (s.getD i 0).toNat)
 hp:p<=s.length
 hs:s.length<=1099511627776
def Dr.lt(h:Dr w b ao cap s p):b<w.heap.size:=Qe w _ h.c0
def Dr.move(h:Dr w b ao cap s p)(m:Mv w w' b)(c:w'.cell? (Y b 1)=some (I q))(hq:q<=s.length):Dr w' b ao cap s q:=by
 refine⟨(m.o 0 (by decide)).trans h.c0,c,(m.f 1).trans h.f1,λb0=>?_,hq,h.hs⟩;obtain⟨bb,bo,ha,a0,hc⟩:=h.hb b0;exact⟨bb,bo,ha,a0,λi hi=>m.g.cell (hc i hi) (by simpa using a0)⟩
def Dr.set{w:World}{b:Nat}{ao:Option Addr}{cap:Nat}{s:K}{p q:Nat}(h:Dr w b ao cap s p)(hq:q<=s.length):Dr (w.setCell (Y b 1) (I q)) b ao cap s q:=
 h.move (Mv.set _ _ _) (cell?_setCell_same' _ _ _ (by simp[h.c1])) hq
def Dr.at{w:World}{b:Nat}{ao:Option Addr}{cap:Nat}{s:K}{p:Nat}(h:Dr w b ao cap s p)(a0:p<s.length):∃bb bo,ao=some (Y bb bo)/\bb≠b/\w.cell? (Y bb (bo+p))=some (.int .u8 (s.getD p 0).toNat):=by
 obtain⟨bb,bo,ha,b0,hc⟩:=h.hb (by intro hh;rw[hh]at a0;simp at a0);exact⟨bb,bo,ha,b0,hc p a0⟩
namespace Fl
def ed(s:K)(p:Nat)(lo hi:Int):Int×Int×Int:=
 if(num s p).2.1<0 then(0,-1,(num s p).2.2) else if(num s p).1<lo\/hi<(num s p).1 then(0,-1,(p:Int)) else((num s p).1,(num s p).2.1,0)
end Fl
section
def Uq(a0:o.guard=none)(t:TypeId)(parts:Array (Nat×Operand))(ho:o.op=.build t parts)(arr:Array Value)
  (fp:(Instr.build t (parts.map λ(i,x)=>(i,a.eval x))).run P w=.ok (.agg arr) w) (h:wpList P ops Q rest (a.put o.dst (.agg arr)) w):wpList P ops Q (o::rest) a w:=
 wpList_plain a0 λ_ hK=>by
  have b0:=hK _ _ h;unfold Oper.wp execOp;simp only[ho,Sem.run_bind,fp,Result.andThen_ok,Sem.run_pure];exact b0
def zz3(a0:o.guard=none)(x y:Operand)(t:TypeId)(ho:o.op=.store t x y)(w:World)(c c':Array Value)(hx:a.eval x=M w.heap.size)(hy:a.eval y=.agg c')
  (hi:(P.info? t).map (·.size)=some c'.size) (cH:c.size=c'.size) (h1:c'.all (·.oneCell')=true) (h:wpList P ops Q rest (a.put o.dst undef) (w.alloc (.cells c' t))):wpList P ops Q (o::rest) a (w.alloc (.cells c t)):=
 wpList_plain a0 λ_ hK=>by
  have b0:=hK _ _ h;unfold Oper.wp execOp;simp only[ho,Sem.run_bind,hx,hy,run_storeAt_new w t c c' hi cH h1,Result.andThen_ok,Sem.run_pure];exact b0
def zw7(a0:o.guard=none)(x y:Operand)(t:TypeId)(ho:o.op=.store t x y)(w:World)(N:Nat)(c c':Array Value)(hx:a.eval x=M N)(hN:w.heap.size=N)(hy:a.eval y=.agg c')
  (hi:(P.info? t).map (·.size)=some c'.size) (cH:c.size=c'.size) (h1:c'.all (·.oneCell')=true) (h:wpList P ops Q rest (a.put o.dst undef) (w.alloc (.cells c' t))):wpList P ops Q (o::rest) a (w.alloc (.cells c t)):=by
 subst hN;exact zz3 a0 x y t ho w c c' hx hy hi cH h1 h
def zdz(x y:Operand)(t:TypeId)(ho:o.op=.store t x y)(w:World)(c c':Array Value)(hx:a.eval x=M w.heap.size)(hy:a.eval y=.agg c')
  (hi:(P.info? t).map (·.size)=some c'.size) (cH:c.size=c'.size) (h1:c'.all (·.oneCell')=true):(execOp a.eval o).run P (w.alloc (.cells c t))=.ok .skip (w.alloc (.cells c' t)):=by
 unfold execOp;simp only[ho,Sem.run_bind,hx,hy,run_storeAt_new w t c c' hi cH h1,Result.andThen_ok,Sem.run_pure]
def zq9(a0:o.guard=none)(x:Operand)(t:TypeId)(ho:o.op=.load t x)(g:Nat)(hx:a.eval x=M g)(arr:Array Value)(te:TypeId)(fr:Nat×Nat)(hg:w.heap[g]?=some (.cells arr te fr))
  (d:TypeDesc) (hu:P.underlying t=some d) (hd:(match d with| .struct _| .array _ _=>true|_=>false)=true) (hi:(P.info? t).map (·.size)=some arr.size) (h:wpList P ops Q rest (a.put o.dst (.agg arr)) w):wpList P ops Q (o::rest) a w:=
 wpList_plain a0 λ_ hK=>by
  have b0:=hK _ _ h;unfold Oper.wp execOp;simp only[ho,Sem.run_bind,hx,Instr.loadAt,Instr.sureAddr,Sem.run_pure,Result.andThen_ok,run_loadVar_row w g te t arr fr d hg hu hd hi];exact b0
def Jx(a0:o.guard=none)(x y:Operand)(t:TypeId)(ho:o.op=.store t x y)(g:Nat)(hx:a.eval x=M g)(c c':Array Value)(hy:a.eval y=.agg c')(te:TypeId)(hg:w.heap[g]?=some (.cells c te (0,0)))
  (hi:(P.info? t).map (·.size)=some c'.size) (cH:c.size=c'.size) (h1:c'.all (·.oneCell')=true) (h:wpList P ops Q rest (a.put o.dst undef) (w.setRow g c')):wpList P ops Q (o::rest) a w:=
 wpList_plain a0 λ_ hK=>by
  have b0:=hK _ _ h;unfold Oper.wp execOp;simp only[ho,Sem.run_bind,hx,hy,Instr.storeAt,Instr.sureAddr,Sem.run_pure,Result.andThen_ok,run_storeVar_row w g te t c c' hg hi cH h1];exact b0
def Xm{L:Act->Prop}(a0:o.guard=none)(v:Value)(fp:(execOp a.eval o).run P w=.ok (.value v) w)(h:wpStill P ops w L rest (a.put o.dst v)):wpStill P ops w L (o::rest) a:=by
 unfold wpStill;simp only[wanted,a0,if_true,Oper.still,fp,Oper.stillUpon,true_and];exact h
def zy1(x:Operand)(t:TypeId)(ho:o.op=.load t x)(g:Nat)(hx:a.eval x=M g)(arr:Array Value)(te:TypeId)(fr:Nat×Nat)(hg:w.heap[g]?=some (.cells arr te fr))
  (d:TypeDesc) (hu:P.underlying t=some d) (hd:(match d with| .struct _| .array _ _=>true|_=>false)=true) (hi:(P.info? t).map (·.size)=some arr.size):(execOp a.eval o).run P w=.ok (.value (.agg arr)) w:=by
 unfold execOp;simp only[ho,Sem.run_bind,hx,Instr.loadAt,Instr.sureAddr,Sem.run_pure,Result.andThen_ok,run_loadVar_row w g te t arr fr d hg hu hd hi]
def Jk(m x:Operand)(t:TypeId)(ho:o.op=.lookup t m x true)(mv kv v:Value)(hm:a.eval m=mv)(hx:a.eval x=kv)(fp:(Instr.lookup t mv kv true).run P w=.ok v w):(execOp a.eval o).run P w=.ok (.value v) w:=by
 unfold execOp;simp only[ho,Sem.run_bind,hm,hx,fp,Result.andThen_ok,Sem.run_pure]
def zmv{fn:Func}{p:Tmp}(h:fn.results=#[.cell p ty])(tmps:Array Value)(w:World)(ad:Addr)(v:Value)(ha:tmps.getD p undef=.pointer (some ad))(hl:(loadVar ty ad).run P w=.ok v w):
  (results fn tmps).run P w=.ok v w:=by
 have ha':tmps[p]?.getD undef=.pointer (some ad):=by rw[<-ha,Array.getD_eq_getD_getElem?]
 simp only[results,h];simp[Sem.run_bind,Result.andThen,ha',asAddr,hl]
end
def zqz(n p:Int)(w:World):F 66 #[I n,I p] w λe w'=>e=.panicked (Zf n p)/\E w w':=by
 go_enter func66,ntmps66
 go_wp2;exact⟨rfl,rfl,Below.refl _ _⟩
def zxw(b:Nat)(p:Int)(w:World):F 78 #[M b,.bool true,I p] w (Rq (.tuple #[]) w):=by
 go_enter func78,ntmps78
 go_wp2
 go_end0
 exact⟨rfl,rfl⟩
def Vm(b:Nat)(p:Int)(w:World):F 78 #[M b,.bool false,I p] w λe w'=>e=.panicked (Zf 8 p)/\E w w':=by
 go_enter func78,ntmps78
 go_wp2_with (go_at_call 66;refine(zqz _ _ _).mono ?_;rintro e w' ⟨rfl,hb⟩)
 exact⟨rfl,rfl,hb⟩
def zdy(h:Dr w b ao cap s p)(a0:p<s.length):
  F 79 #[M b] w λe w'=>e=.returned (.int .u8 (s.getD p 0).toNat)/\Mv w w' b/\w'.cell? (Y b 1)=some (I ((p+1:Nat):Int)):=by
 obtain⟨bb,bo,rfl,b0,hc⟩:=h.at a0;have c0:=h.c0;have c1:=h.c1;have f1:=h.f1;have hs:=h.hs;generalize (s.getD p 0).toNat=x at*;clear h
 go_enter func79,ntmps79
 go_wp2_with fail
 go_still_tail 16,(by kernel_rfl)
 go_wp2_with (go_at_call 78;refine(zxw _ _ _).mono ?_;rintro e w' ⟨rfl,rfl⟩)
 go_quiet (fail)
 go_wp2;go_ret;exact⟨rfl,(Mv.set _ _ _).drew.drewN _,by simp;exact cell?_setCell_same' _ _ _ (by simp[c1])⟩
def zh3(h:Dr w b ao cap s p)(a0:¬p<s.length):
  F 79 #[M b] w λe w'=>e=.panicked (Zf 8 s.length)/\Mv w w' b:=by
 have hlb:=h.lt;have c0:=h.c0;have c1:=h.c1;have f1:=h.f1;have hs:=h.hs;clear h
 go_enter func79,ntmps79
 go_wp2_with fail
 go_still_tail 16,(by kernel_rfl)
 go_wp2_with (go_at_call 78;refine(Vm _ _ _).mono ?_;rintro e w' ⟨rfl,hb⟩;exact⟨rfl,rfl,Mv.cS (dA.trans hb) hlb⟩)
def Xg{id:Nat}{l:List Oper}(n g d g' d':Nat)(hm:P.follows .mixedOrders=true)(hB:Region.lexTailB .any l.toArray n=true)(hg:((l.toArray[g]?).bind λx=>x.dst)=some d)(hg':((l.toArray[g']?).bind λx=>x.dst)=some d')
  (h:∀ops:Array Oper,((ops[g]?).bind λx=>x.dst)=some d->((ops[g']?).bind λx=>x.dst)=some d'->wpStill P ops {w with drawn:=w.drawn+1} (λa'=>wpList P ops Q (l.drop n) a' {w with drawn:=w.drawn+1}) (l.take n) a):(Code.region id l.toArray true).wp P Q a w:=
 wp_region_still_tail n hm hB (h _ hg hg')
def Vl:Array Value:=#[
 .string ⟨#[108,101,118,101,108]⟩,.string ⟨#[110]⟩,.bool true,.func (.func 118) #[] #[],.string ⟨#[98,101,108,111,119]⟩,.string ⟨#[110,110]⟩,.bool true,.func (.func 119) #[] #[],.string ⟨#[99,101,108,108]⟩,.string ⟨#[110,110]⟩,.bool true,.func (.func 120) #[] #[],.string ⟨#[99,104,97,110,110,101,108]⟩,.string ⟨#[110,110]⟩,.bool true,.func (.func 121) #[] #[],.string ⟨#[98,101,103,105,110]⟩,.string ⟨#[]⟩,.bool true,.func (.func 122) #[] #[],.string ⟨#[115,101,116]⟩,.string ⟨#[110,97]⟩,.bool false,.func (.func 123) #[] #[],.string ⟨#[115,101,116]⟩,.string ⟨#[110,97,111,97]⟩,.bool false,.func (.func 123) #[] #[],.string ⟨#[111,117,116]⟩,.string ⟨#[110,97]⟩,.bool false,.func (.func 124) #[] #[],.string ⟨#[105,102]⟩,.string ⟨#[97]⟩,.bool false,.func (.func 125) #[] #[],.string ⟨#[101,108,115,101]⟩,.string ⟨#[]⟩,.bool false,.func (.func 126) #[] #[],.string ⟨#[119,104,105,108,101]⟩,.string ⟨#[97]⟩,.bool false,.func (.func 127) #[] #[],.string ⟨#[101,110,100]⟩,.string ⟨#[]⟩,.bool false,.func (.func 128) #[] #[]]
def zlz(k:Nat):Nat:=[118,119,120,121,122,123,123,124,125,126,127,128].getD k 0
def yj1(k:Nat)(h:k<12):Vl[k*4]?=some (.string ⟨(eg k).1.toArray⟩)/\Vl[k*4+1]?=some (.string ⟨(eg k).2.1.toArray⟩)/\Vl[k*4+2]?=some (.bool (eg k).2.2)/\Vl[k*4+3]?=some (.func (.func (zlz k)) #[] #[]):=by
 rcases(show k=0\/k=1\/k=2\/k=3\/k=4\/k=5\/k=6\/k=7\/k=8\/k=9\/k=10\/k=11 by omega) with rfl|rfl|rfl|rfl|rfl|rfl|rfl|rfl|rfl|rfl|rfl|rfl<;>exact⟨rfl,rfl,rfl,rfl⟩
def yj2(k:Nat)(h:k<12):(∀c∈(eg k).2.1,c=110\/c=97\/c=111)/\(eg k).2.1.length<=4:=by
 rcases(show k=0\/k=1\/k=2\/k=3\/k=4\/k=5\/k=6\/k=7\/k=8\/k=9\/k=10\/k=11 by omega) with rfl|rfl|rfl|rfl|rfl|rfl|rfl|rfl|rfl|rfl|rfl|rfl<;>decide
def yn1(k:Nat)(h:k<12):∀args W,(callFunc (zlz k) args).run prog W=.ok (.enter (zlz k) args) W:=by
 intro args W;rcases(show k=0\/k=1\/k=2\/k=3\/k=4\/k=5\/k=6\/k=7\/k=8\/k=9\/k=10\/k=11 by omega) with rfl|rfl|rfl|rfl|rfl|rfl|rfl|rfl|rfl|rfl|rfl|rfl<;>kernel_rfl
def yy4(w:World):F 67 #[] w λe w'=>e=.returned (Sq w.heap.size 0 12 12)/\w'=w.alloc (.cells Vl 238):=by
 go_enter func67,ntmps67
 go_wp2_with fail
 go_ret;exact⟨rfl,rfl⟩
def Xc(b:Nat)(n:Int)(w:World):F 71 #[M b,.bool true,I n] w (Rq (.tuple #[]) w):=by
 go_enter func71,ntmps71
 go_wp2
 go_end0
 exact⟨rfl,rfl⟩
def Ye(b:Nat)(n p:Int)(w:World)(hp:w.cell? (Y b 1)=some (I p)):F 71 #[M b,.bool false,I n] w λe w'=>e=.panicked (Zf n p)/\E w w':=by
 go_enter func71,ntmps71
 go_wp2_with (go_at_call 66;refine(zqz _ _ _).mono ?_;rintro e w' ⟨rfl,hb⟩)
 exact⟨rfl,rfl,hb⟩
def Tryz.infoLineRule:(Tryz.prog.info? 238).map (·.size)=some 4:=by kernel_rfl
def lrOne(a b:ByteArray)(c:Bool)(f:Nat):(#[.string a,.string b,.bool c,.func (.func f) #[] #[]]:Array Value).all (·.oneCell')=true:=by kernel_rfl
def ys8(R T:Nat)(b off n cap:Nat)(ws:List K)(ap:Int)(ae:Bool)(w:World)(Wq:World->Prop)(Rp:Int->Int->World->Prop)
  (hT:w.heap[T]?=some (.cells Vl 238 (0,0))) (J0:Zi w.heap.size w (.slice (some (Y b off)) n cap) ws) (K0:ws≠[])
  (hl:w.cell? (Y R 1)=some (I ap)) (L0:w.cell? (Y R 2)=some (.bool ae))
  (i0:(∀k,k<12->bN ws k=false)->∀W,E w W->Rp 2 ap W)
  (M0:∀k,k<12->bN ws k=true->(eg k).2.2=ae->∀W,E w W->Rp 3 ap W)
  (d0:∀k,k<12->bN ws k=true->(eg k).2.2≠ae->∀W v,E w W->Zi w.heap.size W v (ws.drop 1)->v.ownBlock=some b->F (zlz k) #[M R,v] W λe W'=>(e=.returned (.tuple #[])/\Wq W')\/∃n p,e=.panicked (Zf n p)/\Rp n p W'):
  F 70 #[M R,.slice (some (Y T 0)) 12 12,.slice (some (Y b off)) n cap] w λe W'=>(e=.returned (.tuple #[])/\Wq W')\/∃n p,e=.panicked (Zf n p)/\Rp n p W':=by
 have HT:=A hT;have HW:=A J0;have HL:=A hl;have d1:=A L0;have p0:=A i0;have e1:=A M0;have j0:=A d0;clear hT J0 hl L0 i0 M0 d0
 go_enter func70,ntmps70
 go_wp2_with fail
 go_loopw [10] (λi wr=>∃(k:Nat),k<=12/\i=I k/\E w wr/\∀j,j<k->bN ws j=false) (λi _=>12 - (intOf i).toNat)
 case atStart=>exact⟨0,by omega,rfl,Below.refl _ _,λj hj=>by omega⟩
 case round=>
  obtain⟨k,hk,rfl,a0,dS⟩:=hrel;have s0:=A dS;have HB:=A a0;have f1:T<w.heap.size:=(Array.getElem?_eq_some_iff.1 HT).1;have t0:R<w.heap.size:=Qe w (Y R 1) HL.out;have g1:=a0.size;clear dS
  by_cases k0:k<12
  ·have N0:wr.heap[T]?=some (.cells Vl 238 (0,0)):=(a0.block T f1).trans HT.out
   obtain⟨O0,P0,Q0,R0⟩:=yj1 k k0
   have hc:∀j v,Vl[k*4+j]?=some v->wr.cell? (Y T (k*4+j))=some v:=λj v hv=>by
    unfold cell?;simp only[N0];simpa using hv
   have q0:wr.cell? (Y T (k*4))=some (.string ⟨(eg k).1.toArray⟩):=hc 0 _ (by simpa using O0);have q1:=hc 1 _ P0;have q2:=hc 2 _ Q0;have q3:=hc 3 _ R0;obtain⟨wd,u0⟩:=U ((eg k).1);obtain⟨sh,n0⟩:=U ((eg k).2.1);obtain⟨ah,v0⟩:=U ((eg k).2.2);obtain⟨fn,x0⟩:=U (zlz k);rw[<-u0]at q0;rw[<-n0]at q1;rw[<-v0]at q2;rw[<-x0]at q3;obtain⟨ao',cap',S0,u1,y0,v1,h1,T0⟩:=HW.out;simp only[slice.injEq]at S0;obtain⟨rfl,rfl,rfl⟩:=S0;obtain⟨b',off',U0,i1,e0⟩:=T0 K0;simp only[Ql,Addr.mk.injEq,and_true]at U0;obtain⟨rfl,rfl⟩:=U0;obtain⟨x,hx⟩:=U (ws.getD 0 []);have z0:0<ws.length:=length_pos_iff.2 K0;have A0:wr.cell? (Y b off)=some (Tq x):=by
    rw[a0.cell (p:=(Y b off)) i1,hx];have:=e0 0 z0;simpa [strV] using this
   have HX:=A hx;have V0:=A x0;have W0:=A v0;have B0:O (bN ws k=(x==wd && bW sh (ws.drop 1))):=(by show _=_;rw[hx,u0,n0];rfl);have X0:O ((∀c∈sh,c=110\/c=97\/c=111)/\sh.length<=4):=(by show _/\_;rw[n0];exact yj2 k k0);have x1:(k:Int)<12:=(by omega);clear hc O0 P0 Q0 R0 u0 n0 v0 x0 hx e0 N0 T0 h1
   go_wp2_with (refine zz3 rfl _ _ 238 rfl wr _ #[Tq wd,Tq sh,.bool ah,.func (.func fn) #[] #[]] rfl rfl Tryz.infoLineRule (by rfl) (lrOne _ _ _ _) ?_)
   obtain⟨W1,b0⟩:=U (wr.alloc (.cells #[Tq wd,Tq sh,.bool ah,.func (.func fn) #[] #[]] 238));obtain⟨rb,g0⟩:=U (wr.heap.size);rw[<-b0,<-g0];have Y0:E w W1:=(by rw[b0];exact a0.alloc g1 _);have r0:W1.cell? (Y rb 0)=some (Tq wd):=(by rw[b0,g0];exact cell?_alloc_new _ _ _ _);have r1:W1.cell? (Y rb 1)=some (Tq sh):=(by rw[b0,g0];exact cell?_alloc_new _ _ _ _);have r2:W1.cell? (Y rb 2)=some (.bool ah):=(by rw[b0,g0];exact cell?_alloc_new _ _ _ _);have r3:W1.cell? (Y rb 3)=some (.func (.func fn) #[] #[]):=(by rw[b0,g0];exact cell?_alloc_new _ _ _ _);have j1:W1.cell? (Y b off)=some (Tq x):=(by rw[b0];exact(Qf _ _ _ (Qe wr _ A0)).trans A0);have C0:=A Y0;have y1:w.heap.size<W1.heap.size:=(by rw[b0];simp;omega);have Z0:rb<W1.heap.size:=(by rw[b0,g0];simp);clear q0 q1 q2 q3 A0 b0 g0 a0 Y0;unfold maxLen at y0
   cases a1:x==wd with
   |false=>
    have D0:O (∀j,j<k+1->bN ws j=false):=λj hj=>by
     by_cases E0:j=k
     ·subst E0;rw[B0.out,a1];rfl
     exact s0 j (by omega)
    refine Xg 11 6 _ 6 _ (by kernel_rfl) (by kernel_rfl) rfl rfl (λops hY k1=>?_);simp only[take_succ_cons,take_zero,drop_succ_cons,drop_zero]
    iterate 11 still_step
    refine wpStill_nil ?_;go_wp2
    go_roundw
    case rel=>exact⟨k+1,by omega,by go_num,C0.drew,D0⟩
    case measure=>simp[intOf];omega
   |true=>
    have l1:(1:Int)<=(ws.length:Int):=(by omega);have m1:(ws.length:Int)<=(cap:Int):=(by omega)
    by_cases l0:cap=1
    all_goals
     (try subst l0)
     refine Xg 11 6 _ 6 _ (by kernel_rfl) (by kernel_rfl) rfl rfl (λops hY k1=>?_);simp only[take_succ_cons,take_zero,drop_succ_cons,drop_zero]
     iterate 11 still_step
     refine wpStill_nil ?_
     go_wp2_with fail
    all_goals first
     |obtain⟨sv,f0⟩:=U (slice (some (Y b off)) 0 0)
      rw[<-f0]
      have F0:O (∀W,E w W->Zi w.heap.size W sv (ws.drop 1)):=λW hW=>by
       have:ws.drop 1=[]:=drop_eq_nil_of_le (by omega);rw[this,f0];exact⟨_,_,rfl,by simp,by simp[maxLen],by simp,by simp,λh=>absurd rfl h⟩
     |obtain⟨sv,f0⟩:=U (slice (some (Y b (off+1))) (ws.length - 1) (cap - 1))
      rw[<-f0]
      have F0:O (∀W,E w W->Zi w.heap.size W sv (ws.drop 1)):=λW hW=>by
       rw[f0];exact(HW.below hW).drop 1 (by omega)
    all_goals
     have n1:=A f0;have o1:O (sv.ownBlock=some b):=(by rw[f0];rfl);clear f0;have HF:=ye0 w.heap.size sh sv (ws.drop 1) W1.drew (F0 _ C0.drew) (by simp;omega) X0.1 X0.2;refine HF.mono ?_;clear HF;rintro e W2 ⟨rfl,h0⟩;have m0:O (E w W2):=C0.drew.trans (h0.mono (by simp;omega));have s2:W2.cell? (Y rb 2)=some (.bool ah):=cT h0 (by simpa using Z0) r2;have s3:W2.cell? (Y rb 3)=some (.func (.func fn) #[] #[]):=cT h0 (by simpa using Z0) r3;have t2:W2.cell? (Y R 2)=some (.bool ae):=cT m0 t0 d1.out;have t1:W2.cell? (Y R 1)=some (I ap):=cT m0 t0 HL.out;have z1:w.heap.size<W2.heap.size:=(by have:=h0.size;simp at this;omega);clear h0 r0 r1 r2 r3 j1
     cases c0:bW sh (ws.drop 1) with
     |false=>
      have D0:O (∀j,j<k+1->bN ws j=false):=λj hj=>by
       by_cases E0:j=k
       ·subst E0;rw[B0.out,c0];simp
       exact s0 j (by omega)
      clear c0 s2 s3 t1 t2;go_wp2
      go_roundw
      case rel=>exact⟨k+1,by omega,by go_num,m0,D0⟩
      case measure=>simp[intOf];omega
     |true=>
      have b1:O (bN ws k=true):=(by show _=_;rw[B0.out,a1,c0];rfl);clear c0
      by_cases G0:ah=ae
      ·subst G0
       have o0:O (F 71 #[M R,.bool false,I 3] W2.drew λe w'=>e=.panicked (Zf 3 ap)/\Below W2.drew.heap.size W2.drew w'):=Ye R 3 ap W2.drew t1;have b9:(ah !=ah)=false:=(by simp)
       go_wp2_with fail
       go_still_tail 8,(by kernel_rfl)
       go_wp2_with fail
       refine o0.mono ?_;rintro e W3 ⟨rfl,p1⟩;exact⟨rfl,.inr ⟨_,_,rfl,e1 k k0 b1 W0.symm W3 (m0.drew.trans (p1.mono (by simp;omega)))⟩⟩
      have b9:(ah==ae)=false:=beq_eq_false_iff_ne.2 G0;have o0:O (F 71 #[M R,.bool true,I 3] W2.drew (Rq (.tuple #[]) W2.drew)):=Xc R 3 W2.drew;have A1:∀args W,(callFunc fn args).run prog W=.ok (.enter fn args) W:=(by rw[V0.out];exact yn1 k k0)
      go_wp2_with fail
      go_still_tail 8,(by kernel_rfl)
      go_wp2_with fail
      refine o0.mono ?_;rintro e W3 ⟨rfl,H0⟩;have u3:W3.cell? (Y rb 3)=some (.func (.func fn) #[] #[]):=(by rw[H0];exact s3);have c1:O (E w W3):=(by rw[H0];exact m0.drew);clear H0 s2 s3 t1 t2 o0
      go_wp2_with fail
      go_still_tail 5,(by kernel_rfl)
      go_wp2_with fail
      have I0:=j0 k k0 b1 (by rw[<-W0.out];exact G0) W3.drew sv c1.drew (F0 _ c1.drew) o1.out;rw[<-V0.out,n1.out]at I0;refine I0.mono ?_;clear I0;rintro e W4 (⟨rfl,hG⟩|⟨n,p,rfl,hR⟩)
      ·have HG:=A hG
       clear hG;go_wp2
       (try simp only[Exit.inBlock,Exit.then])
       refine bodyPost_ret (results_none rfl _ _ _) rfl ?_;exact .inl ⟨rfl,HG⟩
      exact⟨rfl,.inr ⟨_,_,rfl,hR⟩⟩
  obtain rfl:k=12:=by omega
  have s1:O (∀W,E w W->F 71 #[M R,.bool false,I 2] W λe w'=>e=.panicked (Zf 2 ap)/\E W w'):=λW hW=>Ye R 2 ap W (cT hW t0 HL);clear a0
  go_wp2_with fail
  refine(s1 _ HB).mono ?_;rintro e w2 ⟨rfl,h0⟩;exact⟨rfl,.inr ⟨_,_,rfl,p0 s0 w2 (HB.trans (h0.mono (by omega)))⟩⟩
open Go.Maps Go.WideMaps
namespace Fl
def dY(w:List UInt8):∀(l:List (List UInt8)) (i:Nat),bm i w l=if bm 0 w l<0 then -1 else(i:Int)+bm 0 w l
 |[],i=>by simp[bm]
 |x::r,i=>by
  simp only[bm]
  by_cases hx:(x==w)=true
  ·simp only[hx,if_true];simp
  simp only[show (x==w)=false by simpa using hx,Bool.false_eq_true,if_false];rw[dY w r (i+1),dY w r (0+1)]
  by_cases h:bm 0 w r<0
  ·simp[h]
  simp only[h,if_false];rw[if_neg (by omega)];omega
def aO(l:List (List UInt8))(w:List UInt8):ai l w= -1\/(0<=ai l w/\ai l w<l.length):=by
 unfold ai
 induction l with
 |nil=>left;rfl
 |cons x r ih=>
  simp only[bm,length_cons]
  by_cases hx:(x==w)=true
  ·right;simp only[hx,if_true];omega
  simp only[show (x==w)=false by simpa using hx,Bool.false_eq_true,if_false];rw[dY];rcases ih with h|h
  ·left;rw[h];rfl
  right;rw[if_neg (by omega)];omega
def eG(a b:List (List UInt8))(w:List UInt8):ai (a++b) w=if 0<=ai a w then ai a w else if 0<=ai b w then(a.length:Int)+ai b w else -1:=by
 induction a with
 |nil=>
  rcases aO b w with h|h
  ·simp[ai,bm]at h⊢;rw[h];simp
  have:¬(0<=ai ([]:List (List UInt8)) w):=by simp[ai,bm]
  simp only[nil_append,this,if_false,h.1,if_true,length_nil];omega
 |cons x r ih=>
  unfold ai at ih⊢;simp only[cons_append,bm,length_cons]
  by_cases hx:(x==w)=true
  ·simp[hx]
  simp only[show (x==w)=false by simpa using hx,Bool.false_eq_true,if_false];rw[dY w (r++b),dY w r (0+1),ih];have h1:=aO r w;have h2:=aO b w;unfold ai at h1 h2;rcases h1 with h1|h1
  ·rw[h1];simp only[show ¬(0:Int)<= -1 by omega,if_false]
   rcases h2 with h2|h2
   ·rw[h2];simp
   simp only[h2.1,if_true];rw[if_neg (by omega)];simp only[show (-1:Int)<0 by omega,if_true,show ¬(0:Int)<= -1 by omega,if_false];push_cast;omega
  simp only[h1.1,if_true];rw[if_neg (by omega),if_pos (by omega)]
def iW(a:List (List UInt8))(w:List UInt8)(h:ai a w<0):ai (a++[w]) w=a.length:=by
 rw[eG,if_neg (by omega)]
 have:ai [w] w=0:=by simp[ai,bm]
 rw[this];simp
def iw(a:List (List UInt8))(w x:List UInt8)(h:x≠w):ai (a++[w]) x=ai a x:=by
 rw[eG]
 have:ai [w] x= -1:=by simp[ai,bm,Ne.symm h]
 rw[this];rcases aO a x with h1|h1
 ·rw[h1];simp
 simp[h1.1]
end Fl
def Yy(w:World)(b:Nat)(names:List (List UInt8)):Prop:=
 ∃n Qu,w.ownsMap (H:=Unit) prog 9 (plainElem prog 3) b n Qu/\n<=names.length/\Maps.size Qu=names.length/\Tidy Qu/\IsMap Qu/\
  ∀x,Maps.has Qu (.string x)=decide (0<=Fl.ai names x)/\Qu.atKey (.string x) (.lit (.int .i64 0))=.lit (.int .i64 (max 0 (Fl.ai names x)))
def zly:Keyed prog 9:=string_keyed underlying9
def ye2(w:World):(zeroValue 3).run prog w=.ok (.int .i64 0) w:=by kernel_rfl
def yj3(x:List UInt8)(h:x.length<=100000):keyOf prog 9 (.string ⟨x.toArray⟩)=some (.string x):=by
 have:=keyOf_string_mk (P:=prog) underlying9 (s:=⟨x.toArray⟩) (by show x.toArray.size<=_;simp[maxLen];omega);simpa using this
def Yy.kept{w w':World}{b:Nat}{names:List (List UInt8)}(h:Yy w b names){row:Option Nat}(g:w.grownBy w' row)(hb:some b≠row):Yy w' b names:=by
 obtain⟨n,Qu,h1,h2⟩:=h;exact⟨n,Qu,h1.kept g hb,h2⟩
def Yy.block(h:Yy w b names)(hb:w'.heap[b]?=w.heap[b]?):Yy w' b names:=by
 obtain⟨n,Qu,⟨es,clock,h1,h1'⟩,h2⟩:=h;exact⟨n,Qu,⟨es,clock,by rw[hb];exact h1,h1'⟩,h2⟩
def Yy.lt{w:World}{b:Nat}{names:List (List UInt8)}(h:Yy w b names):b<w.heap.size:=by
 obtain⟨n,Qu,h1,h2⟩:=h;exact h1.lt
def Yy.made(w:World):Yy (w.alloc (.map #[] 0)) w.heap.size []:=
 ⟨0,.map [],ownsMap_made w _ _ _,Nat.le_refl _,rfl,(ownsMap_made (H:=Unit) w prog 9 (plainElem prog 3)).tidy zly,(ownsMap_made (H:=Unit) w prog 9 (plainElem prog 3)).isMap,λx=>⟨by simp[Maps.has,Fl.ai,Fl.bm],by simp[DataW.atKey,Fl.ai,Fl.bm];decide⟩⟩
def Yy.look(h:Yy w b names)(x:List UInt8)(hx:x.length<=100000):
  (Instr.lookup 119 (.map (some b)) (.string ⟨x.toArray⟩) true).run prog w=.ok (.tuple #[.int .i64 (max 0 (Fl.ai names x)),.bool (decide (0<=Fl.ai names x))]) w:=by
 obtain⟨n,Qu,h1,h2,h3,h4,h5,h6⟩:=h;obtain⟨v,ps,hr,hv⟩:=h1.look_ok zly underlying119 (ye2 w) (zd:=.lit (.int .i64 0)) (zp:=[]) (plainElem_int underlying3 (by decide)) (yj3 x hx);obtain⟨c,rfl,hc,_⟩:=plainElem_int_inv underlying3 hv;rw[(h6 x).2]at hc;rw[hr,(h6 x).1];simp only[Prod.mk.injEq,DataW.lit.injEq,Lit.int.injEq,true_and]at hc;rw[hc.1]
def Yy.iG(h:Yy w b names)(x:List UInt8)(hx:x.length<=100000):
  ∃(mx:Int) (tb:Bool),(Instr.lookup 119 (.map (some b)) (.string ⟨x.toArray⟩) true).run prog w=.ok (.tuple #[.int .i64 mx,.bool tb]) w/\tb=decide (0<=Fl.ai names x)/\mx=max 0 (Fl.ai names x):=⟨_,_,h.look x hx,rfl,rfl⟩
def Yy.len{w:World}{b:Nat}{names:List (List UInt8)}(h:Yy w b names)(ty:TypeId):(Builtin.len_ #[119] ty #[.map (some b)]).run prog w=.ok (.int .i64 names.length) w:=by
 obtain⟨n,Qu,h1,h2,h3,h4⟩:=h;rw[h1.len underlying119 ty,h3]
def Yy.put(h:Yy w b names)(x:List UInt8)(hx:x.length<=100000)(dS:Fl.ai names x<0)(hn:names.length<=100):
  ∃w',(Instr.mapUpdate 119 (.map (some b)) (.string ⟨x.toArray⟩) (.int .i64 names.length)).run prog w=.ok () w'/\Yy w' b (names++[x])/\w.grownBy w' (some b):=by
 obtain⟨n,Qu,h1,h2,h3,h4,h5,h6⟩:=h;obtain⟨w',hr,ho,ht⟩:=h1.store zly underlying119 (by unfold maxLen;omega) (yj3 x hx) (plainElem_int underlying3 (show (Lit.int .i64 (names.length:Int)).wf=true from WalkArith.wf_i64 (by omega)));refine⟨w',hr,⟨n+1,_,ho,by simp;omega,?_,ho.tidy zly,ho.isMap,λy=>?_⟩,ht.grown⟩
 ·rw[size_put h4,(h6 x).1,h3];simp[dS]
 by_cases hy:y=x
 ·subst hy
  rw[has_put_same h5 (by simp[WideAt.IsKeyLit]),atKey_put_same h5 (by simp[WideAt.IsKeyLit]),Fl.iW _ _ dS];simp
 have a0:(Lit.string y)≠ .string x:=by simpa using hy
 rw[has_put_other a0,atKey_put_other a0,Fl.iw _ _ _ hy];exact h6 y
end Go.Proofs.YtjmcibbdedlcoaaGreatDoor
namespace Go.Proofs.YtjmcibbdedlcoaaGreatDoor
open Go.RowKit Go.Proofs.Tryz List World Region Value Fl
variable{P:Program}{ops:Array Oper}{rest:List Oper}{o:Oper}{a:Act}{Q:Exit->Act->World->Prop}{w w' wr w1 w2:World}{ty e:TypeId}{t:cG}{base n n1 n2 Jb q0 k q b B cap p Lb Pb:Nat}{v u sv sv' nv' cv lvn:Value}{xs l ls st vs:Is}{lvs ys:Vs}{s:K}{acc:List Fl.ar}{ao:Option Addr}{names:List (List UInt8)}{S:Nat->Prop}
structure Zh(w:World)(b n:Nat)(f:Nat->Value):Prop where
 c:∀j,j<n->w.cell? (Y b j)=some (f j)
 z:∀j,w.frozen? (Y b j)=false
abbrev rw_(l:Vs):Nat->Value:=λi=>l.getD i undef
def ptr(b:Nat):Value:=M b
def Zh.block{f:Nat->Value}(h:Zh w b n f)(hb:w'.heap[b]?=w.heap[b]?):Zh w' b n f:=
 ⟨λj hj=>cQ hb (h.c j hj),λj=>fQ hb (h.z j)⟩
def Zh.set{f:Nat->Value}(h:Zh w b n f){j:Nat}(hj:j<n)(v:Value):Zh (w.setCell (Y b j) v) b n (λi=>if i=j then v else f i):=by
 refine⟨λi hi=>?_,λi=>by rw[frozen?_setCell];exact h.z i⟩
 by_cases a0:i=j
 ·subst a0;rw[G rfl];exact cell?_setCell_same' _ _ _ (by simp[h.c i hi])
 rw[Z a0];refine(Qg _ _ _ _ ?_).trans (h.c i hi);intro hh;injection hh with _ h2;exact a0 (by omega)
def Zh.lt{f:Nat->Value}(h:Zh w b n f)(hn:0<n):b<w.heap.size:=Qe w (Y b 0) (h.c 0 hn)
def Zh.new(w:World)(l:Vs)(t:TypeId):Zh (w.alloc (.cells l.toArray t)) w.heap.size l.length (rw_ l):=by
 refine⟨λj hj=>?_,λj=>by rw[frozen?,heap_alloc_new];simp⟩;rw[cell?_alloc_new];simp[rw_,Qa,hj]
def Zh.congr{f g:Nat->Value}(h:Zh w b n f)(hg:∀j,j<n->f j=g j):Zh w b n g:=⟨λj hj=>by rw[<-hg j hj];exact h.c j hj,h.z⟩
def Zx(w:World)(b j:Nat)(v:Value)(k:Nat)(hk:k≠b):(w.setCell (Y b j) v).heap[k]?=w.heap[k]?:=Below.heap_setCell w (Y b j) v k hk
def Zy(w:World)(a:Addr)(v:Value):(w.setCell a v).heap.size=w.heap.size:=by simp[setCell]
def Xy(S:Nat->Prop)(w:World)(p:Value)(a:Fl.dI):Prop:=
 ∃vb,p=ptr vb/\S vb/\Zh w vb 4 (rw_ [I (if a.var then 1 else 0),I a.v,.pointer none,.pointer none])
def zy7(S:Nat->Prop)(w:World)(p:Value)(e:Fl.da):Prop:=
 (e.op= -1/\Xy S w p e.a)\/(0<=e.op/\∃vb x y,p=ptr vb/\S vb/\Zh w vb 4 (rw_ [I 2,I e.op,x,y])/\Xy S w x e.a/\Xy S w y e.b)
def zy2(Wx:(Nat->Prop)->World->Value->List Fl.aa->Prop)(S:Nat->Prop)(w:World)(p:Value)(s:Fl.aa):Prop:=
 ∃sb vp fv ev,p=ptr sb/\S sb/\Zh w sb 6 (rw_ [I s.kind,I s.ap,I s.x,vp,fv,ev])/\zy7 S w vp s.e/\Wx S w fv s.aZ/\Wx S w ev s.aP
def noS:Fl.aa:=⟨0,0,0,⟨-1,⟨false,0⟩,⟨false,0⟩⟩,[],[]⟩
def Zl:Nat->(Nat->Prop)->World->Value->List Fl.aa->Prop
 |0,_,_,v,l=>l=[]/\v=Zq
 |d+1,S,w,v,l=>∃ao cap,v=J ao l.length cap/\l.length<=cap/\cap<=maxLen/\l.length<=16/\
   (l≠[]->∃b off,ao=some (Y b off)/\S b/\∀i,i<l.length->∃p,w.cell? (Y b (off+i))=some p/\zy2 (Zl d) S w p (l.getD i noS))
section
variable{S':Nat->Prop}
def Xy.kept{p:Value}{a:Fl.dI}(h:Xy S w p a)(hS:∀b,S b->S' b)(hw:∀b,S b->w'.heap[b]?=w.heap[b]?):Xy S' w' p a:=by
 obtain⟨vb,h1,h2,h3⟩:=h;exact⟨vb,h1,hS _ h2,h3.block (hw _ h2)⟩
def zy7.kept{p:Value}{e:Fl.da}(h:zy7 S w p e)(hS:∀b,S b->S' b)(hw:∀b,S b->w'.heap[b]?=w.heap[b]?):zy7 S' w' p e:=by
 rcases h with⟨h1,h2⟩|⟨h1,vb,x,y,h2,h3,h4,h5,h6⟩
 ·exact .inl ⟨h1,h2.kept hS hw⟩
 exact .inr ⟨h1,vb,x,y,h2,hS _ h3,h4.block (hw _ h3),h5.kept hS hw,h6.kept hS hw⟩
def zy2.kept{Wx:(Nat->Prop)->World->Value->List Fl.aa->Prop}(hK:∀v l,Wx S w v l->Wx S' w' v l){p:Value}{s:Fl.aa}(h:zy2 Wx S w p s)(hS:∀b,S b->S' b)(hw:∀b,S b->w'.heap[b]?=w.heap[b]?):zy2 Wx S' w' p s:=by
 obtain⟨sb,vp,fv,ev,h1,h2,h3,h4,h5,h6⟩:=h;exact⟨sb,vp,fv,ev,h1,hS _ h2,h3.block (hw _ h2),h4.kept hS hw,hK _ _ h5,hK _ _ h6⟩
def Zl.kept(hS:∀b,S b->S' b)(hw:∀b,S b->w'.heap[b]?=w.heap[b]?):∀(d:Nat) (v:Value) (l:List Fl.aa),Zl d S w v l->Zl d S' w' v l
 |0,_,_,h=>h
 |d+1,v,l,h=>by
  obtain⟨ao,cap,h1,h2,h3,h4,h5⟩:=h;refine⟨ao,cap,h1,h2,h3,h4,λa0=>?_⟩;obtain⟨b,off,e,hb,hc⟩:=h5 a0;refine⟨b,off,e,hS b hb,λi hi=>?_⟩;obtain⟨p,hp,b0⟩:=hc i hi;exact⟨p,cQ (hw b hb) hp,b0.kept (λv l h=>Zl.kept hS hw d v l h) hS hw⟩
end
def Zl.nil(d:Nat)(S:Nat->Prop)(w:World):Zl d S w Zq []:=by
 cases d with
 |zero=>exact⟨rfl,rfl⟩
 |succ d=>exact⟨none,0,rfl,by simp,by simp[maxLen],by simp,λh=>absurd rfl h⟩
def Yr(d:Nat)(S:Nat->Prop)(base:Nat)(w:World)(v:Value)(ts:List Fl.aa)(tl:Vs):Prop:=
 ∃ps:Vs,w.ownsRow base 201 1 v (ps.length+tl.length) (ps++tl)/\ps.length=ts.length/\∀i,i<ts.length->zy2 (Zl d) S w (ps.getD i undef) (ts.getD i noS)
def Yr.kept{d:Nat}{S S':Nat->Prop}{base:Nat}{w w':World}{v:Value}{ts:List Fl.aa}{tl:Vs}(h:Yr d S base w v ts tl)(hS:∀b,S b->S' b)(hw:∀b,S b->w'.heap[b]?=w.heap[b]?)(hv:∀b,v.ownBlock=some b->w'.heap[b]?=w.heap[b]?):Yr d S' base w' v ts tl:=by
 obtain⟨ps,h1,h2,h3⟩:=h;refine⟨ps,⟨h1.1,?_⟩,h2,λi hi=>(h3 i hi).kept (λv l h=>Zl.kept hS hw d v l h) hS hw⟩;rcases h1.2 with⟨rfl,h0⟩|⟨g,cap,cur,rfl,hb,hg,hr⟩
 ·exact .inl ⟨rfl,h0⟩
 exact .inr ⟨g,cap,cur,rfl,hb,by rw[hv g rfl];exact hg,hr⟩
def Yr.closed{d:Nat}{ts:List Fl.aa}(h:Yr d S base w v ts [])(hv:∀b,v.ownBlock=some b->S b)(hl:ts.length<=16):Zl (d+1) S w v ts:=by
 obtain⟨ps,h1,h2,h3⟩:=h;simp only[append_nil,length_nil,Nat.add_zero]at h1;rcases h1.2 with⟨rfl,h0⟩|⟨g,cap,cur,rfl,hb,hg,b0,a0,c0,ht⟩
 ·have:ts=[]:=Qi (by omega)
  subst this;exact Zl.nil _ _ _
 refine⟨_,cap,by rw[<-h2],by omega,a0,hl,λd0=>⟨g,0,rfl,hv g rfl,λi hi=>⟨ps.getD i undef,?_,h3 i hi⟩⟩⟩;have h4:=h1.cells (g:=g) rfl i (ps.getD i undef) (by rw[Qa,Qb (by omega)];simp)
 have h5:((Y g 0):Addr).add i=(Y g (0+i)):=by unfold Addr.add;split<;>simp_all
 rw[h5]at h4;exact h4
structure GF where
 sb:Nat
 ob:Nat
 vp:Value
 fv:Value
 ev:Value
def GF.act(g:GF)(f:Fl.Frame):Value:=if f.cA then g.ev else g.fv
structure zv6(bz:Nat->Nat)(base:Nat)(w:World)(d i:Nat)(tl:Vs)(f:Fl.Frame)(g:GF):Prop where
 ts:bz g.sb=10+3*i
 to:bz g.ob=11+3*i
 ta:∀b,(g.act f).ownBlock=some b->bz b=12+3*i
 co:Zh w g.ob 2 (rw_ [ptr g.sb,.bool f.cA])
 cs:Zh w g.sb 6 (rw_ [I f.kind,I f.ap,I 0,g.vp,g.fv,g.ev])
 hv:zy7 (λb=>bz b=0) w g.vp f.e
 pa:Yr d (λb=>bz b=0) base w (g.act f) (if f.cA then f.fN else f.first) tl
 pf:f.cA=true->Zl (d+1) (λb=>bz b=0) w g.fv f.first
 pe:f.cA=false->g.ev=Zq/\f.fN=[]
def Vk(bz:Nat->Nat)(base:Nat)(w:World):Nat->Vs->List Fl.Frame->List GF->Prop
 |_,_,[],[]=>True
 |d,tl,f::fs,g::gs=>zv6 bz base w d fs.length tl f g/\Vk bz base w (d+1) [ptr g.sb] fs gs
 |_,_,_,_=>False
def zv6.kept{bz who':Nat->Nat}{base:Nat}{w w':World}{d i:Nat}{tl:Vs}{f:Fl.Frame}{g:GF}(h:zv6 bz base w d i tl f g)(hS:∀b,bz b=0\/bz b=10+3*i\/bz b=11+3*i\/bz b=12+3*i->who' b=bz b/\w'.heap[b]?=w.heap[b]?):zv6 who' base w' d i tl f g:=by
 have h0:∀b,bz b=0->who' b=0:=λb hb=>by rw[(hS b (.inl hb)).1];exact hb
 have h1:∀b,bz b=0->w'.heap[b]?=w.heap[b]?:=λb hb=>(hS b (.inl hb)).2;exact⟨by rw[(hS _ (.inr (.inl h.ts))).1];exact h.ts,by rw[(hS _ (.inr (.inr (.inl h.to)))).1];exact h.to,λb hb=>by have:=h.ta b hb;rw[(hS b (.inr (.inr (.inr this)))).1];exact this,h.co.block (hS _ (.inr (.inr (.inl h.to)))).2,h.cs.block (hS _ (.inr (.inl h.ts))).2,h.hv.kept h0 h1,h.pa.kept h0 h1 (λb hb=>(hS b (.inr (.inr (.inr (h.ta b hb))))).2),λhh=>Zl.kept h0 h1 _ _ _ (h.pf hh),h.pe⟩
def Vk.kept{bz who':Nat->Nat}{base:Nat}{w w':World}:∀{d:Nat} {tl:Vs} {fs:List Fl.Frame} {gs:List GF},Vk bz base w d tl fs gs->(∀b,bz b=0\/(10<=bz b/\bz b<10+3*fs.length)->who' b=bz b/\w'.heap[b]?=w.heap[b]?)->Vk who' base w' d tl fs gs
 |_,_,[],[],_,_=>trivial
 |d,tl,f::fs,g::gs,h,hS=>by
  refine⟨h.1.kept (λb hb=>hS b ?_),Vk.kept h.2 (λb hb=>hS b ?_)⟩
  ·simp only[length_cons];omega
  simp only[length_cons];omega
 |_,_,[],_::_,h,_=>h.elim
 |_,_,_::_,[],h,_=>h.elim
def Vk.len{bz:Nat->Nat}{base:Nat}{w:World}:∀{d:Nat} {tl:Vs} {fs:List Fl.Frame} {gs:List GF},Vk bz base w d tl fs gs->gs.length=fs.length
 |_,_,[],[],_=>rfl
 |d,tl,f::fs,g::gs,h=>by simp[Vk.len h.2]
 |_,_,[],_::_,h=>h.elim
 |_,_,_::_,[],h=>h.elim
structure Un(w:World)(Lb n:Nat)(t:cG):Prop where
 z:∀j,w.frozen? (Y Lb j)=false
 c0:w.cell? (Y Lb 0)=some (I n)
 cu:∀i j,i<n->j<n->w.cell? (Y Lb (1+6*i+j))=some (.bool (t i j))
 cj:∀i j,i<n->j<n->w.cell? (Y Lb (37+6*i+j))=some (I (Fl.join n t i j))
 cl:w.cell? (Y Lb 73)=some (I (Fl.eY n t))
def Un.block(h:Un w Lb n t)(hb:w'.heap[Lb]?=w.heap[Lb]?):Un w' Lb n t:=
 have q:∀j,w'.cell? (Y Lb j)=w.cell? (Y Lb j):=λj=>Qc (a:=(Y Lb j)) hb
 ⟨λj=>fQ hb (h.z j),(q _).trans h.c0,λi j hi hj=>(q _).trans (h.cu i j hi hj),λi j hi hj=>(q _).trans (h.cj i j hi hj),(q _).trans h.cl⟩
structure Xv where
 bz:Nat->Nat
 pl:Value
 bC:Value
 bH:Value
 bv:Value
 ov:Value
 gs:List GF
 t:cG
def Vx(Pb lm vm cm:Nat)(ap:Int)(r:RS)(m:Xv)(j:Nat):Value:=
 if j=0 then ptr Pb else if j=1 then I ap else if j=2 then .bool r.ae else if j=3 then I r.au.length
 else if j=40 then .map (some lm) else if j=41 then .map (some vm) else if j=42 then .map (some cm) else if j=43 then m.ov else if j=44 then I r.am
 else .bool (m.t ((j - 4) / 6) ((j - 4) % 6))
def Ym(l:List Nat):Vs:=l.map λ(x:Nat)=>int .i64 (x:Int)
def zz4(k:Nat):Nat->List Fl.Frame->Prop
 |_,[]=>True
 |t,f::fs=>f.first.length+(if f.cA then 0 else t)<=k/\f.fN.length+(if f.cA then t else 0)<=k/\zz4 k 1 fs
def zz4.mono{k k':Nat}(hk:k<=k'):∀{t t':Nat} {fs:List Fl.Frame},t'<=t->zz4 k t fs->zz4 k' t' fs
 |_,_,[],_,_=>trivial
 |t,t',f::fs,ht,h=>by
  refine⟨?_,?_,zz4.mono hk lE h.2.2⟩
  ·have:=h.1;split at this<;>simp_all<;>omega
  have:=h.2.1;split at this<;>simp_all<;>omega
def zjz(k:Nat)(fs:List Fl.Frame)(n:Nat):Prop:=n+min fs.length 1<=k/\zz4 k 0 fs
def zjz.mono{k k':Nat}{fs:List Fl.Frame}{n:Nat}(h:zjz k fs n)(hk:k<=k'):zjz k' fs n:=⟨by have:=h.1;omega,zz4.mono hk lE h.2⟩
structure RsOk(r:RS):Prop where
 cn:zjz r.am r.fr r.ct.length
 lv:r.au.length<=6
 ce:r.cells.length<=6
 ch:r.aj.length<=3
 lo:r.ak.length<=4
 st:r.am<=16
 fr:r.fr.length<=3
 cl:r.aT.length=r.cells.length
 hl:r.aS.length=r.aj.length
 dw:r.aI.length=r.aF.length
 below:∀p∈r.aI.zip r.aF,p.1<r.au.length/\p.2<r.au.length
 bC:∀x∈r.aT,x<r.au.length
 bH:∀x∈r.aS,x<r.au.length
 dm:∀f∈r.fr,f.kind=5\/f.kind=6
 head:r.ae=false->r.ak=[]/\r.am=0/\r.ct=[]/\r.fr=[]
 fA:r.ae=true->br r.au.length r.tab=true
def Vc:List GF->Vs
 |[]=>[]
 |g::gs=>match Vc gs with
  |[]=>[ptr g.sb]
  |v::_=>[v]
structure ztv(base:Nat)(w:World)(r:RS)(m:Xv):Prop where
 wh:∀b,m.bz b≠5->base<=b/\b<w.heap.size
 oc:w.ownsRow base 3 1 m.bC r.aT.length (Ym r.aT)
 tc:∀b,m.bC.ownBlock=some b->m.bz b=3
 oh:w.ownsRow base 3 1 m.bH r.aS.length (Ym r.aS)
 th:∀b,m.bH.ownBlock=some b->m.bz b=4
 pb:Yr 3 (λb=>m.bz b=0) base w m.bv r.ct (Vc m.gs)
 tb:∀b,m.bv.ownBlock=some b->m.bz b=1
 fa:Vk m.bz base w (3 - r.fr.length) [] r.fr m.gs
 oo:w.ownsRow base 272 1 m.ov r.fr.length ((m.gs.map λg=>ptr g.ob).reverse)
 to:∀b,m.ov.ownBlock=some b->m.bz b=2
 la:r.ae=true->∃Lb,m.pl=ptr Lb/\m.bz Lb=0/\Un w Lb r.au.length r.tab
structure Zo(lo base R Pb lm vm cm:Nat)(w0 w:World)(r:RS)(ap:Int)(m:Xv):Prop where
 ok:RsOk r
 bel:Below lo w0 w
 fx:∀b,b<base->b≠R->b≠Pb->b≠lm->b≠vm->b≠cm->w.heap[b]?=w0.heap[b]?
 cq:lo<=R/\lo<=Pb/\lo<=lm/\lo<=vm/\lo<=cm
 bP:R<base/\Pb<base/\lm<base/\vm<base/\cm<base/\base<=w.heap.size
 nd:R≠Pb/\R≠lm/\R≠vm/\R≠cm/\Pb≠lm/\Pb≠vm/\Pb≠cm/\lm≠vm/\lm≠cm/\vm≠cm
 cR:Zh w R 45 (Vx Pb lm vm cm ap r m)
 cP:Zh w Pb 5 (rw_ [m.pl,m.bC,m.bH,I r.ak.length,m.bv])
 nl:Yy w lm r.au
 nv:Yy w vm (r.cells++r.ak)
 nc:Yy w cm r.aj
 tab:∀i j,i<6->j<6->m.t i j=(decide (i<r.au.length) && fu r.aI r.aF i j)
 re:ztv base w r m
def Zj{xs:Vs}(h:w.ownsRow base e k v n xs)(hv:∀b,v.ownBlock=some b->w'.heap[b]?=w.heap[b]?):w'.ownsRow base e k v n xs:=by
 refine⟨h.1,?_⟩;rcases h.2 with⟨rfl,h0⟩|⟨g,cap,cur,rfl,hb,hg,hr⟩
 ·exact .inl ⟨rfl,h0⟩
 exact .inr ⟨g,cap,cur,rfl,hb,by rw[hv g rfl];exact hg,hr⟩
def ztv.kept{base:Nat}{w w':World}{r:RS}{m:Xv}(h:ztv base w r m)(hz:w.heap.size<=w'.heap.size)(qw:∀b,m.bz b≠5->w'.heap[b]?=w.heap[b]?):ztv base w' r m:=
 {wh:=λb hw=>by have:=h.wh b hw;omega,oc:=Zj h.oc (λb hv=>qw b (by rw[h.tc b hv];decide)),tc:=h.tc,oh:=Zj h.oh (λb hv=>qw b (by rw[h.th b hv];decide)),th:=h.th,pb:=h.pb.kept (λ_ h=>h) (λb hv=>qw b (by rw[hv];decide)) (λb hv=>qw b (by rw[h.tb b hv];decide)),tb:=h.tb,fa:=h.fa.kept (λb hv=>⟨rfl,qw b (by omega)⟩),oo:=Zj h.oo (λb hv=>qw b (by rw[h.to b hv];decide)),to:=h.to,la:=λhg=>by obtain⟨Lb,l1,l2,l3⟩:=h.la hg;exact⟨Lb,l1,l2,l3.block (qw Lb (by rw[l2];decide))⟩}
section
variable{lo R lm vm cm:Nat}{w0:World}{r:RS}{ap:Int}{m:Xv}
def Zo.below(h:Zo lo base R Pb lm vm cm w0 w r ap m)(hb:E w w'):Zo lo base R Pb lm vm cm w0 w' r ap m:=by
 obtain⟨b1,b2,b3,b4,b5,b6⟩:=h.bP;have hz:=hb.size;have q:∀b,b<w.heap.size->w'.heap[b]?=w.heap[b]?:=λb a0=>hb.block b a0;exact{ok:=h.ok,bel:=h.bel.trans (hb.mono (by have:=h.cq;omega)),fx:=λb f1 f2 f3 f4 f5 f6=>(q b (by omega)).trans (h.fx b f1 f2 f3 f4 f5 f6),cq:=h.cq,bP:=⟨b1,b2,b3,b4,b5,by omega⟩,nd:=h.nd,cR:=h.cR.block (q _ (by omega)),cP:=h.cP.block (q _ (by omega)),nl:=h.nl.block (q _ (by omega)),nv:=h.nv.block (q _ (by omega)),nc:=h.nc.block (q _ (by omega)),tab:=h.tab,re:=h.re.kept hz (λb hw=>q b (h.re.wh b hw).2)}
def Zo.drew(h:Zo lo base R Pb lm vm cm w0 w r ap m):Zo lo base R Pb lm vm cm w0 w.drew r ap m:=h.below dA
end
end Go.Proofs.YtjmcibbdedlcoaaGreatDoor
namespace Go.Proofs.YtjmcibbdedlcoaaGreatDoor
open Go.Proofs.Tryz List World Region Value Fl
variable{P:Program}{ops:Array Oper}{rest:List Oper}{o:Oper}{a:Act}{Q:Exit->Act->World->Prop}{w w' wr w1 w2:World}{ty e:TypeId}{t:cG}{base n n1 n2 Jb q0 k q b B cap p Lb Pb:Nat}{v u sv sv' nv' cv lvn:Value}{xs l ls st vs:Is}{lvs ys:Vs}{s:K}{acc:List Fl.ar}{ao:Option Addr}{names:List (List UInt8)}{S:Nat->Prop}
namespace Fl
def nd(x:List ar)(k:Int):ar:=nth x k.toNat
def dk(k:Int):Nat:=if k<=2 then 0 else if k<=6 then 1 else 2
def vars(p:aV)(ls:Is):Is:=p.cells.map (λ(x:Nat)=>(x:Int))++ls
def aR(p:aV)(a b:Int):Bool:=p.leq a.toNat b.toNat
def dG(p:aV)(x:List ar)(n:ar)(lv:Is):Bool:=
 decide (n.a<lv.length) && (decide (dk (nd x n.b).kind=0) && (aR p (nd x n.b).ag (lv.getD n.a.toNat 0) && aR p n.ag (lv.getD n.a.toNat 0)))
def cE(p:aV)(x:List ar)(n:ar)(w:Int):Bool:=
 decide (dk (nd x n.a).kind=0) && (decide (dk (nd x w).kind=2) && (aR p (nd x n.a).ag (nd x w).ag && aR p n.ag (nd x w).ag))
def bT(p:aV)(ls:Is)(x:List ar)(n:ar):Bool:=
 if n.kind=0 then true
 else if n.kind=1 then decide (n.a<(vars p ls).length) && aR p ((vars p ls).getD n.a.toNat 0) n.ag
 else if n.kind=2 then decide (n.a<5) && (decide (dk (nd x n.b).kind=0) && (decide (dk (nd x n.c).kind=0) && (aR p (nd x n.b).ag n.ag && aR p (nd x n.c).ag n.ag)))
 else if n.kind=3 then dG p x n (vars p ls)
 else if n.kind=4 then dG p x n (p.aj.map λ(y:Nat)=>(y:Int))
 else if n.kind=5 then cE p x n n.b && cE p x n n.c
 else if n.kind=6 then cE p x n n.b
 else n.aU.all λk=>decide (dk (nd x k).kind=1) && aR p n.ag (nd x k).ag
def follows(p:aV)(ls:Is)(x:List ar)(n:ar):Bool:=decide (n.ag<p.n) && bT p ls x n
def dP(x:List ar)(k:Int)(a:dI):Bool:=decide ((nd x k).kind=if a.var then 1 else 0) && decide ((nd x k).a=a.v)
def dj(x:List ar)(k:Int)(e:da):Bool:=
 if e.op<0 then dP x k e.a else decide ((nd x k).kind=2) && (decide ((nd x k).a=e.op) && (dP x (nd x k).b e.a && dP x (nd x k).c e.b))
def eI(Wx:Int->List aa->Bool)(x:List ar)(k:Int)(s:aa):Bool:=
  decide ((nd x k).kind=s.kind) &&
  (if s.kind=5 then dj x (nd x k).a s.e && (Wx (nd x k).b s.aZ && Wx (nd x k).c s.aP)
   else if s.kind=6 then dj x (nd x k).a s.e && Wx (nd x k).b s.aZ
   else decide ((nd x k).a=s.x) && dj x (nd x k).b s.e)
def cO:Nat->List ar->Int->List aa->Bool
 |0,x,k,l=>decide ((nd x k).kind=7) && (decide ((nd x k).aU=[]) && decide (l=[]))
 |d+1,x,k,l=>decide ((nd x k).kind=7) && (decide ((nd x k).aU.length=l.length) && (range l.length).all λi=>eI (cO d x) x ((nd x k).aU.getD i 0) (l.getD i noS))
def check(p:aV)(ls:Is)(x:List ar):Nat×Int:=
 if ls.length≠p.ak\/(ls.any λv=>decide ((p.n:Int)<=v))=true then(10,-1)
 else match (range x.length).find? (λk=> !follows p ls x (nth x k)) with
  |some k=>(9,(k:Int))
  |none=>if cO 4 x ((x.length:Int) - 1) p.aZ then(0,-1) else(10,-1)
end Fl
namespace Fl
def jn(p:aV)(a b:Int):Int:=join p.n p.leq a.toNat b.toNat
def aI(p:aV):Int:=(eY p.n p.leq:Int)
def bZ(p:aV)(vs:Is)(a:dI):Int:=if a.var then vs.getD a.v 0 else aI p
def aB(p:aV)(vs:Is)(e:da):Int:=if e.op<0 then bZ p vs e.a else jn p (bZ p vs e.a) (bZ p vs e.b)
def aK(Wx:List aa->Int->List (aa×Int))(p:aV)(vs:Is)(u:Int)(s:aa):List (aa×Int):=
 if s.kind=3\/s.kind=4 then [(s,jn p u (aB p vs s.e))]
 else if s.kind=5\/s.kind=6 then Wx s.aZ (jn p u (aB p vs s.e))++Wx s.aP (jn p u (aB p vs s.e)) else []
def bx(p:aV)(vs:Is):Nat->List aa->Int->List (aa×Int)
 |0,_,_=>[]
 |d+1,l,u=>l.flatMap (aK (bx p vs d) p vs u)
def bp(p:aV)(vs:Is)(m:aa×Int):Bool:=aR p m.2 ((if m.1.kind=4 then p.aj.map (λ(x:Nat)=>(x:Int)) else vs).getD m.1.x 0)
def bU(p:aV)(s:aa):Bool:=decide (s.kind=3) && decide (p.cells.length<=s.x)
def jR(p:aV)(vs:Is):Option (Is):=
 match (bx p vs 4 p.aZ (aI p)).find? (λm=>bU p m.1 && !bp p vs m) with
 |some m=>some (vs.set m.1.x (jn p (vs.getD m.1.x 0) m.2))
 |none=>none
def raise(p:aV):Nat->Is->Is
 |0,vs=>vs
 |f+1,vs=>match jR p vs with
  |some vs'=>raise p f vs'
  |none=>vs
def cY(p:aV)(vs:Is):Nat:=
 match (bx p vs 4 p.aZ (aI p)).find? (λm=> !bp p vs m) with
 |some m=>m.1.ap
 |none=>0
def cI(ws:List ar)(n:ar):Int×List ar:=
 match (range ws.length).find? (λi=>eh (nth ws i) n) with
 |some i=>((i:Int),ws)
 |none=>((ws.length:Int),ws++[n])
def bR(p:aV)(vs:Is)(ws:List ar)(a:dI):Int×List ar:=
 cI ws ⟨if a.var then 1 else 0,bZ p vs a,a.v,0,0,[]⟩
def dQ(p:aV)(vs:Is)(ws:List ar)(e:da):Int×List ar:=
 if e.op<0 then bR p vs ws e.a
 else cI (bR p vs (bR p vs ws e.a).2 e.b).2 ⟨2,aB p vs e,e.op,(bR p vs ws e.a).1,(bR p vs (bR p vs ws e.a).2 e.b).1,[]⟩
def dh(Wx:List ar->List aa->Int->Int×List ar)(p:aV)(vs:Is)(u:Int)(ws:List ar)(s:aa):Int×List ar:=
 let v:=dQ p vs ws s.e
 let l:=jn p u (aB p vs s.e)
 if s.kind=5 then cI (Wx (Wx v.2 s.aZ l).2 s.aP l).2 ⟨5,u,v.1,(Wx v.2 s.aZ l).1,(Wx (Wx v.2 s.aZ l).2 s.aP l).1,[]⟩
 else if s.kind=6 then cI (Wx v.2 s.aZ l).2 ⟨6,u,v.1,(Wx v.2 s.aZ l).1,0,[]⟩
 else cI v.2 ⟨s.kind,u,s.x,v.1,0,[]⟩
def bK(W:List ar->aa->Int×List ar):List ar->List aa->Is×List ar
 |ws,[]=>([],ws)
 |ws,s::l=>((W ws s).1::(bK W (W ws s).2 l).1,(bK W (W ws s).2 l).2)
def aD(p:aV)(vs:Is):Nat->List ar->List aa->Int->Int×List ar
 |0,ws,_,u=>cI ws ⟨7,u,0,0,0,[]⟩
 |d+1,ws,l,u=>cI (bK (dh (aD p vs d) p vs u) ws l).2 ⟨7,u,0,0,0,(bK (dh (aD p vs d) p vs u) ws l).1⟩
def start(p:aV):Is:=vars p (replicate p.ak (aI p))
def bJ(p:aV):Is:=raise p 25 (start p)
def bF(p:aV):Nat×Is×List ar:=
 if 0<cY p (bJ p) then(cY p (bJ p),[],[])
 else(0,(bJ p).drop p.cells.length,(aD p (bJ p) 4 [] p.aZ (aI p)).2)
end Fl
open Go.RowKit
section
def zsx(h:Un w Lb n t):F 96 #[M Lb] w (Rq (I (Fl.eY n t)) w):=by
 have c0:=h.cl;clear h
 go_enter func96,ntmps96
 go_wp2;go_ret;exact⟨rfl,rfl⟩
def zn4(h:Un w Lb n t)(hn:n<=6)(a b:Nat)(ha:a<n)(hb:b<n):F 100 #[M Lb,I a,I b] w (Rq (I (Fl.join n t a b)) w):=by
 have c:=h.cj a b ha hb
 have a0:(a:Int)<6:=by omega
 have b0:(b:Int)<6:=by omega
 have e:37+6*a+b=37+a*6+b:=by omega
 rw[e]at c;clear h e
 go_enter func100,ntmps100
 go_wp2;go_ret;exact⟨rfl,rfl⟩
def yj4(h:Un w Lb n t)(hn:n<=6)(a b:Nat)(ha:a<n)(hb:b<n):F 141 #[M Lb,I a,I b] w (Rq (.bool (t a b)) w):=by
 have c:=h.cu a b ha hb
 have a0:(a:Int)<6:=by omega
 have b0:(b:Int)<6:=by omega
 have e:1+6*a+b=1+a*6+b:=by omega
 rw[e]at c;clear h e
 go_enter func141,ntmps141
 go_wp2;go_ret;exact⟨rfl,rfl⟩
end
namespace Fl
structure aV.Lv(p:aV):Prop where
 n6:p.n<=6
 fA:mV p.n p.leq
 ce:∀y∈p.cells,y<p.n
 ch:∀y∈p.aj,y<p.n
def di(p:aV)(vs:Is):Prop:=vs.length=p.cells.length+p.ak/\∀i,i<vs.length->0<=vs.getD i 0/\vs.getD i 0<p.n
def aV.Lv.aI{p:aV}(h:p.Lv):0<=aI p/\aI p<p.n:=by
 have:=(iI h.fA).1;unfold Fl.aI;omega
def aV.Lv.join{p:aV}(h:p.Lv){a b:Nat}(ha:a<p.n)(hb:b<p.n):∃k,k<p.n/\Fl.join p.n p.leq a b=(k:Int):=by
 obtain⟨k,h1,h2,_⟩:=h.fA.lu a b ha hb;exact⟨k,h1,h2⟩
def aV.Lv.jn{p:aV}(h:p.Lv){a b:Int}(ha:0<=a/\a<p.n)(hb:0<=b/\b<p.n):0<=Fl.jn p a b/\Fl.jn p a b<p.n:=by
 obtain⟨k,h1,h2⟩:=h.join (a:=a.toNat) (b:=b.toNat) (by omega) (by omega);unfold Fl.jn;rw[h2];omega
end Fl
structure LvIn(w:World)(Pb Lb:Nat)(p:Fl.aV):Prop where
 hz:Pb<w.heap.size/\Lb<w.heap.size
 p0:w.cell? (Y Pb 0)=some (M Lb)
 la:Un w Lb p.n p.leq
 lv:p.Lv
def LvIn.below{p:Fl.aV}(h:LvIn w Pb Lb p)(hb:E w w'):LvIn w' Pb Lb p:=
 ⟨⟨Qj h.hz.1 hb.size,Qj h.hz.2 hb.size⟩,cT hb h.hz.1 h.p0,h.la.block (hb.block _ h.hz.2),h.lv⟩
def zt8(vs:Is)(a:Fl.dI):Prop:=a.var=true->a.v<vs.length
def yj5(vs:Is)(e:Fl.da):Prop:=zt8 vs e.a/\(0<=e.op->zt8 vs e.b)
def zu8{e:Fl.da}(h:bI vs.length e):yj5 vs e:=by
 obtain⟨-,-,h1,h2⟩:=h;unfold dU at h1 h2;exact⟨λhv=>by rwa [G hv]at h1,λ_ hv=>by rwa [G hv]at h2⟩
def zs0(h:Zw B w v l){i:Nat}(hi:i<l.length):∃b off cap,v=Sq b off l.length cap/\l.length<=cap/\l.length<=maxLen/\b<B/\w.cell? (Y b (off+i))=some (I (l.getD i 0)):=by
 obtain⟨ao,cap,rfl,h1,h2,h3⟩:=h;obtain⟨b,off,rfl,hb,hc⟩:=h3 (by intro e;rw[e]at hi;cases hi);exact⟨b,off,cap,rfl,h1,h2,hb,hc i hi⟩
section
variable{p:Fl.aV}{vv:Value}
def zrz(h:LvIn w Pb Lb p)(vi:Zw w.heap.size w vv vs){a:Fl.dI}(ha:Xy S w v a)(ho:zt8 vs a):
  F 178 #[M Pb,v,vv] w (Rw (I (Fl.bZ p vs a)) w):=by
 obtain⟨vb,rfl,-,hc⟩:=ha;have c0:D w vb 0 (I (if a.var then 1 else 0)):=hc.c 0 (by omega);have c1:D w vb 1 (I a.v):=hc.c 1 (by omega);have a0:vb<w.heap.size:=hc.lt (by omega);have p0:=h.p0;obtain⟨hP,hL⟩:=h.hz;have HL:O (∀W,E w W->F 96 #[M Lb] W (Rq (I (Fl.eY p.n p.leq)) W)):=λW hW=>zsx (h.below hW).la;unfold ptr
 cases hv:a.var
 ·rw[hv]at c0
  have HR:O (Fl.bZ p vs a=(Fl.eY p.n p.leq:Int)):=(by show _=_;unfold Fl.bZ Fl.aI;rw[hv];rfl);rw[HR.out];clear HR h vi ho hc hv
  go_enter func178,ntmps178
  go_wp2_with (go_at_call 96;refine(HL _ (Below.refl _ _)).mono ?_;rintro e w1 ⟨rfl,rfl⟩)
  go_ret;exact⟨rfl,Below.refl _ _⟩
 rw[hv]at c0;obtain⟨b,off,cap,rfl,k1,k2,k3,k4⟩:=zs0 vi (ho hv)
 have HR:O (Fl.bZ p vs a=vs.getD a.v 0):=by show _=_;unfold Fl.bZ;rw[hv];rfl
 have k5:(a.v:Int)<(vs.length:Int):=by have:=ho hv;omega
 rw[HR.out];clear HR h vi ho hc hv HL
 go_enter func178,ntmps178
 go_wp2;go_ret;exact⟨rfl,Below.refl _ _⟩
def zx2(h:p.Lv)(hv:∀i,i<vs.length->0<=vs.getD i 0/\vs.getD i 0<p.n){a:Fl.dI}(ho:zt8 vs a):∃k:Nat,k<p.n/\Fl.bZ p vs a=(k:Int):=by
 unfold Fl.bZ
 cases hb:a.var
 ·exact⟨(Fl.aI p).toNat,by have:=h.aI;omega,by have:=h.aI;simp;omega⟩
 have:=hv a.v (ho hb);exact⟨(vs.getD a.v 0).toNat,by omega,by simp only[if_true];omega⟩
def ys9(h:LvIn w Pb Lb p)(vi:Zw w.heap.size w vv vs)(hv:∀i,i<vs.length->0<=vs.getD i 0/\vs.getD i 0<p.n)(hS:∀b,S b->b<w.heap.size){e:Fl.da}(he:zy7 S w v e)(ho:yj5 vs e):
  F 178 #[M Pb,v,vv] w λr w'=>r=.returned (I (Fl.aB p vs e))/\E w w':=by
 rcases he with⟨h1,h2⟩|⟨h1,vb,x,y,rfl,h3,h4,h5,h6⟩
 ·have e1:Fl.aB p vs e=Fl.bZ p vs e.a:=by unfold Fl.aB;rw[G (by omega)]
  rw[e1];exact zrz h vi h2 ho.1
 obtain⟨la,d0,ela⟩:=zx2 h.lv hv ho.1;obtain⟨lb,hlb,elb⟩:=zx2 h.lv hv (ho.2 h1)
 have e1:Fl.aB p vs e=Fl.join p.n p.leq la lb:=by unfold Fl.aB Fl.jn;rw[Z (by omega),ela,elb,Qm,Qm]
 rw[e1];have c0:D w vb 0 (I 2):=h4.c 0 (by omega);have c2:D w vb 2 x:=h4.c 2 (by omega);have c3:D w vb 3 y:=h4.c 3 (by omega);have e0:vb<w.heap.size:=hS vb h3;obtain⟨hP,hL⟩:=h.hz;have p0:=h.p0;have HS:O (∀W,E w W->D W Pb 0 (M Lb)/\D W vb 2 x/\D W vb 3 y):=λW hW=>⟨cT hW hP p0,cT hW e0 c2,cT hW e0 c3⟩
 have HA:O (∀W,E w W->F 178 #[M Pb,x,vv] W λr w'=>r=.returned (I (la:Nat))/\E W w'):=λW hW=>by
  have:=zrz (h.below hW) ((vi.below hW).mono hW.size) (h5.kept (λ_ h=>h) (λb hb=>hW.block b (hS b hb))) ho.1;rw[ela]at this;exact this
 have HB:O (∀W,E w W->F 178 #[M Pb,y,vv] W λr w'=>r=.returned (I (lb:Nat))/\E W w'):=λW hW=>by
  have:=zrz (h.below hW) ((vi.below hW).mono hW.size) (h6.kept (λ_ h=>h) (λb hb=>hW.block b (hS b hb))) (ho.2 h1);rw[elb]at this;exact this
 have HJ:O (∀W,E w W->F 100 #[M Lb,I la,I lb] W λr w'=>r=.returned (I (Fl.join p.n p.leq la lb))/\w'=W):=λW hW=>zn4 (h.below hW).la h.lv.n6 la lb d0 hlb;generalize Fl.join p.n p.leq la lb=aX at*;clear h vi hv hS h1 h3 h4 h5 h6 ela elb e1 d0 hlb ho;unfold ptr
 go_enter func178,ntmps178
 go_wp2_with fail
 refine Vz HS dA [(0,0),(0,1),(0,2),(0,3),(0,4),(0,5),(0,6),(0,7),(0,8),(0,9),(0,11),(0,12),(0,13),(0,14),(0,15),(0,16),(1,10),(1,17),(1,18),(0,19)] [] [] (by kernel_rfl) (λ_ _ _ _ h=>h) (λops _=>?_)
 iterate 16 refine Zv rfl (by intros;go_simp<;>rfl) (by go_simp<;>rfl) ?_
 refine Zs ?_
 go_wp2_with fail
 refine(HA _ dA).mono ?_;rintro e1 W1 ⟨rfl,f0⟩;have a0:O (E w W1):=dA.trans f0;clear f0
 go_wp2_with fail
 refine⟨HS _ a0,?_⟩;refine Zs ?_
 go_wp2_with fail
 refine(HB _ a0).mono ?_;rintro e2 W2 ⟨rfl,g0⟩;have b0:O (E w W2):=a0.trans (g0.mono a0.size);clear g0
 go_wp2_with fail
 refine⟨HS _ b0,?_⟩;refine Zs ?_
 go_wp2_with fail
 refine(HJ _ b0).mono ?_;rintro e3 W3 ⟨rfl,rfl⟩
 go_wp2_with fail
 refine⟨HS _ b0,?_⟩;refine Zv rfl (by intros;go_simp<;>rfl) (by go_simp<;>rfl) ?_;refine Zu ?_;go_wp2;go_ret;exact⟨rfl,b0⟩
end
def zlx{id:Nat}{l:List Oper}(Wq:List (Nat×Nat))(hm:P.follows .mixedOrders=true)(hB:lexB .any l.toArray=true)(hg:(Wq.all λg=>((l.toArray[g.1]?).bind λx=>x.dst)==some g.2)=true)
  (h:∀ops:Array Oper,(∀g∈Wq,((ops[g.1]?).bind λx=>x.dst)=some g.2)->wpStill P ops w.drew (λa'=>Q .normal a' w.drew) l a):(Code.region id l.toArray true).wp P Q a w:=
 wp_region_still_lit hm hB (h _ λg hgm=>by have:=all_eq_true.1 hg g hgm;simpa using this)
def At(W:World):List (Addr×Value)->Prop
 |[]=>True
 |q::l=>(q.1.block<W.heap.size/\W.cell? q.1=some q.2)/\At W l
def At.below{W W':World}(hb:E W W'):∀{l:List (Addr×Value)},At W l->At W' l
 |[],_=>trivial
 |_::_,⟨⟨h1,h2⟩,h3⟩=>⟨⟨Qj h1 hb.size,(hb.cell h1).trans h2⟩,At.below hb h3⟩
def At.node{W:World}{l:List (Addr×Value)}(h:At W l)(k lv a b c:Int)(v:Value)(T:TypeId)(N:Nat)(hN:W.heap.size=N):At (W.alloc (.cells #[I k,I lv,I a,I b,I c,v] T)) (((Y N 0),I k)::((Y N 1),I lv)::((Y N 2),I a)::((Y N 3),I b)::((Y N 4),I c)::((Y N 5),v)::l):=by
 subst hN;exact⟨⟨by simp,by simp⟩,⟨by simp,by simp⟩,⟨by simp,by simp⟩,⟨by simp,by simp⟩,⟨by simp,by simp⟩,⟨by simp,by simp⟩,h.below (bA)⟩
end Go.Proofs.YtjmcibbdedlcoaaGreatDoor
