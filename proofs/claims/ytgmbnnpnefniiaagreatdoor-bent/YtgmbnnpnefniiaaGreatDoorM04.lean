import Derived.Test.YtgmbnnpnefniiaaGreatDoorM02
import Derived.Test.YtgmbnnpnefniiaaGreatDoorM03
import Derived.Deep.QuietTactic
import Derived.Deep.WholeRow
import Derived.StillTailTactics
import Derived.Deep.RegionWith
import Derived.BigQuiet
import Derived.Maps.OwnSet
import Derived.ChangeMaps5
set_option linter.all false
set_option maxRecDepth 100000
set_option maxHeartbeats 40000000
namespace Go.Proofs.YtgmbnnpnefniiaaGreatDoor
open Go.Proofs.Tryz List World Region Value Fl
variable{P:Program}{ops:Array Oper}{rest:List Oper}{o:Oper}{a:Act}{Q:Exit->Act->World->Prop}{w w' wr w1 w2:World}{ty e:TypeId}{t:cY}{base n n1 n2 Jb q0 k q b B cap p d Lb Pb i:Nat}{v lv u sv sv' nv' cv lvn vv:Value}{xs l ls st vs:Is}{lvs ys:Vs}{s:L}{acc:List Fl.ar}{ao:Option Addr}{names:List (List UInt8)}{S S':Nat->Prop}
section
open Go.RowKit
section
variable(w:World)
def yw2(base:Nat)(t ty e:TypeId)(i:TypeInfo)(z:Value)(size bytes:Nat)(ht:P.underlying t=some (.slice e))(hi:P.info? e=some i)(hz:i.zero=some z)
  (a0:i.size=size) (i0:i.bytes=bytes) (m0:z.cells.size=size) (cD:0<size)
  (v:Value) (n:Nat) (xs:Vs) (d0:w.ownsRow base e size v n xs)
  (a:Addr) (m c:Nat) (news:Vs) (hl:news.length=m*size) (c0:∀j u,news[j]?=some u->w.cell? (a.add j)=some u) (h1:∀u∈news,u.oneCell'=true)
  (j0:n+m<=maxLen) (b0:(n+m)*bytes<=140737488355328) (f0:base<=w.heap.size) (hm:0<m):
  ∃v' w',(Builtin.append_ #[t,t] ty #[v,A (some a) m c]).run P w=.ok v' w'/\w'.ownsRow base e size v' (n+m) (xs++news)/\w.grownBy w' v.ownBlock/\(v'.ownBlock=v.ownBlock\/v'.ownBlock=some w.heap.size):=by
 obtain⟨v',w',hr,ho,hg,_⟩:=run_append_own w base t ty e i z size bytes ht hi hz a0 i0 m0 cD v n xs d0 a m c news hl c0 h1 j0 b0 f0;refine⟨v',w',hr,ho,hg,?_⟩;rcases d0.2 with⟨rfl,h0⟩|⟨g,cap,cur,rfl,p0,n0,q0,r0,o0,l0⟩
 ·subst h0
  have g0:=run_append_nil w t ty e i z ht hi hz a m c news (by rw[a0];exact hl) c0 hm (by unfold maxLen at j0;omega) (by rw[i0];simp only[Nat.zero_add]at b0;omega);rw[g0]at hr;injection hr with hv _
  right;rw[<-hv];rfl
 by_cases e0:n+m<=cap
 ·have k0:n*i.size+news.length<=cur.size:=by
   rw[o0,hl,a0,<-Nat.add_mul];exact Nat.mul_le_mul_right _ e0
  have g0:=run_append_room w t ty e i ht hi g n cap cur n0 a m c news (by rw[a0];exact hl) c0 h1 e0 k0;rw[g0]at hr;injection hr with hv _
  left;rw[<-hv];rfl
 have h63':((n+m:Nat):Int)<=9223372036854775807:=by unfold maxLen at j0;omega
 have g0:=run_append_grow w t ty e i z ht hi hz (O g 0) n cap xs (by rw[a0];exact d0.1) (d0.cells rfl) a m c news (by rw[a0];exact hl) c0 (by omega) h63' (growslice_fits (by omega) (by rw[i0];exact b0));rw[g0]at hr;injection hr with hv _
 right;rw[<-hv];rfl
def Jd(f0:o.guard=none)(s x:Operand)(t:TypeId)
  (ho:o.op=.call {callee:=.builtin .append,args:=#[s,x],argTypes:=#[t,t]})
  (base:Nat) (e:TypeId) (i:TypeInfo) (z:Value) (size bytes:Nat) (ht:P.underlying t=some (.slice e)) (hi:P.info? e=some i) (hz:i.zero=some z)
  (b0:i.size=size) (g0:i.bytes=bytes) (h0:z.cells.size=size) (cD:0<size)
  (v:Value) (n:Nat) (xs:Vs) (hs:a.eval s=v) (e0:w.ownsRow base e size v n xs)
  (ad:Addr) (m c:Nat) (news:Vs) (hx:a.eval x=A (some ad) m c) (hl:news.length=m*size) (hm:0<m) (c0:∀j u,news[j]?=some u->w.cell? (ad.add j)=some u) (h1:∀u∈news,u.oneCell'=true)
  (i0:n+m<=maxLen) (a0:(n+m)*bytes<=140737488355328) (d0:base<=w.heap.size)
  (h:∀v' w',w'.ownsRow base e size v' (n+m) (xs++news)->w.grownBy w' v.ownBlock->(v'.ownBlock=v.ownBlock\/v'.ownBlock=some w.heap.size)->wpList P ops Q rest (a.put o.dst v') w'):wpList P ops Q (o::rest) a w:=
 wpList_plain f0 λ_ hK=>by
  obtain⟨v',w',hr,h2,h3,h4⟩:=yw2 w base t o.type e i z size bytes ht hi hz b0 g0 h0 cD v n xs e0 ad m c news hl c0 h1 i0 a0 d0 hm;have j0:=hK _ _ (h v' w' h2 h3 h4);unfold Oper.wp execOp;simp only[ho,resolve,invoke,builtin,Sem.run_bind,Sem.run_pure,Result.andThen_ok,map_toArray,map_cons,map_nil,hs,hx,hr];exact j0
def Ap{w:World}{dst:Option Tmp}{pos:String}{after:Array Edge}{s x:Operand}{t:TypeId}{i:TypeInfo}{z:Value}{size bytes c:Nat}{xs:Vs}{ad:Addr}
  (ht:P.underlying t=some (.slice e)) (hi:P.info? e=some i) (hz:i.zero=some z) (b0:i.size=size) (f0:i.bytes=bytes) (hk:(z.cells.size==size && decide (0<size))=true)
  (e0:w.ownsRow base e size v n xs) (hs:a.eval s=v) (news:Vs) (hx:a.eval x=A (some ad) 1 c) (hl:news.length=1*size) (c0:∀j u,news[j]?=some u->w.cell? (ad.add j)=some u) (h1:∀u∈news,u.oneCell'=true)
  (g0:n+1<=maxLen) (a0:(n+1)*bytes<=140737488355328) (d0:base<=w.heap.size)
  (h:∀v' w',w'.ownsRow base e size v' (n+1) (xs++news)->w.grownBy w' v.ownBlock->(v'.ownBlock=v.ownBlock\/v'.ownBlock=some w.heap.size)->wpList P ops Q rest (a.put dst v') w'):
  wpList P ops Q ({dst:=dst,op:=.call {callee:=.builtin .append,args:=#[s,x],argTypes:=#[t,t]},type:=ty,pos:=pos,after:=after,guard:=none}::rest) a w:=by
 simp only[Qk,beq_iff_eq,Qn]at hk;exact Jd w rfl s x t rfl base e i z size bytes ht hi hz b0 f0 hk.1 hk.2 v n xs hs e0 ad 1 c news hx hl (by decide) c0 h1 g0 a0 d0 h
end
def Zc(n:Fl.ar)(lv:Value):Vs:=[I n.kind,I n.ak,I n.a,I n.b,I n.c,lv]
def flat:List Fl.ar->Vs->Vs
 |n::ns,lv::lvs=>Zc n lv++flat ns lvs
 |_,_=>[]
def yd6:∀(ns:List Fl.ar) (lvs:Vs),lvs.length=ns.length->(flat ns lvs).length=ns.length*6
 |[],[],_=>rfl
 |n::ns,lv::lvs,h=>by
  have:=yd6 ns lvs (by simpa using h);simp only[flat,Zc,length_append,length_cons,length_nil,this];omega
def zwv:∀(ns:List Fl.ar) (lvs:Vs) (n:Fl.ar) (lv:Value),lvs.length=ns.length->flat (ns++[n]) (lvs++[lv])=flat ns lvs++Zc n lv
 |[],[],n,lv,_=>by simp[flat]
 |m::ns,l::lvs,n,lv,h=>by
  simp only[cons_append,flat,zwv ns lvs n lv (by simpa using h),append_assoc]
def zd7:∀(ns:List Fl.ar) (lvs:Vs) (i j:Nat),lvs.length=ns.length->i<ns.length->j<6->(flat ns lvs)[i*6+j]?=(Zc (Fl.nth ns i) (lvs.getD i K))[j]?
 |n::ns,lv::lvs,0,j,_,_,hj=>by
  simp only[flat,Nat.zero_mul,Nat.zero_add];rw[getElem?_append_left (by simp[Zc];omega)];rfl
 |n::ns,lv::lvs,i+1,j,h,hi,hj=>by
  have:=zd7 ns lvs i j (by simpa using h) (by simpa using hi) hj;simp only[flat];rw[getElem?_append_right (by simp[Zc];omega)];rw[show (i+1)*6+j - (Zc n lv).length=i*6+j from by simp[Zc];omega,this];rfl
def Uy{ns:List Fl.ar}(h:w.ownsRow base e 6 v ns.length (flat ns lvs))(hl:lvs.length=ns.length)(hi:∀i,i<ns.length->Zw w.heap.size w (lvs.getD i K) (Fl.nth ns i).ae):Zl w.heap.size w v ns:=by
 rcases h.2 with⟨rfl,h0⟩|⟨g,cap,cur,rfl,hb,hg,a0,b0,c0,ht⟩
 ·have:=Qi h0
  subst this;exact Zl.nil _ _
 refine⟨_,cap,rfl,a0,by omega,λ_=>⟨g,0,rfl,(Array.getElem?_eq_some_iff.1 hg).1,λi hil=>⟨lvs.getD i K,hi i hil,?_⟩⟩⟩
 have q:∀j u,j<6->(Zc (Fl.nth ns i) (lvs.getD i K))[j]?=some u->M w g (i*6+j) u:=λj u hj hu=>by
  have h1:=h.cells rfl (i*6+j) u (by rw[zd7 ns lvs i j hl hil hj];exact hu)
  have h2:((O g 0):Addr).add (i*6+j)=(O g (i*6+j)):=by unfold Addr.add;split<;>simp_all
  rw[h2]at h1;exact h1
 simp only[Nat.zero_add];exact⟨q 0 _ (by omega) rfl,q 1 _ (by omega) rfl,q 2 _ (by omega) rfl,q 3 _ (by omega) rfl,q 4 _ (by omega) rfl,q 5 _ (by omega) rfl⟩
def zf0{row:Option Nat}(h:Zw w.heap.size w lv xs)(c0:xs≠[]->lv.ownBlock≠row)(hg:w.grownBy w' row):Zw w'.heap.size w' lv xs:=by
 obtain⟨ao,cap,rfl,hc,hl,hx⟩:=h;refine⟨ao,cap,rfl,hc,hl,λb0=>?_⟩;obtain⟨b,off,rfl,hb,a0⟩:=hx b0;refine⟨b,off,rfl,Qj hb hg.size,λi hi=>?_⟩;exact hg.cell (a0 i hi) (by simpa [ownBlock] using c0 b0)
def Jx(h:Zw w.heap.size w lv xs)(hb:D w w'):Zw w'.heap.size w' lv xs:=(h.below hb).mono hb.size
def zf1(h:Zw w.heap.size w lv xs)(o:Obj):Zw (w.alloc o).heap.size (w.alloc o) lv xs:=Jx h (bA)
def zv0(h:Zw w.heap.size w lv xs)(a0:xs≠[]):∃b,lv.ownBlock=some b/\b<w.heap.size:=by
 obtain⟨ao,cap,rfl,hc,hl,hx⟩:=h;obtain⟨b,off,rfl,hb,_⟩:=hx a0;exact⟨b,rfl,hb⟩
def Xf{a:Addr}(h:Zw w.heap.size w lv xs)(c0:xs≠[]->lv.ownBlock≠some a.block):Zw (w.setCell a u).heap.size (w.setCell a u) lv xs:=by
 have hs:(w.setCell a u).heap.size=w.heap.size:=by simp[setCell]
 obtain⟨ao,cap,rfl,hc,hl,hx⟩:=h;refine⟨ao,cap,rfl,hc,hl,λb0=>?_⟩;obtain⟨b,off,rfl,hb,a0⟩:=hx b0;refine⟨b,off,rfl,by omega,λi hi=>?_⟩;rw[Qc (Below.heap_setCell w a u b (by have:=c0 b0;simpa [ownBlock] using this))];exact a0 i hi
def zq3{base':Nat}{e':TypeId}{size size':Nat}{v':Value}{n':Nat}{xs xs':Vs}(h:w.ownsRow base e size v n xs)(h':w.ownsRow base' e' size' v' n' xs')(a0:e≠e'):v.ownBlock=none\/v.ownBlock≠v'.ownBlock:=by
 rcases h.2 with⟨rfl,_⟩|⟨g,cap,cur,rfl,hb,hg,_⟩
 ·left;rfl
 right
 rcases h'.2 with⟨rfl,_⟩|⟨g',cap',cur',rfl,hb',hg',_⟩
 ·simp[ownBlock]
 intro hh;simp only[ownBlock,Ql]at hh;rw[hh]at hg;rw[hg]at hg';simp only[Ql,Obj.cells.injEq]at hg';exact a0 hg'.2.1
def Vw(w:World)(lv:Value)(xs:Is)(sv nv:Value):Prop:=Zw w.heap.size w lv xs/\(xs≠[]->lv.ownBlock≠sv.ownBlock/\lv.ownBlock≠nv.ownBlock)
def Vw.first{nv:Value}(h:Vw w lv xs sv nv)(hg:w.grownBy w' sv.ownBlock)(hw:sv'.ownBlock=sv.ownBlock\/sv'.ownBlock=some w.heap.size):Vw w' lv xs sv' nv:=by
 refine⟨zf0 h.1 (λhx=>(h.2 hx).1) hg,λhx=>⟨?_,(h.2 hx).2⟩⟩;rcases hw with hw|hw
 ·rw[hw];exact(h.2 hx).1
 obtain⟨b,hb,a0⟩:=zv0 h.1 hx;rw[hw,hb];intro hh;simp at hh;omega
def Vw.second{nv:Value}(h:Vw w lv xs sv nv)(hg:w.grownBy w' nv.ownBlock)(hw:nv'.ownBlock=nv.ownBlock\/nv'.ownBlock=some w.heap.size):Vw w' lv xs sv nv':=by
 refine⟨zf0 h.1 (λhx=>(h.2 hx).2) hg,λhx=>⟨(h.2 hx).1,?_⟩⟩;rcases hw with hw|hw
 ·rw[hw];exact(h.2 hx).2
 obtain⟨b,hb,a0⟩:=zv0 h.1 hx;rw[hw,hb];intro hh;simp at hh;omega
def Vw.alloc{w:World}{lv sv nv:Value}{xs:Is}(h:Vw w lv xs sv nv)(o:Obj):Vw (w.alloc o) lv xs sv nv:=⟨zf1 h.1 o,h.2⟩
def Vw.below{nv:Value}(h:Vw w lv xs sv nv)(hb:D w w'):Vw w' lv xs sv nv:=⟨Jx h.1 hb,h.2⟩
def Vw.new{nv:Value}(h:Zw w'.heap.size w' lv xs)(hf:∀b,lv.ownBlock=some b->w.heap.size<=b)(hs:∀b,sv.ownBlock=some b->b<w.heap.size)(hn:∀b,nv.ownBlock=some b->b<w.heap.size):Vw w' lv xs sv nv:=by
 refine⟨h,λhx=>?_⟩;obtain⟨b,hb,a0⟩:=zv0 h hx;have:=hf b hb;refine⟨λhh=>?_,λhh=>?_⟩
 ·have:=hs b (hh.symm.trans hb);omega
 have:=hn b (hh.symm.trans hb);omega
def Vw.set{nv:Value}{a:Addr}(h:Vw w lv xs sv nv)(a0:xs≠[]->lv.ownBlock≠some a.block):Vw (w.setCell a u) lv xs sv nv:=⟨Xf h.1 a0,h.2⟩
structure Fam(w wr:World)(lv cv:Value)(fam:List (Value×Is))(sv nv:Value)(n1 n2:Nat)(xs ys:Vs):Prop where
 hs:wr.ownsRow (w.heap.size+2) 3 1 sv n1 xs
 hn:wr.ownsRow (w.heap.size+2) 73 6 nv n2 ys
 aT:∀p,p∈fam->Vw wr p.1 p.2 sv nv/\(p.2≠[]->∀b,p.1.ownBlock=some b->w.heap.size+2<=b)
 c0:wr.cell? (O (w.heap.size+1) 0)=some lv
 c1:wr.cell? (O (w.heap.size+1) 1)=some cv
 d0:wr.cell? (O w.heap.size 0)=some K
 d1:wr.cell? (O w.heap.size 1)=some K
 f0:∀j,wr.frozen? (O w.heap.size j)=false
 f1:∀j,wr.frozen? (O (w.heap.size+1) j)=false
 hb:D w wr
 hz:w.heap.size+2<=wr.heap.size
section
variable{fam:List (Value×Is)}{nv:Value}{xs:Vs}
def Fam.below(h:Fam w wr lv cv fam sv nv n1 n2 xs ys)(hb:D wr w'):Fam w w' lv cv fam sv nv n1 n2 xs ys:=by
 have q:∀b o,b<wr.heap.size->w'.cell? (O b o)=wr.cell? (O b o):=λb o a0=>hb.cell a0;have f:∀b o,b<wr.heap.size->w'.frozen? (O b o)=wr.frozen? (O b o):=λb o a0=>hb.frozen a0;have hz:=h.hz;have cD:=hb.size;have og:wr.grownBy w' none:=⟨hb.os,hb.tape,hb.output,hb.size,λk hk _=>hb.block k hk⟩;exact⟨h.hs.kept og (by cases sv.ownBlock<;>simp),h.hn.kept og (by cases nv.ownBlock<;>simp),λp hp=>⟨(h.aT p hp).1.below hb,(h.aT p hp).2⟩,(q _ _ (by omega)).trans h.c0,(q _ _ (by omega)).trans h.c1,(q _ _ (by omega)).trans h.d0,(q _ _ (by omega)).trans h.d1,λj=>(f _ _ (by omega)).trans (h.f0 j),λj=>(f _ _ (by omega)).trans (h.f1 j),h.hb.trans (hb.mono (by omega)),by omega⟩
def Fam.alloc(h:Fam w wr lv cv fam sv nv n1 n2 xs ys)(o:Obj):Fam w (wr.alloc o) lv cv fam sv nv n1 n2 xs ys:=h.below (bA)
def Fam.drew(h:Fam w wr lv cv fam sv nv n1 n2 xs ys):Fam w wr.drew lv cv fam sv nv n1 n2 xs ys:=h.below (dA)
def Fam.add(h:Fam w wr lv cv fam sv nv n1 n2 xs ys){N:Nat}(hi:Zw wr.heap.size wr lvn l)(hf:∀b,lvn.ownBlock=some b->N<=b)(a0:∀b,sv.ownBlock=some b->b<N)(b0:∀b,nv.ownBlock=some b->b<N)(hN:w.heap.size+2<=N):Fam w wr lv cv (fam++[(lvn,l)]) sv nv n1 n2 xs ys:=by
 refine⟨h.hs,h.hn,λp hp=>?_,h.c0,h.c1,h.d0,h.d1,h.f0,h.f1,h.hb,h.hz⟩;simp only[mem_append,mem_singleton]at hp;rcases hp with hp|rfl
 ·exact h.aT p hp
 refine⟨⟨hi,λhx=>?_⟩,λ_ b hb=>by have:=hf b hb;omega⟩;obtain⟨b,hb,e0⟩:=zv0 hi hx;have:=hf b hb;exact⟨λhh=>by have:=a0 b (hh.symm.trans hb);omega,λhh=>by have:=b0 b (hh.symm.trans hb);omega⟩
def Fam.mT(h:Fam w wr lv cv fam sv nv n1 n2 xs ys):(∀b,b<w.heap.size+2->some b≠sv.ownBlock)/\(∀b,b<w.heap.size+2->some b≠nv.ownBlock):=
 ⟨λb hb hh=>by have:=(h.hs.lt b hh.symm).1;omega,λb hb hh=>by have:=(h.hn.lt b hh.symm).1;omega⟩
def Fam.first(h:Fam w wr lv cv fam sv nv n1 n2 xs ys){sv':Value}{n1':Nat}{xs':Vs}(ho:w'.ownsRow (w.heap.size+2) 3 1 sv' n1' xs')(hg:wr.grownBy w' sv.ownBlock)(hw:sv'.ownBlock=sv.ownBlock\/sv'.ownBlock=some wr.heap.size):Fam w w' lv cv fam sv' nv n1' n2 xs' ys:=by
 have hz:=h.hz;have a0:=h.mT.1;have f:∀b j,b<w.heap.size+2->w'.frozen? (O b j)=wr.frozen? (O b j):=λb j b0=>Qd (hg.block b (by omega) (a0 b b0));refine⟨ho,h.hn.kept hg ?_,λp hp=>⟨(h.aT p hp).1.first hg hw,(h.aT p hp).2⟩,hg.cell h.c0 (a0 _ (by simp)),hg.cell h.c1 (a0 _ (by simp)),hg.cell h.d0 (a0 _ (by simp)),hg.cell h.d1 (a0 _ (by simp)),λj=>(f _ _ (by omega)).trans (h.f0 j),λj=>(f _ _ (by omega)).trans (h.f1 j),h.hb.grown hg (by omega) (λg hgg=>by have:=(h.hs.lt g hgg).1;omega),by have:=hg.size;omega⟩;exact zq3 h.hn h.hs (by decide)
def Fam.second(h:Fam w wr lv cv fam sv nv n1 n2 xs ys){nv':Value}{n2':Nat}{ys':Vs}(ho:w'.ownsRow (w.heap.size+2) 73 6 nv' n2' ys')(hg:wr.grownBy w' nv.ownBlock)(hw:nv'.ownBlock=nv.ownBlock\/nv'.ownBlock=some wr.heap.size):Fam w w' lv cv fam sv nv' n1 n2' xs ys':=by
 have hz:=h.hz;have a0:=h.mT.2;have f:∀b j,b<w.heap.size+2->w'.frozen? (O b j)=wr.frozen? (O b j):=λb j b0=>Qd (hg.block b (by omega) (a0 b b0));refine⟨h.hs.kept hg ?_,ho,λp hp=>⟨(h.aT p hp).1.second hg hw,(h.aT p hp).2⟩,hg.cell h.c0 (a0 _ (by simp)),hg.cell h.c1 (a0 _ (by simp)),hg.cell h.d0 (a0 _ (by simp)),hg.cell h.d1 (a0 _ (by simp)),λj=>(f _ _ (by omega)).trans (h.f0 j),λj=>(f _ _ (by omega)).trans (h.f1 j),h.hb.grown hg (by omega) (λg hgg=>by have:=(h.hn.lt g hgg).1;omega),by have:=hg.size;omega⟩;exact zq3 h.hs h.hn (by decide)
def Fam.store(h:Fam w wr lv cv fam sv nv n1 n2 xs ys)(u:Value):Fam w (wr.setCell (O (w.heap.size+1) 1) u) lv u fam sv nv n1 n2 xs ys:=by
 have hz:=h.hz
 have hs:(wr.setCell (O (w.heap.size+1) 1) u).heap.size=wr.heap.size:=by simp[setCell]
 have q:∀j,(wr.setCell (O (w.heap.size+1) 1) u).cell? (O w.heap.size j)=wr.cell? (O w.heap.size j):=λj=>by apply Qg;intro hh;injection hh with h2;omega
 refine⟨ownsRow_setCell_below h.hs (by simp) u,ownsRow_setCell_below h.hn (by simp) u,λp hp=>⟨(h.aT p hp).1.set (λhx=>?_),(h.aT p hp).2⟩,?_,cell?_setCell_same' _ _ _ (by simp[h.c1]),(q 0).trans h.d0,(q 1).trans h.d1,λj=>by rw[frozen?_setCell];exact h.f0 j,λj=>by rw[frozen?_setCell];exact h.f1 j,h.hb.setCell (by simp) u,by omega⟩
 ·intro hh
  have h3:w.heap.size+2<=w.heap.size+1:=(h.aT p hp).2 hx _ hh;omega
 have h4:(wr.setCell (O (w.heap.size+1) 1) u).cell? (O (w.heap.size+1) 0)=wr.cell? (O (w.heap.size+1) 0):=by
  apply Qg;intro hh;injection hh with _ h2;exact absurd h2 (by decide)
 rw[h4];exact h.c0
end
def Yu:List Fl.ar->Vs->List (Value×Is)
 |n::ns,lv::lvs=>(lv,n.ae)::Yu ns lvs
 |_,_=>[]
def Jw:∀(ns:List Fl.ar) (lvs:Vs) (n:Fl.ar) (lv:Value),lvs.length=ns.length->Yu (ns++[n]) (lvs++[lv])=Yu ns lvs++[(lv,n.ae)]
 |[],[],n,lv,_=>rfl
 |m::ns,l::lvs,n,lv,h=>by simp only[cons_append,Yu,Jw ns lvs n lv (by simpa using h)]
def Vj:∀(ns:List Fl.ar) (lvs:Vs) (i:Nat),lvs.length=ns.length->i<ns.length->(lvs.getD i K,(Fl.nth ns i).ae)∈Yu ns lvs
 |n::ns,lv::lvs,0,_,_=>by simp[Yu,Fl.nth]
 |n::ns,lv::lvs,i+1,h,hi=>by
  have:=Vj ns lvs i (by simpa using h) (by simpa using hi);simp only[Yu,mem_cons];right;exact this
structure zxx(s:L)(Jb q0:Nat)(w:World)(lv:Value)(ls:Is)(wr:World)(k q:Nat)(sv nv:Value)(st:Is)(acc:List Fl.ar)(lvs:Vs):Prop where
 hk:k<=Jb
 hq:q<=s.length
 cZ:st.length=k
 ee:acc.length=k
 fV:lvs.length=k
 ed:bV s Jb 0 q0 [] []=bV s (Jb - k) k q st acc
 hf:Fam w wr lv nv ((lv,ls)::Yu acc lvs) sv nv k k (st.map (int .i64)) (flat acc lvs)
def zxx.nodes{nv:Value}(h:zxx s Jb q0 w lv ls wr k q sv nv st acc lvs):Zl wr.heap.size wr nv acc:=
 Uy (by rw[h.ee];exact h.hf.hn) (by rw[h.ee,h.fV]) (λi hi=>(h.hf.aT _ (by simp only[mem_cons];right;exact Vj acc lvs i (by rw[h.ee,h.fV]) hi)).1.1)
def zxx.ap{nv:Value}(h:zxx s Jb q0 w lv ls wr k q sv nv st acc lvs):Zw wr.heap.size wr lv ls:=(h.hf.aT (lv,ls) (by simp)).1.1
def Fam.aX{fam:List (Value×Is)}{nv:Value}{xs:Vs}(h:Fam w wr lv cv fam sv nv n1 n2 xs ys)(u u':Value):
  ((wr.setCell (O w.heap.size 0) u).setCell (O w.heap.size 1) u').ownsRow (w.heap.size+2) 73 6 nv n2 ys/\
  ∀p,p∈fam->Zw ((wr.setCell (O w.heap.size 0) u).setCell (O w.heap.size 1) u').heap.size ((wr.setCell (O w.heap.size 0) u).setCell (O w.heap.size 1) u') p.1 p.2:=by
 refine⟨ownsRow_setCell_below (ownsRow_setCell_below h.hn (by simp) u) (by simp) u',λp hp=>?_⟩
 have a0:p.2≠[]->p.1.ownBlock≠some w.heap.size:=λhx hh=>by
  have h3:=(h.aT p hp).2 hx _ hh;omega
 exact Xf (Xf (h.aT p hp).1.1 a0) a0
def zxx.bG{nv:Value}(h:zxx s Jb q0 w lv ls wr k q sv nv st acc lvs)(hb:D wr w')(u u':Value):
  Zw ((w'.setCell (O w.heap.size 0) u).setCell (O w.heap.size 1) u').heap.size ((w'.setCell (O w.heap.size 0) u).setCell (O w.heap.size 1) u') lv ls/\
  Zl ((w'.setCell (O w.heap.size 0) u).setCell (O w.heap.size 1) u').heap.size ((w'.setCell (O w.heap.size 0) u).setCell (O w.heap.size 1) u') nv acc:=by
 have hr:=(h.hf.below hb).aX u u';exact⟨hr.2 (lv,ls) (by simp),Uy (by rw[h.ee];exact hr.1) (by rw[h.ee,h.fV]) (λi hi=>hr.2 _ (by simp only[mem_cons];right;exact Vj acc lvs i (by rw[h.ee,h.fV]) hi))⟩
def Yh{size:Nat}{xs:Vs}(h:w.ownsRow base e size v n xs):∃ao cap,v=A ao n cap:=by
 rcases h.2 with⟨rfl,rfl⟩|⟨g,cap,cur,rfl,_⟩
 ·exact⟨_,_,rfl⟩
 exact⟨_,_,rfl⟩
def zkv(vs:Vs):∀j u,vs[j]?=some u->(w.alloc (.cells vs.toArray e)).cell? (((O w.heap.size 0):Addr).add j)=some u:=by
 intro j u hj
 have h2:((O w.heap.size 0):Addr).add j=(O w.heap.size j):=by unfold Addr.add;split<;>simp_all
 rw[h2,cell?_alloc_new];simpa using hj
def zxx.step{nv:Value}{nd:Fl.ar}{af fb:Int}(h:zxx s Jb q0 w lv ls wr k q sv nv st acc lvs)(b0:k<Jb)(ho:one s q k=(nd,af,fb))(c0:0<=af)(a0:af<=s.length)
  (hf:Fam w w' lv nv' (((lv,ls)::Yu acc lvs)++[(lvn,nd.ae)]) sv' nv' (k+1) (k+1) (st.map (int .i64)++[I (q:Int)]) (flat acc lvs++Zc nd lvn)):
  zxx s Jb q0 w lv ls w' (k+1) af.toNat sv' nv' (st++[(q:Int)]) (acc++[nd]) (lvs++[lvn]):=by
 refine⟨by omega,by omega,by simp[h.cZ],by simp[h.ee],by simp[h.fV],?_,?_⟩
 ·rw[h.ed,show Jb - k=(Jb - (k+1))+1 from by omega];simp only[bV,ho];rw[U (by omega)]
 have aL:lvs.length=acc.length:=by rw[h.ee,h.fV]
 rw[Jw _ _ _ _ aL,zwv _ _ _ _ aL,map_append];exact hf
def Za(e p:Int):List PanicEntry:=[{v:=.iface 202 (.agg #[I e,I p]),recovered:=false}]
structure Mv(w w':World)(b:Nat):Prop where
 g:w.grownBy w' (some b)
 o:∀j,j≠1->w'.cell? (O b j)=w.cell? (O b j)
 f:∀j,w'.frozen? (O b j)=w.frozen? (O b j)
def Mv.refl(w:World)(b:Nat):Mv w w b:=⟨grownBy.refl _ _,λ_ _=>rfl,λ_=>rfl⟩
def Mv.trans{w w1 w2:World}{b:Nat}(h:Mv w w1 b)(k:Mv w1 w2 b):Mv w w2 b:=
 ⟨⟨k.g.os.trans h.g.os,k.g.tape.trans h.g.tape,k.g.output.trans h.g.output,Nat.le_trans h.g.size k.g.size,λi hi a0=>(k.g.block i (Qj hi h.g.size) a0).trans (h.g.block i hi a0)⟩,λj hj=>(k.o j hj).trans (h.o j hj),λj=>(k.f j).trans (h.f j)⟩
def Mv.lt(h:Mv w w' b)(hb:b<w.heap.size):b<w'.heap.size:=Qj hb h.g.size
def Mv.set(w:World)(b:Nat)(u:Value):Mv w (w.setCell (O b 1) u) b:=by
 refine⟨⟨rfl,rfl,rfl,by simp[setCell],λk hk a0=>Below.heap_setCell _ _ _ _ (by intro h;exact a0 (by rw[h]))⟩,λj hj=>?_,λj=>frozen?_setCell _ _ _ _⟩;apply Qg;intro hh;injection hh with _ h2;exact hj h2.symm
def Mv.aD(h:D w w')(hb:b<w.heap.size):Mv w w' b:=
 ⟨⟨h.os,h.tape,h.output,h.size,λk hk _=>h.block k hk⟩,λj _=>h.cell hb,λj=>h.frozen hb⟩
def Mv.grown{row:Option Nat}(h:w.grownBy w' row)(hr:some b≠row)(hb:b<w.heap.size)(aT:∀k,row=some k->w.heap.size<=k):Mv w w' b:=
 ⟨⟨h.os,h.tape,h.output,h.size,λk hk _=>h.block k hk (λe=>by have:=aT k e.symm;omega)⟩,λj _=>Qc (h.block b hb hr),λj=>Qd (h.block b hb hr)⟩
def Mv.below(h:Mv w w' b)(hB:B<=b)(hb:b<w.heap.size):Below B w w':=
 ⟨h.g.os,h.g.tape,h.g.output,h.g.size,λk hk=>h.g.block k (by omega) (by simp;omega)⟩
def Mv.dY{row:Option Nat}(h:Mv w w1 b)(g:w1.grownBy w2 row)(hb:b<w.heap.size)(aT:∀k,row=some k->w.heap.size<=k):Mv w w2 b:=by
 have a0:∀k,k<w.heap.size->some k≠row:=λk hk e=>by have:=aT k e.symm;omega
 have hz:=h.g.size;refine⟨⟨g.os.trans h.g.os,g.tape.trans h.g.tape,g.output.trans h.g.output,Nat.le_trans h.g.size g.size,λk hk b0=>(g.block k (by omega) (a0 k hk)).trans (h.g.block k hk b0)⟩,λj hj=>?_,λj=>?_⟩
 ·exact(Qc (g.block b (by omega) (a0 b hb))).trans (h.o j hj)
 exact(Qd (g.block b (by omega) (a0 b hb))).trans (h.f j)
def Mv.alloc{w w1:World}{b:Nat}(h:Mv w w1 b)(hb:b<w.heap.size)(o:Obj):Mv w (w1.alloc o) b:=h.dY (grownBy_alloc w1 o none) hb (λk e=>by cases e)
def Mv.fy(h:Mv w w1 b)(k:D w1 w2)(hb:b<w.heap.size):Mv w w2 b:=h.trans (Mv.aD k (h.lt hb))
def Mv.drew{w w':World}{b:Nat}(h:Mv w w' b):Mv w w'.drew b:=h.trans ⟨⟨rfl,rfl,rfl,lE,λ_ _ _=>rfl⟩,λ_ _=>rfl,λ_=>rfl⟩
def Mv.drewN{w w':World}{b:Nat}(h:Mv w w' b)(n:Nat):Mv w (w'.drewN n) b:=h.trans ⟨⟨rfl,rfl,rfl,lE,λ_ _ _=>rfl⟩,λ_ _=>rfl,λ_=>rfl⟩
structure Dr(w:World)(b:Nat)(ao:Option Addr)(cap:Nat)(s:L)(p:Nat):Prop where
 c0:w.cell? (O b 0)=some (A ao s.length cap)
 c1:w.cell? (O b 1)=some (I p)
 f1:w.frozen? (O b 1)=false
 hb:s≠[]->∃bb bo,ao=some (O bb bo)/\bb≠b/\∀i,i<s.length->w.cell? (O bb (bo+i))=some (.int .u8 (s.getD i 0).toNat)
 hp:p<=s.length
 hs:s.length<=1099511627776
def Dr.lt(h:Dr w b ao cap s p):b<w.heap.size:=Qe w _ h.c0
def Dr.move(h:Dr w b ao cap s p)(m:Mv w w' b)(c:w'.cell? (O b 1)=some (I q))(hq:q<=s.length):Dr w' b ao cap s q:=by
 refine⟨(m.o 0 (by decide)).trans h.c0,c,(m.f 1).trans h.f1,λb0=>?_,hq,h.hs⟩;obtain⟨bb,bo,ha,a0,hc⟩:=h.hb b0;exact⟨bb,bo,ha,a0,λi hi=>m.g.cell (hc i hi) (by simpa using a0)⟩
def Dr.set{w:World}{b:Nat}{ao:Option Addr}{cap:Nat}{s:L}{p q:Nat}(h:Dr w b ao cap s p)(hq:q<=s.length):Dr (w.setCell (O b 1) (I q)) b ao cap s q:=
 h.move (Mv.set _ _ _) (cell?_setCell_same' _ _ _ (by simp[h.c1])) hq
def Dr.at{w:World}{b:Nat}{ao:Option Addr}{cap:Nat}{s:L}{p:Nat}(h:Dr w b ao cap s p)(a0:p<s.length):∃bb bo,ao=some (O bb bo)/\bb≠b/\w.cell? (O bb (bo+p))=some (.int .u8 (s.getD p 0).toNat):=by
 obtain⟨bb,bo,ha,b0,hc⟩:=h.hb (by intro hh;rw[hh]at a0;simp at a0);exact⟨bb,bo,ha,b0,hc p a0⟩
namespace Fl
def dH(s:L)(p:Nat)(lo hi:Int):Int×Int×Int:=
 if(num s p).2.1<0 then(0,-1,(num s p).2.2) else if(num s p).1<lo\/hi<(num s p).1 then(0,-1,(p:Int)) else((num s p).1,(num s p).2.1,0)
end Fl
section
def Ux(a0:o.guard=none)(t:TypeId)(parts:Array (Nat×Operand))(ho:o.op=.build t parts)(arr:Array Value)
  (ed:(Instr.build t (parts.map λ(i,x)=>(i,a.eval x))).run P w=.ok (.agg arr) w) (h:wpList P ops Q rest (a.put o.dst (.agg arr)) w):wpList P ops Q (o::rest) a w:=
 wpList_plain a0 λ_ hK=>by
  have b0:=hK _ _ h;unfold Oper.wp execOp;simp only[ho,Sem.run_bind,ed,Result.andThen_ok,Sem.run_pure];exact b0
def zz0(a0:o.guard=none)(x y:Operand)(t:TypeId)(ho:o.op=.store t x y)(w:World)(c c':Array Value)(hx:a.eval x=F w.heap.size)(hy:a.eval y=.agg c')
  (hi:(P.info? t).map (·.size)=some c'.size) (cD:c.size=c'.size) (h1:c'.all (·.oneCell')=true) (h:wpList P ops Q rest (a.put o.dst undef) (w.alloc (.cells c' t))):wpList P ops Q (o::rest) a (w.alloc (.cells c t)):=
 wpList_plain a0 λ_ hK=>by
  have b0:=hK _ _ h;unfold Oper.wp execOp;simp only[ho,Sem.run_bind,hx,hy,run_storeAt_new w t c c' hi cD h1,Result.andThen_ok,Sem.run_pure];exact b0
def zs7(a0:o.guard=none)(x y:Operand)(t:TypeId)(ho:o.op=.store t x y)(w:World)(N:Nat)(c c':Array Value)(hx:a.eval x=F N)(hN:w.heap.size=N)(hy:a.eval y=.agg c')
  (hi:(P.info? t).map (·.size)=some c'.size) (cD:c.size=c'.size) (h1:c'.all (·.oneCell')=true) (h:wpList P ops Q rest (a.put o.dst undef) (w.alloc (.cells c' t))):wpList P ops Q (o::rest) a (w.alloc (.cells c t)):=by
 subst hN;exact zz0 a0 x y t ho w c c' hx hy hi cD h1 h
def zd8(x y:Operand)(t:TypeId)(ho:o.op=.store t x y)(w:World)(c c':Array Value)(hx:a.eval x=F w.heap.size)(hy:a.eval y=.agg c')
  (hi:(P.info? t).map (·.size)=some c'.size) (cD:c.size=c'.size) (h1:c'.all (·.oneCell')=true):(execOp a.eval o).run P (w.alloc (.cells c t))=.ok .skip (w.alloc (.cells c' t)):=by
 unfold execOp;simp only[ho,Sem.run_bind,hx,hy,run_storeAt_new w t c c' hi cD h1,Result.andThen_ok,Sem.run_pure]
def zq4(a0:o.guard=none)(x:Operand)(t:TypeId)(ho:o.op=.load t x)(g:Nat)(hx:a.eval x=F g)(arr:Array Value)(te:TypeId)(fr:Nat×Nat)(hg:w.heap[g]?=some (.cells arr te fr))
  (d:TypeDesc) (hu:P.underlying t=some d) (hd:(match d with| .struct _| .array _ _=>true|_=>false)=true) (hi:(P.info? t).map (·.size)=some arr.size) (h:wpList P ops Q rest (a.put o.dst (.agg arr)) w):wpList P ops Q (o::rest) a w:=
 wpList_plain a0 λ_ hK=>by
  have b0:=hK _ _ h;unfold Oper.wp execOp;simp only[ho,Sem.run_bind,hx,Instr.loadAt,Instr.sureAddr,Sem.run_pure,Result.andThen_ok,run_loadVar_row w g te t arr fr d hg hu hd hi];exact b0
def zw8(a0:o.guard=none)(x y:Operand)(t:TypeId)(ho:o.op=.store t x y)(g:Nat)(hx:a.eval x=F g)(c c':Array Value)(hy:a.eval y=.agg c')(te:TypeId)(hg:w.heap[g]?=some (.cells c te (0,0)))
  (hi:(P.info? t).map (·.size)=some c'.size) (cD:c.size=c'.size) (h1:c'.all (·.oneCell')=true) (h:wpList P ops Q rest (a.put o.dst undef) (w.setRow g c')):wpList P ops Q (o::rest) a w:=
 wpList_plain a0 λ_ hK=>by
  have b0:=hK _ _ h;unfold Oper.wp execOp;simp only[ho,Sem.run_bind,hx,hy,Instr.storeAt,Instr.sureAddr,Sem.run_pure,Result.andThen_ok,run_storeVar_row w g te t c c' hg hi cD h1];exact b0
def Vr{Wz:Act->Prop}(a0:o.guard=none)(v:Value)(ed:(execOp a.eval o).run P w=.ok (.value v) w)(h:wpStill P ops w Wz rest (a.put o.dst v)):wpStill P ops w Wz (o::rest) a:=by
 unfold wpStill;simp only[wanted,a0,if_true,Oper.still,ed,Oper.stillUpon,true_and];exact h
def zs2(x:Operand)(t:TypeId)(ho:o.op=.load t x)(g:Nat)(hx:a.eval x=F g)(arr:Array Value)(te:TypeId)(fr:Nat×Nat)(hg:w.heap[g]?=some (.cells arr te fr))
  (d:TypeDesc) (hu:P.underlying t=some d) (hd:(match d with| .struct _| .array _ _=>true|_=>false)=true) (hi:(P.info? t).map (·.size)=some arr.size):(execOp a.eval o).run P w=.ok (.value (.agg arr)) w:=by
 unfold execOp;simp only[ho,Sem.run_bind,hx,Instr.loadAt,Instr.sureAddr,Sem.run_pure,Result.andThen_ok,run_loadVar_row w g te t arr fr d hg hu hd hi]
def zzw(m x:Operand)(t:TypeId)(ho:o.op=.lookup t m x true)(mv kv v:Value)(hm:a.eval m=mv)(hx:a.eval x=kv)(ed:(Instr.lookup t mv kv true).run P w=.ok v w):(execOp a.eval o).run P w=.ok (.value v) w:=by
 unfold execOp;simp only[ho,Sem.run_bind,hm,hx,ed,Result.andThen_ok,Sem.run_pure]
def znv{fn:Func}{p:Tmp}(h:fn.results=#[.cell p ty])(tmps:Array Value)(w:World)(ad:Addr)(v:Value)(ha:tmps.getD p undef=.pointer (some ad))(hl:(loadVar ty ad).run P w=.ok v w):
  (results fn tmps).run P w=.ok v w:=by
 have ha':tmps[p]?.getD undef=.pointer (some ad):=by rw[<-ha,Array.getD_eq_getD_getElem?]
 simp only[results,h];simp[Sem.run_bind,Result.andThen,ha',asAddr,hl]
end
def zq5(n p:Int)(w:World):E 89 #[I n,I p] w λe w'=>e=.panicked (Za n p)/\D w w':=by
 go_enter func89,ntmps89
 go_wp2;exact⟨rfl,rfl,Below.refl _ _⟩
def zx3(b:Nat)(p:Int)(w:World):E 101 #[F b,.bool true,I p] w (Rq (.tuple #[]) w):=by
 go_enter func101,ntmps101
 go_wp2
 go_end0
 exact⟨rfl,rfl⟩
def Vp(b:Nat)(p:Int)(w:World):E 101 #[F b,.bool false,I p] w λe w'=>e=.panicked (Za 8 p)/\D w w':=by
 go_enter func101,ntmps101
 go_wp2_with (go_at_call 89;refine(zq5 _ _ _).mono ?_;rintro e w' ⟨rfl,hb⟩)
 exact⟨rfl,rfl,hb⟩
def zd9(h:Dr w b ao cap s p)(a0:p<s.length):
  E 102 #[F b] w λe w'=>e=.returned (.int .u8 (s.getD p 0).toNat)/\Mv w w' b/\w'.cell? (O b 1)=some (I ((p+1:Nat):Int)):=by
 obtain⟨bb,bo,rfl,b0,hc⟩:=h.at a0;have c0:=h.c0;have c1:=h.c1;have f1:=h.f1;have hs:=h.hs;generalize (s.getD p 0).toNat=x at*;clear h
 go_enter func102,ntmps102
 go_wp2_with fail
 go_still_tail 16,(by kernel_rfl)
 go_wp2_with (go_at_call 101;refine(zx3 _ _ _).mono ?_;rintro e w' ⟨rfl,rfl⟩)
 go_quiet (fail)
 go_wp2;go_ret;exact⟨rfl,(Mv.set _ _ _).drew.drewN _,by simp;exact cell?_setCell_same' _ _ _ (by simp[c1])⟩
def ziz(h:Dr w b ao cap s p)(a0:¬p<s.length):
  E 102 #[F b] w λe w'=>e=.panicked (Za 8 s.length)/\Mv w w' b:=by
 have hlb:=h.lt;have c0:=h.c0;have c1:=h.c1;have f1:=h.f1;have hs:=h.hs;clear h
 go_enter func102,ntmps102
 go_wp2_with fail
 go_still_tail 16,(by kernel_rfl)
 go_wp2_with (go_at_call 101;refine(Vp _ _ _).mono ?_;rintro e w' ⟨rfl,hb⟩;exact⟨rfl,rfl,Mv.aD (dA.trans hb) hlb⟩)
def Xl{id:Nat}{l:List Oper}(n g d g' d':Nat)(hm:P.follows .mixedOrders=true)(hB:Region.lexTailB .any l.toArray n=true)(hg:((l.toArray[g]?).bind λx=>x.dst)=some d)(hg':((l.toArray[g']?).bind λx=>x.dst)=some d')
  (h:∀ops:Array Oper,((ops[g]?).bind λx=>x.dst)=some d->((ops[g']?).bind λx=>x.dst)=some d'->wpStill P ops {w with drawn:=w.drawn+1} (λa'=>wpList P ops Q (l.drop n) a' {w with drawn:=w.drawn+1}) (l.take n) a):(Code.region id l.toArray true).wp P Q a w:=
 wp_region_still_tail n hm hB (h _ hg hg')
def Ur:Array Value:=#[
 .string ⟨#[108,101,118,101,108]⟩,.string ⟨#[110]⟩,.bool true,.func (.func 128) #[] #[],.string ⟨#[98,101,108,111,119]⟩,.string ⟨#[110,110]⟩,.bool true,.func (.func 129) #[] #[],.string ⟨#[99,101,108,108]⟩,.string ⟨#[110,110]⟩,.bool true,.func (.func 130) #[] #[],.string ⟨#[99,104,97,110,110,101,108]⟩,.string ⟨#[110,110]⟩,.bool true,.func (.func 131) #[] #[],.string ⟨#[98,101,103,105,110]⟩,.string ⟨#[]⟩,.bool true,.func (.func 132) #[] #[],.string ⟨#[115,101,116]⟩,.string ⟨#[110,97]⟩,.bool false,.func (.func 133) #[] #[],.string ⟨#[115,101,116]⟩,.string ⟨#[110,97,111,97]⟩,.bool false,.func (.func 133) #[] #[],.string ⟨#[111,117,116]⟩,.string ⟨#[110,97]⟩,.bool false,.func (.func 134) #[] #[],.string ⟨#[105,102]⟩,.string ⟨#[97]⟩,.bool false,.func (.func 135) #[] #[],.string ⟨#[101,108,115,101]⟩,.string ⟨#[]⟩,.bool false,.func (.func 136) #[] #[],.string ⟨#[119,104,105,108,101]⟩,.string ⟨#[97]⟩,.bool false,.func (.func 137) #[] #[],.string ⟨#[101,110,100]⟩,.string ⟨#[]⟩,.bool false,.func (.func 138) #[] #[]]
def zmz(k:Nat):Nat:=[128,129,130,131,132,133,133,134,135,136,137,138].getD k 0
def yi8(k:Nat)(h:k<12):Ur[k*4]?=some (.string ⟨(dJ k).1.toArray⟩)/\Ur[k*4+1]?=some (.string ⟨(dJ k).2.1.toArray⟩)/\Ur[k*4+2]?=some (.bool (dJ k).2.2)/\Ur[k*4+3]?=some (.func (.func (zmz k)) #[] #[]):=by
 rcases(show k=0\/k=1\/k=2\/k=3\/k=4\/k=5\/k=6\/k=7\/k=8\/k=9\/k=10\/k=11 by omega) with rfl|rfl|rfl|rfl|rfl|rfl|rfl|rfl|rfl|rfl|rfl|rfl<;>exact⟨rfl,rfl,rfl,rfl⟩
def yi9(k:Nat)(h:k<12):(∀c∈(dJ k).2.1,c=110\/c=97\/c=111)/\(dJ k).2.1.length<=4:=by
 rcases(show k=0\/k=1\/k=2\/k=3\/k=4\/k=5\/k=6\/k=7\/k=8\/k=9\/k=10\/k=11 by omega) with rfl|rfl|rfl|rfl|rfl|rfl|rfl|rfl|rfl|rfl|rfl|rfl<;>decide
def yny(k:Nat)(h:k<12):∀args W,(callFunc (zmz k) args).run prog W=.ok (.enter (zmz k) args) W:=by
 intro args W;rcases(show k=0\/k=1\/k=2\/k=3\/k=4\/k=5\/k=6\/k=7\/k=8\/k=9\/k=10\/k=11 by omega) with rfl|rfl|rfl|rfl|rfl|rfl|rfl|rfl|rfl|rfl|rfl|rfl<;>kernel_rfl
def yy5(w:World):E 90 #[] w λe w'=>e=.returned (Sq w.heap.size 0 12 12)/\w'=w.alloc (.cells Ur 245):=by
 go_enter func90,ntmps90
 go_wp2_with fail
 go_ret;exact⟨rfl,rfl⟩
def Xe(b:Nat)(n:Int)(w:World):E 94 #[F b,.bool true,I n] w (Rq (.tuple #[]) w):=by
 go_enter func94,ntmps94
 go_wp2
 go_end0
 exact⟨rfl,rfl⟩
def Yf(b:Nat)(n p:Int)(w:World)(hp:w.cell? (O b 1)=some (I p)):E 94 #[F b,.bool false,I n] w λe w'=>e=.panicked (Za n p)/\D w w':=by
 go_enter func94,ntmps94
 go_wp2_with (go_at_call 89;refine(zq5 _ _ _).mono ?_;rintro e w' ⟨rfl,hb⟩)
 exact⟨rfl,rfl,hb⟩
def Tryz.infoLineRule:(Tryz.prog.info? 245).map (·.size)=some 4:=by kernel_rfl
def lrOne(a b:ByteArray)(c:Bool)(f:Nat):(#[.string a,.string b,.bool c,.func (.func f) #[] #[]]:Array Value).all (·.oneCell')=true:=by kernel_rfl
def yr1(R T:Nat)(b off n cap:Nat)(ws:List L)(aq:Int)(ag:Bool)(w:World)(Wq:World->Prop)(Rp:Int->Int->World->Prop)
  (hT:w.heap[T]?=some (.cells Ur 245 (0,0))) (J0:Zi w.heap.size w (.slice (some (O b off)) n cap) ws) (K0:ws≠[])
  (hl:w.cell? (O R 1)=some (I aq)) (L0:w.cell? (O R 2)=some (.bool ag))
  (i0:(∀k,k<12->bX ws k=false)->∀W,D w W->Rp 2 aq W)
  (M0:∀k,k<12->bX ws k=true->(dJ k).2.2=ag->∀W,D w W->Rp 3 aq W)
  (d0:∀k,k<12->bX ws k=true->(dJ k).2.2≠ag->∀W v,D w W->Zi w.heap.size W v (ws.drop 1)->v.ownBlock=some b->E (zmz k) #[F R,v] W λe W'=>(e=.returned (.tuple #[])/\Wq W')\/∃n p,e=.panicked (Za n p)/\Rp n p W'):
  E 93 #[F R,.slice (some (O T 0)) 12 12,.slice (some (O b off)) n cap] w λe W'=>(e=.returned (.tuple #[])/\Wq W')\/∃n p,e=.panicked (Za n p)/\Rp n p W':=by
 have HT:=Z hT;have HW:=Z J0;have HL:=Z hl;have d1:=Z L0;have p0:=Z i0;have e1:=Z M0;have j0:=Z d0;clear hT J0 hl L0 i0 M0 d0
 go_enter func93,ntmps93
 go_wp2_with fail
 go_loopw [10] (λi wr=>∃(k:Nat),k<=12/\i=I k/\D w wr/\∀j,j<k->bX ws j=false) (λi _=>12 - (intOf i).toNat)
 case atStart=>exact⟨0,by omega,rfl,Below.refl _ _,λj hj=>by omega⟩
 case round=>
  obtain⟨k,hk,rfl,a0,dt⟩:=hrel;have s0:=Z dt;have HB:=Z a0;have f1:=(Array.getElem?_eq_some_iff.1 HT).1;have t0:=Qe w (O R 1) HL.out;have g1:=a0.size;clear dt
  by_cases k0:k<12
  ·have N0:=(a0.block T f1).trans HT.out
   obtain⟨O0,P0,Q0,R0⟩:=yi8 k k0
   have hc:∀j v,Ur[k*4+j]?=some v->wr.cell? (O T (k*4+j))=some v:=λj v hv=>by
    unfold cell?;simp only[N0];simpa using hv
   have q0:wr.cell? (O T (k*4))=some (.string ⟨(dJ k).1.toArray⟩):=hc 0 _ (by simpa using O0);have q1:=hc 1 _ P0;have q2:=hc 2 _ Q0;have q3:=hc 3 _ R0;obtain⟨wd,u0⟩:=J ((dJ k).1);obtain⟨sh,n0⟩:=J ((dJ k).2.1);obtain⟨ah,v0⟩:=J ((dJ k).2.2);obtain⟨fn,x0⟩:=J (zmz k);rw[<-u0]at q0;rw[<-n0]at q1;rw[<-v0]at q2;rw[<-x0]at q3;obtain⟨ao',cap',S0,u1,y0,v1,h1,T0⟩:=HW.out;simp only[slice.injEq]at S0;obtain⟨rfl,rfl,rfl⟩:=S0;obtain⟨b',off',U0,i1,e0⟩:=T0 K0;simp only[Ql,Addr.mk.injEq,and_true]at U0;obtain⟨rfl,rfl⟩:=U0;obtain⟨x,hx⟩:=J (ws.getD 0 []);have z0:0<ws.length:=length_pos_iff.2 K0;have A0:wr.cell? (O b off)=some (Tq x):=by
    rw[a0.cell (p:=(O b off)) i1,hx];have:=e0 0 z0;simpa [strV] using this
   have HX:=Z hx;have V0:=Z x0;have W0:=Z v0;have B0:Y (bX ws k=(x==wd && bf sh (ws.drop 1))):=(by show _=_;rw[hx,u0,n0];rfl);have X0:Y ((∀c∈sh,c=110\/c=97\/c=111)/\sh.length<=4):=(by show _/\_;rw[n0];exact yi9 k k0);have x1:(k:Int)<12:=(by omega);clear hc O0 P0 Q0 R0 u0 n0 v0 x0 hx e0 N0 T0 h1
   go_wp2_with (refine zz0 rfl _ _ 245 rfl wr _ #[Tq wd,Tq sh,.bool ah,.func (.func fn) #[] #[]] rfl rfl Tryz.infoLineRule (by rfl) (lrOne _ _ _ _) ?_)
   obtain⟨W1,b0⟩:=J (wr.alloc (.cells #[Tq wd,Tq sh,.bool ah,.func (.func fn) #[] #[]] 245));obtain⟨rb,g0⟩:=J (wr.heap.size);rw[<-b0,<-g0];have Y0:D w W1:=(by rw[b0];exact a0.alloc g1 _);have r0:W1.cell? (O rb 0)=some (Tq wd):=(by rw[b0,g0];exact cell?_alloc_new _ _ _ _);have r1:W1.cell? (O rb 1)=some (Tq sh):=(by rw[b0,g0];exact cell?_alloc_new _ _ _ _);have r2:W1.cell? (O rb 2)=some (.bool ah):=(by rw[b0,g0];exact cell?_alloc_new _ _ _ _);have r3:W1.cell? (O rb 3)=some (.func (.func fn) #[] #[]):=(by rw[b0,g0];exact cell?_alloc_new _ _ _ _);have j1:W1.cell? (O b off)=some (Tq x):=(by rw[b0];exact(Qf _ _ _ (Qe wr _ A0)).trans A0);have C0:=Z Y0;have y1:w.heap.size<W1.heap.size:=(by rw[b0];simp;omega);have Z0:rb<W1.heap.size:=(by rw[b0,g0];simp);clear q0 q1 q2 q3 A0 b0 g0 a0 Y0;unfold maxLen at y0
   cases a1:x==wd with
   |false=>
    have D0:Y (∀j,j<k+1->bX ws j=false):=λj hj=>by
     by_cases E0:j=k
     ·subst E0;rw[B0.out,a1];rfl
     exact s0 j (by omega)
    refine Xl 11 6 _ 6 _ (by kernel_rfl) (by kernel_rfl) rfl rfl (λops hY k1=>?_);simp only[take_succ_cons,take_zero,drop_succ_cons,drop_zero]
    iterate 11 still_step
    refine wpStill_nil ?_;go_wp2
    go_roundw
    case rel=>exact⟨k+1,by omega,by go_num,C0.drew,D0⟩
    case measure=>simp[intOf];omega
   |true=>
    have l1:(1:Int)<=(ws.length:Int):=(by omega);have m1:(ws.length:Int)<=(cap:Int):=(by omega)
    by_cases l0:cap=1
    all_goals
     (try subst l0)
     refine Xl 11 6 _ 6 _ (by kernel_rfl) (by kernel_rfl) rfl rfl (λops hY k1=>?_);simp only[take_succ_cons,take_zero,drop_succ_cons,drop_zero]
     iterate 11 still_step
     refine wpStill_nil ?_
     go_wp2_with fail
    all_goals first
     |obtain⟨sv,f0⟩:=J (slice (some (O b off)) 0 0)
      rw[<-f0]
      have F0:Y (∀W,D w W->Zi w.heap.size W sv (ws.drop 1)):=λW hW=>by
       have:=drop_eq_nil_of_le (by omega);rw[this,f0];exact⟨_,_,rfl,by simp,by simp[maxLen],by simp,by simp,λh=>absurd rfl h⟩
     |obtain⟨sv,f0⟩:=J (slice (some (O b (off+1))) (ws.length - 1) (cap - 1))
      rw[<-f0]
      have F0:Y (∀W,D w W->Zi w.heap.size W sv (ws.drop 1)):=λW hW=>by
       rw[f0];exact(HW.below hW).drop 1 (by omega)
    all_goals
     have n1:=Z f0;have o1:Y (sv.ownBlock=some b):=(by rw[f0];rfl);clear f0;have HF:=yd5 w.heap.size sh sv (ws.drop 1) W1.drew (F0 _ C0.drew) (by simp;omega) X0.1 X0.2;refine HF.mono ?_;clear HF;rintro e W2 ⟨rfl,h0⟩;have m0:=Z (C0.drew.trans (h0.mono (by simp;omega)));have s2:=cT h0 (by simpa using Z0) r2;have s3:=cT h0 (by simpa using Z0) r3;have t2:=cT m0 t0 d1.out;have t1:=cT m0 t0 HL.out;have z1:w.heap.size<W2.heap.size:=(by have:=h0.size;simp at this;omega);clear h0 r0 r1 r2 r3 j1
     cases c0:bf sh (ws.drop 1) with
     |false=>
      have D0:Y (∀j,j<k+1->bX ws j=false):=λj hj=>by
       by_cases E0:j=k
       ·subst E0;rw[B0.out,c0];simp
       exact s0 j (by omega)
      clear c0 s2 s3 t1 t2;go_wp2
      go_roundw
      case rel=>exact⟨k+1,by omega,by go_num,m0,D0⟩
      case measure=>simp[intOf];omega
     |true=>
      have b1:Y (bX ws k=true):=(by show _=_;rw[B0.out,a1,c0];rfl);clear c0
      by_cases G0:ah=ag
      ·subst G0
       have o0:=Z (Yf R 3 aq W2.drew t1);have b9:(ah !=ah)=false:=(by simp)
       go_wp2_with fail
       go_still_tail 8,(by kernel_rfl)
       go_wp2_with fail
       refine o0.mono ?_;rintro e W3 ⟨rfl,p1⟩;exact⟨rfl,.inr ⟨_,_,rfl,e1 k k0 b1 W0.symm W3 (m0.drew.trans (p1.mono (by simp;omega)))⟩⟩
      have b9:=beq_eq_false_iff_ne.2 G0;have o0:=Z (Xe R 3 W2.drew);have A1:∀args W,(callFunc fn args).run prog W=.ok (.enter fn args) W:=(by rw[V0.out];exact yny k k0)
      go_wp2_with fail
      go_still_tail 8,(by kernel_rfl)
      go_wp2_with fail
      refine o0.mono ?_;rintro e W3 ⟨rfl,H0⟩;have u3:W3.cell? (O rb 3)=some (.func (.func fn) #[] #[]):=(by rw[H0];exact s3);have c1:Y (D w W3):=(by rw[H0];exact m0.drew);clear H0 s2 s3 t1 t2 o0
      go_wp2_with fail
      go_still_tail 5,(by kernel_rfl)
      go_wp2_with fail
      have I0:=j0 k k0 b1 (by rw[<-W0.out];exact G0) W3.drew sv c1.drew (F0 _ c1.drew) o1.out;rw[<-V0.out,n1.out]at I0;refine I0.mono ?_;clear I0;rintro e W4 (⟨rfl,hG⟩|⟨n,p,rfl,hR⟩)
      ·have HG:=Z hG
       clear hG;go_wp2
       (try simp only[Exit.inBlock,Exit.then])
       refine bodyPost_ret (results_none rfl _ _ _) rfl ?_;exact .inl ⟨rfl,HG⟩
      exact⟨rfl,.inr ⟨_,_,rfl,hR⟩⟩
  obtain rfl:k=12:=by omega
  have s1:Y (∀W,D w W->E 94 #[F R,.bool false,I 2] W λe w'=>e=.panicked (Za 2 aq)/\D W w'):=λW hW=>Yf R 2 aq W (cT hW t0 HL);clear a0
  go_wp2_with fail
  refine(s1 _ HB).mono ?_;rintro e w2 ⟨rfl,h0⟩;exact⟨rfl,.inr ⟨_,_,rfl,p0 s0 w2 (HB.trans (h0.mono (by omega)))⟩⟩
end
section
open Go.RowKit Go.Maps Go.WideMaps
namespace Fl
def du(w:List UInt8):∀(l:List (List UInt8)) (i:Nat),bx i w l=if bx 0 w l<0 then -1 else(i:Int)+bx 0 w l
 |[],i=>by simp[bx]
 |x::r,i=>by
  simp only[bx]
  by_cases hx:(x==w)=true
  ·simp only[hx,if_true];simp
  simp only[show (x==w)=false by simpa using hx,Bool.false_eq_true,if_false];rw[du w r (i+1),du w r (0+1)]
  by_cases h:bx 0 w r<0
  ·simp[h]
  simp only[h,if_false];rw[if_neg (by omega)];omega
def aQ(l:List (List UInt8))(w:List UInt8):aj l w= -1\/(0<=aj l w/\aj l w<l.length):=by
 unfold aj
 induction l with
 |nil=>left;rfl
 |cons x r ih=>
  simp only[bx,length_cons]
  by_cases hx:(x==w)=true
  ·right;simp only[hx,if_true];omega
  simp only[show (x==w)=false by simpa using hx,Bool.false_eq_true,if_false];rw[du];rcases ih with h|h
  ·left;rw[h];rfl
  right;rw[if_neg (by omega)];omega
def eZ(a b:List (List UInt8))(w:List UInt8):aj (a++b) w=if 0<=aj a w then aj a w else if 0<=aj b w then(a.length:Int)+aj b w else -1:=by
 induction a with
 |nil=>
  rcases aQ b w with h|h
  ·simp[aj,bx]at h⊢;rw[h];simp
  have:¬(0<=aj ([]:List (List UInt8)) w):=by simp[aj,bx]
  simp only[nil_append,this,if_false,h.1,if_true,length_nil];omega
 |cons x r ih=>
  unfold aj at ih⊢;simp only[cons_append,bx,length_cons]
  by_cases hx:(x==w)=true
  ·simp[hx]
  simp only[show (x==w)=false by simpa using hx,Bool.false_eq_true,if_false];rw[du w (r++b),du w r (0+1),ih];have h1:=aQ r w;have h2:=aQ b w;unfold aj at h1 h2;rcases h1 with h1|h1
  ·rw[h1];simp only[show ¬(0:Int)<= -1 by omega,if_false]
   rcases h2 with h2|h2
   ·rw[h2];simp
   simp only[h2.1,if_true];rw[if_neg (by omega)];simp only[show (-1:Int)<0 by omega,if_true,show ¬(0:Int)<= -1 by omega,if_false];push_cast;omega
  simp only[h1.1,if_true];rw[if_neg (by omega),if_pos (by omega)]
def gF(a:List (List UInt8))(w:List UInt8)(h:aj a w<0):aj (a++[w]) w=a.length:=by
 rw[eZ,if_neg (by omega)]
 have:aj [w] w=0:=by simp[aj,bx]
 rw[this];simp
def gR(a:List (List UInt8))(w x:List UInt8)(h:x≠w):aj (a++[w]) x=aj a x:=by
 rw[eZ]
 have:aj [w] x= -1:=by simp[aj,bx,Ne.symm h]
 rw[this];rcases aQ a x with h1|h1
 ·rw[h1];simp
 simp[h1.1]
end Fl
def Yx(w:World)(b:Nat)(names:List (List UInt8)):Prop:=
 ∃n Qy,w.ownsMap (H:=Unit) prog 9 (plainElem prog 3) b n Qy/\n<=names.length/\Maps.size Qy=names.length/\Tidy Qy/\IsMap Qy/\
  ∀x,Maps.has Qy (.string x)=decide (0<=Fl.aj names x)/\Qy.atKey (.string x) (.lit (.int .i64 0))=.lit (.int .i64 (max 0 (Fl.aj names x)))
def zmy:Keyed prog 9:=string_keyed underlying9
def yd7(w:World):(zeroValue 3).run prog w=.ok (.int .i64 0) w:=by kernel_rfl
def yiz(x:List UInt8)(h:x.length<=100000):keyOf prog 9 (.string ⟨x.toArray⟩)=some (.string x):=by
 have:=keyOf_string_mk underlying9 (by show x.toArray.size<=_;simp[maxLen];omega);simpa using this
def Yx.kept{w w':World}{b:Nat}{names:List (List UInt8)}(h:Yx w b names){row:Option Nat}(g:w.grownBy w' row)(hb:some b≠row):Yx w' b names:=by
 obtain⟨n,Qy,h1,h2⟩:=h;exact⟨n,Qy,h1.kept g hb,h2⟩
def Yx.block(h:Yx w b names)(hb:w'.heap[b]?=w.heap[b]?):Yx w' b names:=by
 obtain⟨n,Qy,⟨es,clock,h1,h1'⟩,h2⟩:=h;exact⟨n,Qy,⟨es,clock,by rw[hb];exact h1,h1'⟩,h2⟩
def Yx.lt{w:World}{b:Nat}{names:List (List UInt8)}(h:Yx w b names):b<w.heap.size:=by
 obtain⟨n,Qy,h1,h2⟩:=h;exact h1.lt
def Yx.made(w:World):Yx (w.alloc (.map #[] 0)) w.heap.size []:=
 ⟨0,.map [],ownsMap_made w _ _ _,Nat.le_refl _,rfl,(ownsMap_made w prog 9 (plainElem prog 3)).tidy zmy,(ownsMap_made w prog 9 (plainElem prog 3)).isMap,λx=>⟨by simp[Maps.has,Fl.aj,Fl.bx],by simp[DataW.atKey,Fl.aj,Fl.bx];decide⟩⟩
def Yx.look(h:Yx w b names)(x:List UInt8)(hx:x.length<=100000):
  (Instr.lookup 156 (.map (some b)) (.string ⟨x.toArray⟩) true).run prog w=.ok (.tuple #[.int .i64 (max 0 (Fl.aj names x)),.bool (decide (0<=Fl.aj names x))]) w:=by
 obtain⟨n,Qy,h1,h2,h3,h4,h5,h6⟩:=h;obtain⟨v,ps,hr,hv⟩:=h1.look_ok zmy underlying156 (yd7 w) (plainElem_int underlying3 (by decide)) (yiz x hx);obtain⟨c,rfl,hc,_⟩:=plainElem_int_inv underlying3 hv;rw[(h6 x).2]at hc;rw[hr,(h6 x).1];simp only[Prod.mk.injEq,DataW.lit.injEq,Lit.int.injEq,true_and]at hc;rw[hc.1]
def Yx.iw(h:Yx w b names)(x:List UInt8)(hx:x.length<=100000):
  ∃(mx:Int) (tb:Bool),(Instr.lookup 156 (.map (some b)) (.string ⟨x.toArray⟩) true).run prog w=.ok (.tuple #[.int .i64 mx,.bool tb]) w/\tb=decide (0<=Fl.aj names x)/\mx=max 0 (Fl.aj names x):=⟨_,_,h.look x hx,rfl,rfl⟩
def Yx.len{w:World}{b:Nat}{names:List (List UInt8)}(h:Yx w b names)(ty:TypeId):(Builtin.len_ #[156] ty #[.map (some b)]).run prog w=.ok (.int .i64 names.length) w:=by
 obtain⟨n,Qy,h1,h2,h3,h4⟩:=h;rw[h1.len underlying156 ty,h3]
def Yx.put(h:Yx w b names)(x:List UInt8)(hx:x.length<=100000)(dt:Fl.aj names x<0)(hn:names.length<=100):
  ∃w',(Instr.mapUpdate 156 (.map (some b)) (.string ⟨x.toArray⟩) (.int .i64 names.length)).run prog w=.ok () w'/\Yx w' b (names++[x])/\w.grownBy w' (some b):=by
 obtain⟨n,Qy,h1,h2,h3,h4,h5,h6⟩:=h;obtain⟨w',hr,ho,ht⟩:=h1.store zmy underlying156 (by unfold maxLen;omega) (yiz x hx) (plainElem_int underlying3 (show (Lit.int .i64 (names.length:Int)).wf=true from WalkArith.wf_i64 (by omega)));refine⟨w',hr,⟨n+1,_,ho,by simp;omega,?_,ho.tidy zmy,ho.isMap,λy=>?_⟩,ht.grown⟩
 ·rw[size_put h4,(h6 x).1,h3];simp[dt]
 by_cases hy:y=x
 ·subst hy
  rw[has_put_same h5 (by simp[WideAt.IsKeyLit]),atKey_put_same h5 (by simp[WideAt.IsKeyLit]),Fl.gF _ _ dt];simp
 have a0:(Lit.string y)≠ .string x:=by simpa using hy
 rw[has_put_other a0,atKey_put_other a0,Fl.gR _ _ _ hy];exact h6 y
end
section
open Go.RowKit
structure Ze(w:World)(b n:Nat)(f:Nat->Value):Prop where
 c:∀j,j<n->w.cell? (O b j)=some (f j)
 z:∀j,w.frozen? (O b j)=false
abbrev rw_(l:Vs):Nat->Value:=λi=>l.getD i undef
def ptr(b:Nat):Value:=F b
def Ze.block{f:Nat->Value}(h:Ze w b n f)(hb:w'.heap[b]?=w.heap[b]?):Ze w' b n f:=
 ⟨λj hj=>cQ hb (h.c j hj),λj=>fQ hb (h.z j)⟩
def Ze.set{f:Nat->Value}(h:Ze w b n f){j:Nat}(hj:j<n)(v:Value):Ze (w.setCell (O b j) v) b n (λi=>if i=j then v else f i):=by
 refine⟨λi hi=>?_,λi=>by rw[frozen?_setCell];exact h.z i⟩
 by_cases a0:i=j
 ·subst a0;rw[G rfl];exact cell?_setCell_same' _ _ _ (by simp[h.c i hi])
 rw[U a0];refine(Qg _ _ _ _ ?_).trans (h.c i hi);intro hh;injection hh with _ h2;exact a0 (by omega)
def Ze.lt{f:Nat->Value}(h:Ze w b n f)(hn:0<n):b<w.heap.size:=Qe w (O b 0) (h.c 0 hn)
def Ze.new(w:World)(l:Vs)(t:TypeId):Ze (w.alloc (.cells l.toArray t)) w.heap.size l.length (rw_ l):=by
 refine⟨λj hj=>?_,λj=>by rw[frozen?,heap_alloc_new];simp⟩;rw[cell?_alloc_new];simp[rw_,Qa,hj]
def Ze.congr{f g:Nat->Value}(h:Ze w b n f)(hg:∀j,j<n->f j=g j):Ze w b n g:=⟨λj hj=>by rw[<-hg j hj];exact h.c j hj,h.z⟩
def Zx(w:World)(b j:Nat)(v:Value)(k:Nat)(hk:k≠b):(w.setCell (O b j) v).heap[k]?=w.heap[k]?:=Below.heap_setCell w (O b j) v k hk
def Zy(w:World)(a:Addr)(v:Value):(w.setCell a v).heap.size=w.heap.size:=by simp[setCell]
def Xn(S:Nat->Prop)(w:World)(p:Value)(a:Fl.dK):Prop:=
 ∃vb,p=ptr vb/\S vb/\Ze w vb 4 (rw_ [I (if a.var then 1 else 0),I a.v,.pointer none,.pointer none])
def zs3(S:Nat->Prop)(w:World)(p:Value)(e:Fl.dZ):Prop:=
 (e.op= -1/\Xn S w p e.a)\/(0<=e.op/\∃vb x y,p=ptr vb/\S vb/\Ze w vb 4 (rw_ [I 2,I e.op,x,y])/\Xn S w x e.a/\Xn S w y e.b)
def zxw(Wx:(Nat->Prop)->World->Value->List Fl.aa->Prop)(S:Nat->Prop)(w:World)(p:Value)(s:Fl.aa):Prop:=
 ∃sb vp fv ev,p=ptr sb/\S sb/\Ze w sb 6 (rw_ [I s.kind,I s.aq,I s.x,vp,fv,ev])/\zs3 S w vp s.e/\Wx S w fv s.aZ/\Wx S w ev s.aU
def noS:Fl.aa:=⟨0,0,0,⟨-1,⟨false,0⟩,⟨false,0⟩⟩,[],[]⟩
def Yz:Nat->(Nat->Prop)->World->Value->List Fl.aa->Prop
 |0,_,_,v,l=>l=[]/\v=K
 |d+1,S,w,v,l=>∃ao cap,v=A ao l.length cap/\l.length<=cap/\cap<=maxLen/\l.length<=16/\
   (l≠[]->∃b off,ao=some (O b off)/\S b/\∀i,i<l.length->∃p,w.cell? (O b (off+i))=some p/\zxw (Yz d) S w p (l.getD i noS))
section
def Xn.kept{p:Value}{a:Fl.dK}(h:Xn S w p a)(hS:∀b,S b->S' b)(hw:∀b,S b->w'.heap[b]?=w.heap[b]?):Xn S' w' p a:=by
 obtain⟨vb,h1,h2,h3⟩:=h;exact⟨vb,h1,hS _ h2,h3.block (hw _ h2)⟩
def zs3.kept{p:Value}{e:Fl.dZ}(h:zs3 S w p e)(hS:∀b,S b->S' b)(hw:∀b,S b->w'.heap[b]?=w.heap[b]?):zs3 S' w' p e:=by
 rcases h with⟨h1,h2⟩|⟨h1,vb,x,y,h2,h3,h4,h5,h6⟩
 ·exact .inl ⟨h1,h2.kept hS hw⟩
 exact .inr ⟨h1,vb,x,y,h2,hS _ h3,h4.block (hw _ h3),h5.kept hS hw,h6.kept hS hw⟩
def zxw.kept{Wx:(Nat->Prop)->World->Value->List Fl.aa->Prop}(hK:∀v l,Wx S w v l->Wx S' w' v l){p:Value}{s:Fl.aa}(h:zxw Wx S w p s)(hS:∀b,S b->S' b)(hw:∀b,S b->w'.heap[b]?=w.heap[b]?):zxw Wx S' w' p s:=by
 obtain⟨sb,vp,fv,ev,h1,h2,h3,h4,h5,h6⟩:=h;exact⟨sb,vp,fv,ev,h1,hS _ h2,h3.block (hw _ h2),h4.kept hS hw,hK _ _ h5,hK _ _ h6⟩
def Yz.kept(hS:∀b,S b->S' b)(hw:∀b,S b->w'.heap[b]?=w.heap[b]?):∀(d:Nat) (v:Value) (l:List Fl.aa),Yz d S w v l->Yz d S' w' v l
 |0,_,_,h=>h
 |d+1,v,l,h=>by
  obtain⟨ao,cap,h1,h2,h3,h4,h5⟩:=h;refine⟨ao,cap,h1,h2,h3,h4,λa0=>?_⟩;obtain⟨b,off,e,hb,hc⟩:=h5 a0;refine⟨b,off,e,hS b hb,λi hi=>?_⟩;obtain⟨p,hp,b0⟩:=hc i hi;exact⟨p,cQ (hw b hb) hp,b0.kept (λv l h=>Yz.kept hS hw d v l h) hS hw⟩
end
def Yz.nil(d:Nat)(S:Nat->Prop)(w:World):Yz d S w K []:=by
 cases d with
 |zero=>exact⟨rfl,rfl⟩
 |succ d=>exact⟨none,0,rfl,by simp,by simp[maxLen],by simp,λh=>absurd rfl h⟩
def Ys(d:Nat)(S:Nat->Prop)(base:Nat)(w:World)(v:Value)(ts:List Fl.aa)(tl:Vs):Prop:=
 ∃ps:Vs,w.ownsRow base 223 1 v (ps.length+tl.length) (ps++tl)/\ps.length=ts.length/\∀i,i<ts.length->zxw (Yz d) S w (ps.getD i undef) (ts.getD i noS)
def Ys.kept{d:Nat}{S S':Nat->Prop}{base:Nat}{w w':World}{v:Value}{ts:List Fl.aa}{tl:Vs}(h:Ys d S base w v ts tl)(hS:∀b,S b->S' b)(hw:∀b,S b->w'.heap[b]?=w.heap[b]?)(hv:∀b,v.ownBlock=some b->w'.heap[b]?=w.heap[b]?):Ys d S' base w' v ts tl:=by
 obtain⟨ps,h1,h2,h3⟩:=h;refine⟨ps,⟨h1.1,?_⟩,h2,λi hi=>(h3 i hi).kept (λv l h=>Yz.kept hS hw d v l h) hS hw⟩;rcases h1.2 with⟨rfl,h0⟩|⟨g,cap,cur,rfl,hb,hg,hr⟩
 ·exact .inl ⟨rfl,h0⟩
 exact .inr ⟨g,cap,cur,rfl,hb,by rw[hv g rfl];exact hg,hr⟩
def Ys.closed{ts:List Fl.aa}(h:Ys d S base w v ts [])(hv:∀b,v.ownBlock=some b->S b)(hl:ts.length<=16):Yz (d+1) S w v ts:=by
 obtain⟨ps,h1,h2,h3⟩:=h;simp only[append_nil,length_nil,Nat.add_zero]at h1;rcases h1.2 with⟨rfl,h0⟩|⟨g,cap,cur,rfl,hb,hg,b0,a0,c0,ht⟩
 ·have:ts=[]:=Qi (by omega)
  subst this;exact Yz.nil _ _ _
 refine⟨_,cap,by rw[<-h2],by omega,a0,hl,λd0=>⟨g,0,rfl,hv g rfl,λi hi=>⟨ps.getD i undef,?_,h3 i hi⟩⟩⟩;have h4:=h1.cells (g:=g) rfl i (ps.getD i undef) (by rw[Qa,Qb (by omega)];simp)
 have h5:((O g 0):Addr).add i=(O g (0+i)):=by unfold Addr.add;split<;>simp_all
 rw[h5]at h4;exact h4
structure GF where
 sb:Nat
 ob:Nat
 vp:Value
 fv:Value
 ev:Value
def GF.act(g:GF)(f:Fl.Frame):Value:=if f.cU then g.ev else g.fv
structure zv1(aF:Nat->Nat)(base:Nat)(w:World)(d i:Nat)(tl:Vs)(f:Fl.Frame)(g:GF):Prop where
 ts:aF g.sb=10+3*i
 to:aF g.ob=11+3*i
 ta:∀b,(g.act f).ownBlock=some b->aF b=12+3*i
 co:Ze w g.ob 2 (rw_ [ptr g.sb,.bool f.cU])
 cs:Ze w g.sb 6 (rw_ [I f.kind,I f.aq,I 0,g.vp,g.fv,g.ev])
 hv:zs3 (λb=>aF b=0) w g.vp f.e
 pa:Ys d (λb=>aF b=0) base w (g.act f) (if f.cU then f.fu else f.first) tl
 pf:f.cU=true->Yz (d+1) (λb=>aF b=0) w g.fv f.first
 pe:f.cU=false->g.ev=K/\f.fu=[]
def Vo(aF:Nat->Nat)(base:Nat)(w:World):Nat->Vs->List Fl.Frame->List GF->Prop
 |_,_,[],[]=>True
 |d,tl,f::fs,g::gs=>zv1 aF base w d fs.length tl f g/\Vo aF base w (d+1) [ptr g.sb] fs gs
 |_,_,_,_=>False
def zv1.kept{aF who':Nat->Nat}{base:Nat}{w w':World}{d i:Nat}{tl:Vs}{f:Fl.Frame}{g:GF}(h:zv1 aF base w d i tl f g)(hS:∀b,aF b=0\/aF b=10+3*i\/aF b=11+3*i\/aF b=12+3*i->who' b=aF b/\w'.heap[b]?=w.heap[b]?):zv1 who' base w' d i tl f g:=by
 have h0:∀b,aF b=0->who' b=0:=λb hb=>by rw[(hS b (.inl hb)).1];exact hb
 have h1:∀b,aF b=0->w'.heap[b]?=w.heap[b]?:=λb hb=>(hS b (.inl hb)).2;exact⟨by rw[(hS _ (.inr (.inl h.ts))).1];exact h.ts,by rw[(hS _ (.inr (.inr (.inl h.to)))).1];exact h.to,λb hb=>by have:=h.ta b hb;rw[(hS b (.inr (.inr (.inr this)))).1];exact this,h.co.block (hS _ (.inr (.inr (.inl h.to)))).2,h.cs.block (hS _ (.inr (.inl h.ts))).2,h.hv.kept h0 h1,h.pa.kept h0 h1 (λb hb=>(hS b (.inr (.inr (.inr (h.ta b hb))))).2),λhh=>Yz.kept h0 h1 _ _ _ (h.pf hh),h.pe⟩
def Vo.kept{aF who':Nat->Nat}{base:Nat}{w w':World}:∀{d:Nat} {tl:Vs} {fs:List Fl.Frame} {gs:List GF},Vo aF base w d tl fs gs->(∀b,aF b=0\/(10<=aF b/\aF b<10+3*fs.length)->who' b=aF b/\w'.heap[b]?=w.heap[b]?)->Vo who' base w' d tl fs gs
 |_,_,[],[],_,_=>trivial
 |d,tl,f::fs,g::gs,h,hS=>by
  refine⟨h.1.kept (λb hb=>hS b ?_),Vo.kept h.2 (λb hb=>hS b ?_)⟩
  ·simp only[length_cons];omega
  simp only[length_cons];omega
 |_,_,[],_::_,h,_=>h.elim
 |_,_,_::_,[],h,_=>h.elim
def Vo.len{aF:Nat->Nat}{base:Nat}{w:World}:∀{d:Nat} {tl:Vs} {fs:List Fl.Frame} {gs:List GF},Vo aF base w d tl fs gs->gs.length=fs.length
 |_,_,[],[],_=>rfl
 |d,tl,f::fs,g::gs,h=>by simp[Vo.len h.2]
 |_,_,[],_::_,h=>h.elim
 |_,_,_::_,[],h=>h.elim
structure Jo(w:World)(Lb n:Nat)(t:cY):Prop where
 z:∀j,w.frozen? (O Lb j)=false
 c0:w.cell? (O Lb 0)=some (I n)
 cu:∀i j,i<n->j<n->w.cell? (O Lb (1+6*i+j))=some (.bool (t i j))
 cj:∀i j,i<n->j<n->w.cell? (O Lb (37+6*i+j))=some (I (Fl.join n t i j))
 cl:w.cell? (O Lb 73)=some (I (Fl.gu n t))
def Jo.block(h:Jo w Lb n t)(hb:w'.heap[Lb]?=w.heap[Lb]?):Jo w' Lb n t:=
 have q:∀j,w'.cell? (O Lb j)=w.cell? (O Lb j):=λj=>Qc (a:=(O Lb j)) hb
 ⟨λj=>fQ hb (h.z j),(q _).trans h.c0,λi j hi hj=>(q _).trans (h.cu i j hi hj),λi j hi hj=>(q _).trans (h.cj i j hi hj),(q _).trans h.cl⟩
structure Ya where
 aF:Nat->Nat
 pl:Value
 aB:Value
 cS:Value
 bv:Value
 ov:Value
 gs:List GF
 t:cY
def Xa(Pb lm vm cm:Nat)(aq:Int)(r:Fl.RS)(m:Ya)(j:Nat):Value:=
 if j=0 then ptr Pb else if j=1 then I aq else if j=2 then .bool r.ag else if j=3 then I r.au.length
 else if j=40 then .map (some lm) else if j=41 then .map (some vm) else if j=42 then .map (some cm) else if j=43 then m.ov else if j=44 then I r.am
 else .bool (m.t ((j - 4) / 6) ((j - 4) % 6))
def Ym(l:List Nat):Vs:=l.map λ(x:Nat)=>int .i64 (x:Int)
def zz1(k:Nat):Nat->List Fl.Frame->Prop
 |_,[]=>True
 |t,f::fs=>f.first.length+(if f.cU then 0 else t)<=k/\f.fu.length+(if f.cU then t else 0)<=k/\zz1 k 1 fs
def zz1.mono{k k':Nat}(hk:k<=k'):∀{t t':Nat} {fs:List Fl.Frame},t'<=t->zz1 k t fs->zz1 k' t' fs
 |_,_,[],_,_=>trivial
 |t,t',f::fs,ht,h=>by
  refine⟨?_,?_,zz1.mono hk lE h.2.2⟩
  ·have:=h.1;split at this<;>simp_all<;>omega
  have:=h.2.1;split at this<;>simp_all<;>omega
def zj0(k:Nat)(fs:List Fl.Frame)(n:Nat):Prop:=n+min fs.length 1<=k/\zz1 k 0 fs
def zj0.mono{k k':Nat}{fs:List Fl.Frame}{n:Nat}(h:zj0 k fs n)(hk:k<=k'):zj0 k' fs n:=⟨by have:=h.1;omega,zz1.mono hk lE h.2⟩
structure RsOk(r:Fl.RS):Prop where
 cn:zj0 r.am r.fr r.bK.length
 lv:r.au.length<=6
 ce:r.cells.length<=6
 ch:r.ai.length<=3
 lo:r.ap.length<=4
 st:r.am<=16
 fr:r.fr.length<=3
 cl:r.aW.length=r.cells.length
 hl:r.aV.length=r.ai.length
 cM:r.aE.length=r.aI.length
 below:∀p∈r.aE.zip r.aI,p.1<r.au.length/\p.2<r.au.length
 aB:∀x∈r.aW,x<r.au.length
 cS:∀x∈r.aV,x<r.au.length
 cF:∀f∈r.fr,f.kind=5\/f.kind=6
 head:r.ag=false->r.ap=[]/\r.am=0/\r.bK=[]/\r.fr=[]
 fh:r.ag=true->bp r.au.length r.tab=true
def Vh:List GF->Vs
 |[]=>[]
 |g::gs=>match Vh gs with
  |[]=>[ptr g.sb]
  |v::_=>[v]
structure ztz(base:Nat)(w:World)(r:Fl.RS)(m:Ya):Prop where
 wh:∀b,m.aF b≠5->base<=b/\b<w.heap.size
 oc:w.ownsRow base 3 1 m.aB r.aW.length (Ym r.aW)
 tc:∀b,m.aB.ownBlock=some b->m.aF b=3
 oh:w.ownsRow base 3 1 m.cS r.aV.length (Ym r.aV)
 th:∀b,m.cS.ownBlock=some b->m.aF b=4
 pb:Ys 3 (λb=>m.aF b=0) base w m.bv r.bK (Vh m.gs)
 tb:∀b,m.bv.ownBlock=some b->m.aF b=1
 fa:Vo m.aF base w (3 - r.fr.length) [] r.fr m.gs
 oo:w.ownsRow base 276 1 m.ov r.fr.length ((m.gs.map λg=>ptr g.ob).reverse)
 to:∀b,m.ov.ownBlock=some b->m.aF b=2
 la:r.ag=true->∃Lb,m.pl=ptr Lb/\m.aF Lb=0/\Jo w Lb r.au.length r.tab
structure Zn(lo base R Pb lm vm cm:Nat)(w0 w:World)(r:Fl.RS)(aq:Int)(m:Ya):Prop where
 ok:RsOk r
 bel:Below lo w0 w
 fx:∀b,b<base->b≠R->b≠Pb->b≠lm->b≠vm->b≠cm->w.heap[b]?=w0.heap[b]?
 bB:lo<=R/\lo<=Pb/\lo<=lm/\lo<=vm/\lo<=cm
 bU:R<base/\Pb<base/\lm<base/\vm<base/\cm<base/\base<=w.heap.size
 nd:R≠Pb/\R≠lm/\R≠vm/\R≠cm/\Pb≠lm/\Pb≠vm/\Pb≠cm/\lm≠vm/\lm≠cm/\vm≠cm
 cR:Ze w R 45 (Xa Pb lm vm cm aq r m)
 cP:Ze w Pb 5 (rw_ [m.pl,m.aB,m.cS,I r.ap.length,m.bv])
 nl:Yx w lm r.au
 nv:Yx w vm (r.cells++r.ap)
 nc:Yx w cm r.ai
 tab:∀i j,i<6->j<6->m.t i j=(decide (i<r.au.length) && eL r.aE r.aI i j)
 re:ztz base w r m
def Yy{xs:Vs}(h:w.ownsRow base e k v n xs)(hv:∀b,v.ownBlock=some b->w'.heap[b]?=w.heap[b]?):w'.ownsRow base e k v n xs:=by
 refine⟨h.1,?_⟩;rcases h.2 with⟨rfl,h0⟩|⟨g,cap,cur,rfl,hb,hg,hr⟩
 ·exact .inl ⟨rfl,h0⟩
 exact .inr ⟨g,cap,cur,rfl,hb,by rw[hv g rfl];exact hg,hr⟩
def ztz.kept{base:Nat}{w w':World}{r:Fl.RS}{m:Ya}(h:ztz base w r m)(hz:w.heap.size<=w'.heap.size)(qw:∀b,m.aF b≠5->w'.heap[b]?=w.heap[b]?):ztz base w' r m:=
 {wh:=λb hw=>by have:=h.wh b hw;omega,oc:=Yy h.oc (λb hv=>qw b (by rw[h.tc b hv];decide)),tc:=h.tc,oh:=Yy h.oh (λb hv=>qw b (by rw[h.th b hv];decide)),th:=h.th,pb:=h.pb.kept (λ_ h=>h) (λb hv=>qw b (by rw[hv];decide)) (λb hv=>qw b (by rw[h.tb b hv];decide)),tb:=h.tb,fa:=h.fa.kept (λb hv=>⟨rfl,qw b (by omega)⟩),oo:=Yy h.oo (λb hv=>qw b (by rw[h.to b hv];decide)),to:=h.to,la:=λhg=>by obtain⟨Lb,l1,l2,l3⟩:=h.la hg;exact⟨Lb,l1,l2,l3.block (qw Lb (by rw[l2];decide))⟩}
section
variable{lo R lm vm cm:Nat}{w0:World}{r:Fl.RS}{aq:Int}{m:Ya}
def Zn.below(h:Zn lo base R Pb lm vm cm w0 w r aq m)(hb:D w w'):Zn lo base R Pb lm vm cm w0 w' r aq m:=by
 obtain⟨b1,b2,b3,b4,b5,b6⟩:=h.bU;have hz:=hb.size;have q:∀b,b<w.heap.size->w'.heap[b]?=w.heap[b]?:=λb a0=>hb.block b a0;exact{ok:=h.ok,bel:=h.bel.trans (hb.mono (by have:=h.bB;omega)),fx:=λb f1 f2 f3 f4 f5 f6=>(q b (by omega)).trans (h.fx b f1 f2 f3 f4 f5 f6),bB:=h.bB,bU:=⟨b1,b2,b3,b4,b5,by omega⟩,nd:=h.nd,cR:=h.cR.block (q _ (by omega)),cP:=h.cP.block (q _ (by omega)),nl:=h.nl.block (q _ (by omega)),nv:=h.nv.block (q _ (by omega)),nc:=h.nc.block (q _ (by omega)),tab:=h.tab,re:=h.re.kept hz (λb hw=>q b (h.re.wh b hw).2)}
def Zn.drew(h:Zn lo base R Pb lm vm cm w0 w r aq m):Zn lo base R Pb lm vm cm w0 w.drew r aq m:=h.below dA
end
end
namespace Fl
def nd(x:List ar)(k:Int):ar:=nth x k.toNat
def cC(k:Int):Nat:=if k<=2 then 0 else if k<=6 then 1 else 2
def vars(p:aY)(ls:Is):Is:=p.cells.map (λ(x:Nat)=>(x:Int))++ls
def aO(p:aY)(a b:Int):Bool:=p.leq a.toNat b.toNat
def eu(p:aY)(x:List ar)(n:ar)(lv:Is):Bool:=
 decide (n.a<lv.length) && (decide (cC (nd x n.b).kind=0) && (aO p (nd x n.b).ak (lv.getD n.a.toNat 0) && aO p n.ak (lv.getD n.a.toNat 0)))
def dw(p:aY)(x:List ar)(n:ar)(w:Int):Bool:=
 decide (cC (nd x n.a).kind=0) && (decide (cC (nd x w).kind=2) && (aO p (nd x n.a).ak (nd x w).ak && aO p n.ak (nd x w).ak))
def bP(p:aY)(ls:Is)(x:List ar)(n:ar):Bool:=
 if n.kind=0 then true
 else if n.kind=1 then decide (n.a<(vars p ls).length) && aO p ((vars p ls).getD n.a.toNat 0) n.ak
 else if n.kind=2 then decide (n.a<5) && (decide (cC (nd x n.b).kind=0) && (decide (cC (nd x n.c).kind=0) && (aO p (nd x n.b).ak n.ak && aO p (nd x n.c).ak n.ak)))
 else if n.kind=3 then eu p x n (vars p ls)
 else if n.kind=4 then eu p x n (p.ai.map λ(y:Nat)=>(y:Int))
 else if n.kind=5 then dw p x n n.b && dw p x n n.c
 else if n.kind=6 then dw p x n n.b
 else n.ae.all λk=>decide (cC (nd x k).kind=1) && aO p n.ak (nd x k).ak
def follows(p:aY)(ls:Is)(x:List ar)(n:ar):Bool:=decide (n.ak<p.n) && bP p ls x n
def cN(x:List ar)(k:Int)(a:dK):Bool:=decide ((nd x k).kind=if a.var then 1 else 0) && decide ((nd x k).a=a.v)
def bM(x:List ar)(k:Int)(e:dZ):Bool:=
 if e.op<0 then cN x k e.a else decide ((nd x k).kind=2) && (decide ((nd x k).a=e.op) && (cN x (nd x k).b e.a && cN x (nd x k).c e.b))
def fU(Wx:Int->List aa->Bool)(x:List ar)(k:Int)(s:aa):Bool:=
  decide ((nd x k).kind=s.kind) &&
  (if s.kind=5 then bM x (nd x k).a s.e && (Wx (nd x k).b s.aZ && Wx (nd x k).c s.aU)
   else if s.kind=6 then bM x (nd x k).a s.e && Wx (nd x k).b s.aZ
   else decide ((nd x k).a=s.x) && bM x (nd x k).b s.e)
def de:Nat->List ar->Int->List aa->Bool
 |0,x,k,l=>decide ((nd x k).kind=7) && (decide ((nd x k).ae=[]) && decide (l=[]))
 |d+1,x,k,l=>decide ((nd x k).kind=7) && (decide ((nd x k).ae.length=l.length) && (range l.length).all λi=>fU (de d x) x ((nd x k).ae.getD i 0) (l.getD i noS))
def check(p:aY)(ls:Is)(x:List ar):Nat×Int:=
 if ls.length≠p.ap\/(ls.any λv=>decide ((p.n:Int)<=v))=true then(10,-1)
 else match (range x.length).find? (λk=> !follows p ls x (nth x k)) with
  |some k=>(9,(k:Int))
  |none=>if de 4 x ((x.length:Int) - 1) p.aZ then(0,-1) else(10,-1)
end Fl
namespace Fl
def jn(p:aY)(a b:Int):Int:=join p.n p.leq a.toNat b.toNat
def aE(p:aY):Int:=(gu p.n p.leq:Int)
def bQ(p:aY)(vs:Is)(a:dK):Int:=if a.var then vs.getD a.v 0 else aE p
def aA(p:aY)(vs:Is)(e:dZ):Int:=if e.op<0 then bQ p vs e.a else jn p (bQ p vs e.a) (bQ p vs e.b)
def cX(Wx:List aa->Int->List (aa×Int))(p:aY)(vs:Is)(u:Int)(s:aa):List (aa×Int):=
 if s.kind=3\/s.kind=4 then [(s,jn p u (aA p vs s.e))]
 else if s.kind=5\/s.kind=6 then Wx s.aZ (jn p u (aA p vs s.e))++Wx s.aU (jn p u (aA p vs s.e)) else []
def bO(p:aY)(vs:Is):Nat->List aa->Int->List (aa×Int)
 |0,_,_=>[]
 |d+1,l,u=>l.flatMap (cX (bO p vs d) p vs u)
def ef(p:aY)(vs:Is)(m:aa×Int):Bool:=aO p m.2 ((if m.1.kind=4 then p.ai.map (λ(x:Nat)=>(x:Int)) else vs).getD m.1.x 0)
def dm(p:aY)(s:aa):Bool:=decide (s.kind=3) && decide (p.cells.length<=s.x)
def jT(p:aY)(vs:Is):Option (Is):=
 match (bO p vs 4 p.aZ (aE p)).find? (λm=>dm p m.1 && !ef p vs m) with
 |some m=>some (vs.set m.1.x (jn p (vs.getD m.1.x 0) m.2))
 |none=>none
def raise(p:aY):Nat->Is->Is
 |0,vs=>vs
 |f+1,vs=>match jT p vs with
  |some vs'=>raise p f vs'
  |none=>vs
def eX(p:aY)(vs:Is):Nat:=
 match (bO p vs 4 p.aZ (aE p)).find? (λm=> !ef p vs m) with
 |some m=>m.1.aq
 |none=>0
def ep(ws:List ar)(n:ar):Int×List ar:=
 match (range ws.length).find? (λi=>bS (nth ws i) n) with
 |some i=>((i:Int),ws)
 |none=>((ws.length:Int),ws++[n])
def dW(p:aY)(vs:Is)(ws:List ar)(a:dK):Int×List ar:=
 ep ws ⟨if a.var then 1 else 0,bQ p vs a,a.v,0,0,[]⟩
def fe(p:aY)(vs:Is)(ws:List ar)(e:dZ):Int×List ar:=
 if e.op<0 then dW p vs ws e.a
 else ep (dW p vs (dW p vs ws e.a).2 e.b).2 ⟨2,aA p vs e,e.op,(dW p vs ws e.a).1,(dW p vs (dW p vs ws e.a).2 e.b).1,[]⟩
def gg(Wx:List ar->List aa->Int->Int×List ar)(p:aY)(vs:Is)(u:Int)(ws:List ar)(s:aa):Int×List ar:=
 let v:=fe p vs ws s.e
 let l:=jn p u (aA p vs s.e)
 if s.kind=5 then ep (Wx (Wx v.2 s.aZ l).2 s.aU l).2 ⟨5,u,v.1,(Wx v.2 s.aZ l).1,(Wx (Wx v.2 s.aZ l).2 s.aU l).1,[]⟩
 else if s.kind=6 then ep (Wx v.2 s.aZ l).2 ⟨6,u,v.1,(Wx v.2 s.aZ l).1,0,[]⟩
 else ep v.2 ⟨s.kind,u,s.x,v.1,0,[]⟩
def dS(W:List ar->aa->Int×List ar):List ar->List aa->Is×List ar
 |ws,[]=>([],ws)
 |ws,s::l=>((W ws s).1::(dS W (W ws s).2 l).1,(dS W (W ws s).2 l).2)
def bL(p:aY)(vs:Is):Nat->List ar->List aa->Int->Int×List ar
 |0,ws,_,u=>ep ws ⟨7,u,0,0,0,[]⟩
 |d+1,ws,l,u=>ep (dS (gg (bL p vs d) p vs u) ws l).2 ⟨7,u,0,0,0,(dS (gg (bL p vs d) p vs u) ws l).1⟩
def start(p:aY):Is:=vars p (replicate p.ap (aE p))
def bJ(p:aY):Is:=raise p 25 (start p)
def eM(p:aY):Nat×Is×List ar:=
 if 0<eX p (bJ p) then(eX p (bJ p),[],[])
 else(0,(bJ p).drop p.cells.length,(bL p (bJ p) 4 [] p.aZ (aE p)).2)
end Fl
section
open Go.RowKit
section
end
namespace Fl
structure aY.Lv(p:aY):Prop where
 n6:p.n<=6
 fh:kD p.n p.leq
 ce:∀y∈p.cells,y<p.n
 ch:∀y∈p.ai,y<p.n
def bC(p:aY)(vs:Is):Prop:=vs.length=p.cells.length+p.ap/\∀i,i<vs.length->0<=vs.getD i 0/\vs.getD i 0<p.n
def aY.Lv.aE{p:aY}(h:p.Lv):0<=aE p/\aE p<p.n:=by
 have:=(iy h.fh).1;unfold Fl.aE;omega
def aY.Lv.join{p:aY}(h:p.Lv){a b:Nat}(ha:a<p.n)(hb:b<p.n):∃k,k<p.n/\Fl.join p.n p.leq a b=(k:Int):=by
 obtain⟨k,h1,h2,_⟩:=h.fh.jK a b ha hb;exact⟨k,h1,h2⟩
def aY.Lv.jn{p:aY}(h:p.Lv){a b:Int}(ha:0<=a/\a<p.n)(hb:0<=b/\b<p.n):0<=Fl.jn p a b/\Fl.jn p a b<p.n:=by
 obtain⟨k,h1,h2⟩:=h.join (a:=a.toNat) (b:=b.toNat) (by omega) (by omega);unfold Fl.jn;rw[h2];omega
end Fl
structure LvIn(w:World)(Pb Lb:Nat)(p:Fl.aY):Prop where
 hz:Pb<w.heap.size/\Lb<w.heap.size
 p0:w.cell? (O Pb 0)=some (F Lb)
 la:Jo w Lb p.n p.leq
 lv:p.Lv
def LvIn.below{p:Fl.aY}(h:LvIn w Pb Lb p)(hb:D w w'):LvIn w' Pb Lb p:=
 ⟨⟨Qj h.hz.1 hb.size,Qj h.hz.2 hb.size⟩,cT hb h.hz.1 h.p0,h.la.block (hb.block _ h.hz.2),h.lv⟩
def zsy(vs:Is)(a:Fl.dK):Prop:=a.var=true->a.v<vs.length
def VarsIn(vs:Is)(e:Fl.dZ):Prop:=zsy vs e.a/\(0<=e.op->zsy vs e.b)
def zp7{e:Fl.dZ}(h:Fl.cg vs.length e):VarsIn vs e:=by
 obtain⟨-,-,h1,h2⟩:=h;unfold Fl.eJ at h1 h2;exact⟨λhv=>by rwa [G hv]at h1,λ_ hv=>by rwa [G hv]at h2⟩
def zmx(h:Zw B w v l)(hi:i<l.length):∃b off cap,v=Sq b off l.length cap/\l.length<=cap/\l.length<=maxLen/\b<B/\w.cell? (O b (off+i))=some (I (l.getD i 0)):=by
 obtain⟨ao,cap,rfl,h1,h2,h3⟩:=h;obtain⟨b,off,rfl,hb,hc⟩:=h3 (by intro e;rw[e]at hi;cases hi);exact⟨b,off,cap,rfl,h1,h2,hb,hc i hi⟩
section
variable{p:Fl.aY}
def zmw(h:p.Lv)(hv:∀i,i<vs.length->0<=vs.getD i 0/\vs.getD i 0<p.n){a:Fl.dK}(ho:zsy vs a):∃k:Nat,k<p.n/\Fl.bQ p vs a=(k:Int):=by
 unfold Fl.bQ
 cases hb:a.var
 ·exact⟨(Fl.aE p).toNat,by have:=h.aE;omega,by have:=h.aE;simp;omega⟩
 have:=hv a.v (ho hb);exact⟨(vs.getD a.v 0).toNat,by omega,by simp only[if_true];omega⟩
end
def Zf{id:Nat}{l:List Oper}(Wq:List (Nat×Nat))(hm:P.follows .mixedOrders=true)(hB:lexB .any l.toArray=true)(hg:(Wq.all λg=>((l.toArray[g.1]?).bind λx=>x.dst)==some g.2)=true)
  (h:∀ops:Array Oper,(∀g∈Wq,((ops[g.1]?).bind λx=>x.dst)=some g.2)->wpStill P ops w.drew (λa'=>Q .normal a' w.drew) l a):(Code.region id l.toArray true).wp P Q a w:=
 wp_region_still_lit hm hB (h _ λg hgm=>by have:=all_eq_true.1 hg g hgm;simpa using this)
def yd8{a:World}(h:Below B a w)(n:Nat):Below B a (w.drewN n):=h.trans ⟨rfl,rfl,rfl,lE,λ_ _=>rfl⟩
def At(W:World):List (Addr×Value)->Prop
 |[]=>True
 |q::l=>(q.1.block<W.heap.size/\W.cell? q.1=some q.2)/\At W l
def At.below{W W':World}(hb:D W W'):∀{l:List (Addr×Value)},At W l->At W' l
 |[],_=>trivial
 |_::_,⟨⟨h1,h2⟩,h3⟩=>⟨⟨Qj h1 hb.size,(hb.cell h1).trans h2⟩,At.below hb h3⟩
def At.node{W:World}{l:List (Addr×Value)}(h:At W l)(k lv a b c:Int)(v:Value)(T:TypeId)(N:Nat)(hN:W.heap.size=N):At (W.alloc (.cells #[I k,I lv,I a,I b,I c,v] T)) (((O N 0),I k)::((O N 1),I lv)::((O N 2),I a)::((O N 3),I b)::((O N 4),I c)::((O N 5),v)::l):=by
 subst hN;exact⟨⟨by simp,by simp⟩,⟨by simp,by simp⟩,⟨by simp,by simp⟩,⟨by simp,by simp⟩,⟨by simp,by simp⟩,⟨by simp,by simp⟩,h.below (bA)⟩
end
namespace Fl
def ki(l:L)(h:(bm l 9).2=true):(bm l 9).1<=999999999:=by
 unfold bm at h⊢
 split at h
 ·rename_i hd
  rw[G hd];simp only[eO,Qk,Qn]at h;have hl:=h.2.1;show val (l.take 9)<=999999999;rw[take_of_length_le hl,kJ];have h1:=gM l 0 hd;have h2:10 ^ l.length<=10 ^ 9:=Nat.pow_le_pow_right (by decide) hl;omega
 cases h
def RS.nv(r:RS):Nat:=r.cells.length+r.ap.length
def RS.iK(r:RS)(s:L){a:dK}(h:r.atom s=some a):eJ r.nv a:=by
 unfold RS.atom at h;have hc:=aQ r.cells s;have hl:=aQ r.ap s;unfold eJ RS.nv
 split at h
 ·rename_i hn
  simp only[Ql]at h;subst h;simp only[Bool.false_eq_true,if_false];exact ki s hn
 split at h
 ·simp only[Ql]at h;subst h
  simp only[if_true];omega
 split at h
 ·simp only[Ql]at h;subst h
  simp only[if_true];omega
 cases h
def RS.js(r:RS)(ws:List L){e:dZ}(h:r.value ws=some e):cg r.nv e:=by
 match ws,h with
 |[a],h=>
  simp only[RS.value,Option.map_eq_some_iff]at h;obtain⟨x,hx,rfl⟩:=h;exact⟨(show (-1:Int)<= -1 by decide),(show (-1:Int)<=4 by decide),r.iK a hx,by unfold eJ ju;simp⟩
 |[a,o,b],h=>
  simp only[RS.value,Option.bind_eq_some_iff,Option.map_eq_some_iff]at h;obtain⟨x,hx,y,hy,rfl⟩:=h;have ho:=aQ cW o;have hs:cW.length=5:=rfl;exact⟨by simp only;omega,by simp only;omega,r.iK a hx,r.iK b hy⟩
structure jS(nv nc d:Nat)(f:Frame):Prop where
 kd:f.kind=5\/(f.kind=6/\f.cU=false)
 no:f.cU=false->f.fu=[]
 ex:cg nv f.e
 fi:aM nv nc d f.first
 el:aM nv nc d f.fu
def jS.mono{nv nv' nc d:Nat}(h:nv<=nv'){f:Frame}(hf:jS nv nc d f):jS nv' nc d f:=⟨hf.kd,hf.no,hf.ex.mono h,hf.fi.mono h,hf.el.mono h⟩
def iu(nv nc:Nat):Nat->List Frame->Prop
 |_,[]=>True
 |d,f::fs=>jS nv nc (d+1) f/\iu nv nc (d+1) fs
def iu.mono{nv nv' nc:Nat}(h:nv<=nv'):∀{d:Nat} {fs:List Frame},iu nv nc d fs->iu nv' nc d fs
 |_,[],_=>trivial
 |_,_::_,hf=>⟨hf.1.mono h,iu.mono h hf.2⟩
def aM.snoc{nv nc:Nat}{l:List aa}{s:aa}(h:aM nv nc (d+1) l)(hs:eh nv nc s/\cg nv s.e/\aM nv nc d s.aZ/\aM nv nc d s.aU):aM nv nc (d+1) (l++[s]):=λx hx=>by
 rcases mem_append.1 hx with h1|h1
 ·exact h x h1
 simp only[mem_singleton]at h1;subst h1;exact hs
def aM.nil(nv nc d:Nat):aM nv nc d []:=by
 cases d with
 |zero=>rfl
 |succ d=>exact λs hs=>(by cases hs)
def jS.snoc{nv nc d:Nat}{f:Frame}{s:aa}(h:jS nv nc (d+1) f)(hs:eh nv nc s/\cg nv s.e/\aM nv nc d s.aZ/\aM nv nc d s.aU):jS nv nc (d+1) (if f.cU then{f with fu:=f.fu++[s]} else{f with first:=f.first++[s]}):=by
 cases hd:f.cU with
 |true=>
  simp only[if_true];refine⟨?_,λq=>(by cases q),h.ex,h.fi,h.el.snoc hs⟩;rcases h.kd with h5|⟨_,h6⟩
  ·exact .inl h5
  rw[hd]at h6;cases h6
 |false=>
  simp only[Bool.false_eq_true,if_false];refine⟨?_,λ_=>h.no hd,h.ex,h.fi.snoc hs,h.el⟩;rcases h.kd with h5|⟨h6,_⟩
  ·exact .inl h5
  exact .inr ⟨h6,rfl⟩
structure RS.eV(r:RS):Prop where
 ce:r.cells.length<=6
 ch:r.ai.length<=3
 lo:r.ap.length<=4
 cl:r.aW.length=r.cells.length
 hl:r.aV.length=r.ai.length
 fr:r.fr.length<=3
 head:r.ag=false->r.ap=[]/\r.bK=[]/\r.fr=[]
 bK:aM r.nv r.ai.length 4 r.bK
 nt:iu r.nv r.ai.length (3 - r.fr.length) r.fr
def kA:RS.zero.eV:=⟨by decide,by decide,by decide,rfl,rfl,by decide,λ_=>⟨rfl,rfl,rfl⟩,aM.nil _ _ _,trivial⟩
def RS.eV.it{r r':RS}(h:r.eV)(hb:r.ag=false)(e1:r'.bK=r.bK)(e2:r'.fr=r.fr)(e3:r'.ap=r.ap)(ce:r'.cells.length<=6)(ch:r'.ai.length<=3)(cl:r'.aW.length=r'.cells.length)(hl:r'.aV.length=r'.ai.length):r'.eV:=by
 obtain⟨h1,h2,h3⟩:=h.head hb;refine⟨ce,ch,by rw[e3];exact h.lo,cl,hl,by rw[e2];exact h.fr,λ_=>⟨by rw[e3];exact h1,by rw[e1];exact h2,by rw[e2];exact h3⟩,?_,?_⟩
 ·rw[e1,h2];exact aM.nil _ _ _
 rw[e2,h3];trivial
def RS.eV.mu{r:RS}(h:r.eV)(hb:r.ag=false)(w:List L)(h0:(r.head w).1=0):(r.head w).2.eV:=by
 match w,h0 with
 |[],h0=>cases h0
 |[k],h0=>
  simp only[RS.head]at h0⊢
  split at h0
  ·rename_i hl;rw[G hl];exact h.it hb rfl rfl rfl h.ce h.ch h.cl h.hl
  cases h0
 |[k,n],h0=>
  simp only[RS.head]at h0⊢
  split at h0
  ·cases h0
  rename_i h1;rw[U h1]
  split at h0
  ·cases h0
  rename_i h2;rw[U h2];exact h.it hb rfl rfl rfl h.ce h.ch h.cl h.hl
 |[k,n,l],h0=>
  simp only[RS.head]at h0⊢
  split at h0
  ·rename_i hk;rw[G hk]
   split at h0
   ·cases h0
   rename_i h1;rw[U h1];exact h.it hb rfl rfl rfl h.ce h.ch h.cl h.hl
  rename_i hk;rw[U hk]
  split at h0
  ·cases h0
  rename_i h1;rw[U h1]
  split at h0
  ·rename_i hc;rw[G hc]
   split at h0
   ·cases h0
   rename_i h6;rw[U h6];exact h.it hb rfl rfl rfl (by have:=h.ce;simp;omega) h.ch (by have:=h.cl;simp;omega) h.hl
  rename_i hc;rw[U hc]
  split at h0
  ·cases h0
  rename_i h3;rw[U h3];exact h.it hb rfl rfl rfl h.ce (by have:=h.ch;simp;omega) h.cl (by have:=h.hl;simp;omega)
 |_::_::_::_::_,h0=>cases h0
def RS.eV.put{r:RS}(h:r.eV)(hb:r.ag=true){s:aa}(hk:eh r.nv r.ai.length s)(he:cg r.nv s.e)(h1:s.aZ=[])(h2:s.aU=[]):(r.put s).eV:=by
 unfold RS.put;have hs:∀d,eh r.nv r.ai.length s/\cg r.nv s.e/\aM r.nv r.ai.length d s.aZ/\aM r.nv r.ai.length d s.aU:=λd=>⟨hk,he,by rw[h1];exact aM.nil _ _ _,by rw[h2];exact aM.nil _ _ _⟩
 cases hf:r.fr with
 |nil=>exact⟨h.ce,h.ch,h.lo,h.cl,h.hl,Nat.zero_le _,λhh=>(by have:=hh;rw[hb]at this;cases this),h.bK.snoc (hs 3),trivial⟩
 |cons f fs=>
  have hh:=h.nt;rw[hf]at hh;have hl:=h.fr;rw[hf]at hl;exact⟨h.ce,h.ch,h.lo,h.cl,h.hl,hl,λhh=>(by have:=hh;rw[hb]at this;cases this),h.bK,hh.1.snoc (hs _),hh.2⟩
def RS.eV.local{r:RS}(h:r.eV)(hb:r.ag=true)(n:L)(hl:r.ap.length<4):({r with ap:=r.ap++[n]}:RS).eV:=by
 have e:r.nv<=({r with ap:=r.ap++[n]}:RS).nv:=by simp[RS.nv]
 exact⟨h.ce,h.ch,by simp;omega,h.cl,h.hl,h.fr,λhh=>(by have:=hh;rw[hb]at this;cases this),h.bK.mono e,h.nt.mono e⟩
def RS.eV.mr{r:RS}(h:r.eV)(hb:r.ag=true)(at_:Nat)(w:List L)(h0:(r.bh at_ w).1=0):(r.bh at_ w).2.eV/\(r.bh at_ w).2.ag=true:=by
 have hn:∀x:RS,x.ag=true->∀P:Prop,x.ag=false->P:=λx h1 P h2=>by rw[h1]at h2;cases h2
 match w,h0 with
 |[],h0=>cases h0
 |[k],h0=>
  simp only[RS.bh]at h0⊢
  cases hf:r.fr with
  |nil=>rw[hf]at h0;cases h0
  |cons f fs=>
   rw[hf]at h0;simp only at h0⊢;have hh:=h.nt;rw[hf]at hh;have hl:=h.fr;rw[hf]at hl
   split at h0
   ·rename_i hk;rw[G hk]
    split at h0
    ·rename_i hq;rw[G hq]
     unfold RS.bF;rw[hf];refine⟨⟨h.ce,h.ch,h.lo,h.cl,h.hl,hl,hn _ hb _,h.bK,?_⟩,hb⟩;exact⟨⟨.inl hq.1,λq=>(by cases q),hh.1.ex,hh.1.fi,hh.1.el⟩,hh.2⟩
    cases h0
   rename_i hk;rw[U hk];unfold RS.bG;rw[hf]
   have a0:∀d,aM r.nv r.ai.length d f.first->aM r.nv r.ai.length d f.fu->eh r.nv r.ai.length f.done/\cg r.nv f.done.e/\aM r.nv r.ai.length d f.done.aZ/\aM r.nv r.ai.length d f.done.aU:=λd h1 h2=>by
    refine⟨?_,hh.1.ex,h1,h2⟩;rcases hh.1.kd with h5|⟨h6,h7⟩
    ·exact .inr (.inr (.inl h5))
    exact .inr (.inr (.inr ⟨h6,hh.1.no h7⟩))
   cases fs with
   |nil=>
    exact⟨⟨h.ce,h.ch,h.lo,h.cl,h.hl,by simp,hn _ hb _,h.bK.snoc (a0 3 hh.1.fi hh.1.el),trivial⟩,hb⟩
   |cons g gs=>
    simp only[length_cons]at hl hh;have e1:3 - (gs.length+1+1)+1=3 - (gs.length+1):=(by omega);have hg:=hh.2.1;have hd:=a0 _ hh.1.fi hh.1.el;refine⟨⟨h.ce,h.ch,h.lo,h.cl,h.hl,by simp;omega,hn _ hb _,h.bK,?_⟩,hb⟩;simp only[length_cons];rw[<-e1];exact⟨hg.snoc hd,hh.2.2⟩
 |[k,a],h0=>
  simp only[RS.bh]at h0⊢
  cases hv:r.value [a] with
  |none=>rw[hv]at h0;cases h0
  |some e=>
   rw[hv]at h0;simp only at h0⊢
   split at h0
   ·cases h0
   rename_i hq;rw[U hq];have e1:3 - (r.fr.length+1)+1=3 - r.fr.length:=(by omega);refine⟨⟨h.ce,h.ch,h.lo,h.cl,h.hl,by simp[RS.opens];omega,hn _ hb _,h.bK,?_⟩,hb⟩;simp only[RS.opens,length_cons];refine⟨⟨?_,λ_=>rfl,r.js _ hv,aM.nil _ _ _,aM.nil _ _ _⟩,by rw[e1];exact h.nt⟩;show (if(k==ig)=true then 5 else 6)=5\/((if(k==ig)=true then 5 else 6)=6/\false=false)
   cases (k==ig)<;>simp
 |k::n::v1::v,h0=>
  simp only[RS.bh]at h0⊢
  cases hv:r.value (v1::v) with
  |none=>rw[hv]at h0;cases h0
  |some e=>
   rw[hv]at h0;simp only at h0⊢;have he:=r.js _ hv
   have b0:∀(x:RS) (s:aa),x.ag=true->(x.put s).ag=true:=λx s hx=>by unfold RS.put;split<;>exact hx
   split at h0
   ·rename_i hk;rw[G hk]
    split at h0
    ·cases h0
    rename_i hp;rw[U hp]
    split at h0
    ·cases h0
    rename_i h6;rw[U h6];have hc:=aQ r.ai n;exact⟨h.put hb (.inr (.inl ⟨rfl,by simp only;omega⟩)) he rfl rfl,b0 _ _ hb⟩
   rename_i hk;rw[U hk]
   split at h0
   ·cases h0
   rename_i hp;rw[U hp]
   cases ht:r.bu n with
   |none=>rw[ht]at h0;cases h0
   |some p=>
    obtain⟨x,r'⟩:=p;rw[ht]at h0;simp only at h0⊢
    split at h0
    ·cases h0
    rename_i h6;rw[U h6];have hc:=aQ r.cells n;have c0:=aQ r.ap n;unfold RS.bu at ht
    split at ht
    ·simp only[Ql,Prod.mk.injEq]at ht
     obtain⟨rfl,rfl⟩:=ht;exact⟨h.put hb (.inl ⟨rfl,by simp only[RS.nv];omega⟩) he rfl rfl,b0 _ _ hb⟩
    split at ht
    ·simp only[Ql,Prod.mk.injEq]at ht
     obtain⟨rfl,rfl⟩:=ht;exact⟨h.put hb (.inl ⟨rfl,by simp only[RS.nv];omega⟩) he rfl rfl,b0 _ _ hb⟩
    split at ht
    ·cases ht
    rename_i h4;simp only[Ql,Prod.mk.injEq]at ht;obtain⟨rfl,rfl⟩:=ht;have hF:=h.local hb n (by have:=h.lo;omega);exact⟨hF.put hb (.inl ⟨rfl,by simp[RS.nv]⟩) (he.mono (by simp[RS.nv])) rfl rfl,b0 _ _ hb⟩
def RS.eV.lx{r:RS}(h:r.eV)(w:List L)(at_:Nat)(h0:(r.row w at_).1=0):(r.row w at_).2.eV:=by
 unfold RS.row at h0⊢
 split at h0
 ·cases h0
 rename_i h1;rw[U h1]
 split at h0
 ·rename_i h2;rw[G h2]
  refine h.mu ?_ w h0;rw[h2]at h1
  cases hb:r.ag with
  |false=>rfl
  |true=>exact absurd hb.symm h1
 rename_i h2;rw[U h2];refine(h.mr ?_ at_ w h0).1
 cases hb:r.ag with
 |true=>rfl
 |false=>exact absurd ((by simpa using h2:cH (w.getD 0 [])=false).trans hb.symm) h1
def iJ:∀(ls:List L) (r:RS) (i:Nat),r.eV->(rows r i ls).1=0->(rows r i ls).2.2.eV/\(rows r i ls).2.2.ag=true/\(rows r i ls).2.2.fr=[]/\(rows r i ls).2.1=0
 |[],r,i,h,h0=>by cases h0
 |[l],r,i,h,h0=>by
  rw[rows]at h0⊢
  split at h0
  ·rename_i h1;rw[G h1]
   split at h0
   ·rename_i h2;rw[G h2];exact⟨h,h2.1,h2.2,rfl⟩
   cases h0
  cases h0
 |l::m::ls,r,i,h,h0=>by
  rw[rows]at h0⊢
  split at h0
  ·cases h0
  rename_i h1;rw[U h1]
  split at h0
  ·rename_i h2;exact absurd h0 h2
  rename_i h2;rw[U h2];exact iJ (m::ls) _ (i+1) (h.lx _ _ (by simpa using h2)) h0
structure aY.Ok(p:aY):Prop where
 ce:p.cells.length<=6
 ch:p.ai.length<=3
 lo:p.ap<=4
 aZ:aM (p.cells.length+p.ap) p.ai.length 4 p.aZ
def fT(s:L)(h0:(ab s).1=0):(ab s).2.2.Ok/\(ab s).2.1=0/\s.length<=1200:=by
 unfold ab at h0⊢
 by_cases hs:1200<s.length
 ·rw[G hs]at h0;cases h0
 rw[U hs]at h0⊢;obtain⟨h1,h2,h3,h4⟩:=iJ _ RS.zero 0 kA h0;refine⟨⟨?_,?_,h1.lo,?_⟩,h4,by omega⟩
 ·show (rows RS.zero 0 (aK 10 s)).2.2.aW.length<=6;rw[h1.cl];exact h1.ce
 ·show (rows RS.zero 0 (aK 10 s)).2.2.aV.length<=3;rw[h1.hl];exact h1.ch
 have:=h1.bK;unfold RS.nv at this;show aM ((rows RS.zero 0 (aK 10 s)).2.2.aW.length+_) ((rows RS.zero 0 (aK 10 s)).2.2.aV.length) 4 _;rw[h1.cl,h1.hl];exact this
end Fl
open Go.RowKit
structure FnIn(w:World)(Fb Pb Lb:Nat)(aB cS bv vv:Value)(S:Nat->Prop)(p:Fl.aY)(vs:Is):Prop where
 hF:Fb<w.heap.size
 c0:w.cell? (O Fb 0)=some (F Pb)
 c1:w.cell? (O Fb 1)=some vv
 lv:LvIn w Pb Lb p
 p1:w.cell? (O Pb 1)=some aB
 p2:w.cell? (O Pb 2)=some cS
 p4:w.cell? (O Pb 4)=some bv
 ce:∃ao cap,aB=A ao p.cells.length cap
 ch:Zw w.heap.size w cS (p.ai.map λ(y:Nat)=>(y:Int))
 vi:Zw w.heap.size w vv vs
 bo:Yz 4 S w bv p.aZ
 hS:∀b,S b->b<w.heap.size
 ok:Fl.bC p vs
 pk:p.Ok
def FnIn.below{w w':World}{Fb Pb Lb:Nat}{aB cS bv vv:Value}{S:Nat->Prop}{p:Fl.aY}{vs:Is}(h:FnIn w Fb Pb Lb aB cS bv vv S p vs)(hb:D w w'):FnIn w' Fb Pb Lb aB cS bv vv S p vs where
 hF:=Qj h.hF hb.size
 c0:=cT hb h.hF h.c0
 c1:=cT hb h.hF h.c1
 lv:=h.lv.below hb
 p1:=cT hb h.lv.hz.1 h.p1
 p2:=cT hb h.lv.hz.1 h.p2
 p4:=cT hb h.lv.hz.1 h.p4
 ce:=h.ce
 ch:=(h.ch.below hb).mono hb.size
 vi:=(h.vi.below hb).mono hb.size
 bo:=Yz.kept (λ_ h=>h) (λb hs=>hb.block b (h.hS b hs)) _ _ _ h.bo
 hS:=λb hs=>Qj (h.hS b hs) hb.size
 ok:=h.ok
 pk:=h.pk
def zf2(S:Nat->Prop)(w:World)(v:Value)(s:Fl.aa):Prop:=
 ∃sb,v=F sb/\S sb/\w.cell? (O sb 0)=some (I s.kind)/\w.cell? (O sb 1)=some (I s.aq)/\w.cell? (O sb 2)=some (I s.x)
def zf2.kept{s:Fl.aa}(h:zf2 S w v s)(hS:∀b,S b->S' b)(hw:∀b,S b->w'.heap[b]?=w.heap[b]?):zf2 S' w' v s:=by
 obtain⟨sb,e,h1,h2,h3,h4⟩:=h;have q:∀j,w'.cell? (O sb j)=w.cell? (O sb j):=λj=>Qc (a:=(O sb j)) (hw sb h1);exact⟨sb,e,hS _ h1,(q 0).trans h2,(q 1).trans h3,(q 2).trans h4⟩
def yd9{p:Fl.aY}(h:p.Lv)(hi:i<p.ai.length):∃k:Nat,k<p.n/\(p.ai.map λ(y:Nat)=>(y:Int)).getD i 0=(k:Int):=
 ⟨p.ai[i],h.ch _ (getElem_mem hi),by rw[Qa,getElem?_map,Qb hi];rfl⟩
section
variable{Fb:Nat}{aB cS bv:Value}{p:Fl.aY}
def PlOk(p:Fl.aY)(vs:Is)(s:Fl.aa):Prop:=(s.kind=3/\s.x<vs.length)\/(s.kind=4/\s.x<p.ai.length)
end
end Go.Proofs.YtgmbnnpnefniiaaGreatDoor
