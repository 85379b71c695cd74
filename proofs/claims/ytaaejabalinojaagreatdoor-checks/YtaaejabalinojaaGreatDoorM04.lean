import Derived.Test.YtaaejabalinojaaGreatDoorM03
import Derived.Deep.QuietTactic
import Derived.Deep.WholeRow
import Derived.StillTailTactics
import Derived.Deep.RegionWith
import Derived.BigQuiet
import Derived.Maps.OwnSet
import Derived.ChangeMaps5
set_option linter.all false
set_option maxRecDepth 100000
set_option maxHeartbeats 40000000
namespace Go.Proofs.YtaaejabalinojaaGreatDoor
open Go.RowKit Go.Proofs.Tryz
def zj5{w w':World}{lv:Value}{xs:List Int}{row:Option Nat}(h:Zv w.heap.size w lv xs)(c0:xs≠[]->lv.ownBlock≠row)(hg:w.grownBy w' row):Zv w'.heap.size w' lv xs:=by
 obtain⟨ao,cap,rfl,hc,hl,hx⟩:=h;refine⟨ao,cap,rfl,hc,hl,λb0=>?_⟩;obtain⟨b,off,rfl,hb,a0⟩:=hx b0;refine⟨b,off,rfl,Nat.lt_of_lt_of_le hb hg.size,λi hi=>?_⟩;exact hg.cell (a0 i hi) (by simpa [Value.ownBlock] using c0 b0)
def zrx{w w':World}{lv:Value}{xs:List Int}(h:Zv w.heap.size w lv xs)(hb:Below w.heap.size w w'):Zv w'.heap.size w' lv xs:=(h.below hb).mono hb.size
def ys2{w:World}{lv:Value}{xs:List Int}(h:Zv w.heap.size w lv xs)(o:Obj):Zv (w.alloc o).heap.size (w.alloc o) lv xs:=zrx h (bA)
def zww{w:World}{lv:Value}{xs:List Int}(h:Zv w.heap.size w lv xs)(a0:xs≠[]):∃b,lv.ownBlock=some b/\b<w.heap.size:=by
 obtain⟨ao,cap,rfl,hc,hl,hx⟩:=h;obtain⟨b,off,rfl,hb,_⟩:=hx a0;exact⟨b,rfl,hb⟩
def Uy{w:World}{lv:Value}{xs:List Int}{a:Addr}{u:Value}(h:Zv w.heap.size w lv xs)(c0:xs≠[]->lv.ownBlock≠some a.block):Zv (w.setCell a u).heap.size (w.setCell a u) lv xs:=by
 have hs:(w.setCell a u).heap.size=w.heap.size:=by simp[World.setCell]
 obtain⟨ao,cap,rfl,hc,hl,hx⟩:=h;refine⟨ao,cap,rfl,hc,hl,λb0=>?_⟩;obtain⟨b,off,rfl,hb,a0⟩:=hx b0;refine⟨b,off,rfl,by omega,λi hi=>?_⟩;rw[Qc (w:=w) (Below.heap_setCell w a u b (by have:=c0 b0;simpa [Value.ownBlock] using this))];exact a0 i hi
def zs1{w:World}{base base':Nat}{e e':TypeId}{size size':Nat}{v v':Value}{n n':Nat}{xs xs':List Value}(h:w.ownsRow base e size v n xs)(h':w.ownsRow base' e' size' v' n' xs')(a0:e≠e'):v.ownBlock=none\/v.ownBlock≠v'.ownBlock:=by
 rcases h.2 with⟨rfl,_⟩|⟨g,cap,cur,rfl,hb,hg,_⟩
 ·left;rfl
 right
 rcases h'.2 with⟨rfl,_⟩|⟨g',cap',cur',rfl,hb',hg',_⟩
 ·simp[Value.ownBlock]
 intro hh;simp only[Value.ownBlock,Option.some.injEq]at hh;rw[hh]at hg;rw[hg]at hg';simp only[Option.some.injEq,Obj.cells.injEq]at hg';exact a0 hg'.2.1
def Jn(w:World)(lv:Value)(xs:List Int)(sv nv:Value):Prop:=Zv w.heap.size w lv xs/\(xs≠[]->lv.ownBlock≠sv.ownBlock/\lv.ownBlock≠nv.ownBlock)
def Jn.first{w w':World}{lv sv nv sv':Value}{xs:List Int}(h:Jn w lv xs sv nv)(hg:w.grownBy w' sv.ownBlock)(hw:sv'.ownBlock=sv.ownBlock\/sv'.ownBlock=some w.heap.size):Jn w' lv xs sv' nv:=by
 refine⟨zj5 h.1 (λhx=>(h.2 hx).1) hg,λhx=>⟨?_,(h.2 hx).2⟩⟩;rcases hw with hw|hw
 ·rw[hw];exact(h.2 hx).1
 obtain⟨b,hb,a0⟩:=zww h.1 hx;rw[hw,hb];intro hh;simp at hh;omega
def Jn.second{w w':World}{lv sv nv nv':Value}{xs:List Int}(h:Jn w lv xs sv nv)(hg:w.grownBy w' nv.ownBlock)(hw:nv'.ownBlock=nv.ownBlock\/nv'.ownBlock=some w.heap.size):Jn w' lv xs sv nv':=by
 refine⟨zj5 h.1 (λhx=>(h.2 hx).2) hg,λhx=>⟨(h.2 hx).1,?_⟩⟩;rcases hw with hw|hw
 ·rw[hw];exact(h.2 hx).2
 obtain⟨b,hb,a0⟩:=zww h.1 hx;rw[hw,hb];intro hh;simp at hh;omega
def Jn.alloc{w:World}{lv sv nv:Value}{xs:List Int}(h:Jn w lv xs sv nv)(o:Obj):Jn (w.alloc o) lv xs sv nv:=⟨ys2 h.1 o,h.2⟩
def Jn.below{w w':World}{lv sv nv:Value}{xs:List Int}(h:Jn w lv xs sv nv)(hb:Below w.heap.size w w'):Jn w' lv xs sv nv:=⟨zrx h.1 hb,h.2⟩
def Jn.new{w w':World}{lv sv nv:Value}{xs:List Int}(h:Zv w'.heap.size w' lv xs)(hf:∀b,lv.ownBlock=some b->w.heap.size<=b)(hs:∀b,sv.ownBlock=some b->b<w.heap.size)(hn:∀b,nv.ownBlock=some b->b<w.heap.size):Jn w' lv xs sv nv:=by
 refine⟨h,λhx=>?_⟩;obtain⟨b,hb,a0⟩:=zww h hx;have:=hf b hb;refine⟨λhh=>?_,λhh=>?_⟩
 ·have:=hs b (hh.symm.trans hb);omega
 have:=hn b (hh.symm.trans hb);omega
def Jn.set{w:World}{lv sv nv:Value}{xs:List Int}{a:Addr}{u:Value}(h:Jn w lv xs sv nv)(a0:xs≠[]->lv.ownBlock≠some a.block):Jn (w.setCell a u) lv xs sv nv:=⟨Uy h.1 a0,h.2⟩
structure Fam(w wr:World)(lv cv:Value)(fam:List (Value×List Int))(sv nv:Value)(n1 n2:Nat)(xs ys:List Value):Prop where
 hs:wr.ownsRow (w.heap.size+2) 3 1 sv n1 xs
 hn:wr.ownsRow (w.heap.size+2) 59 6 nv n2 ys
 hall:∀p,p∈fam->Jn wr p.1 p.2 sv nv/\(p.2≠[]->∀b,p.1.ownBlock=some b->w.heap.size+2<=b)
 c0:wr.cell? ⟨w.heap.size+1,0,none⟩=some lv
 c1:wr.cell? ⟨w.heap.size+1,1,none⟩=some cv
 d0:wr.cell? ⟨w.heap.size,0,none⟩=some (.slice none 0 0)
 d1:wr.cell? ⟨w.heap.size,1,none⟩=some (.slice none 0 0)
 f0:∀j,wr.frozen? ⟨w.heap.size,j,none⟩=false
 f1:∀j,wr.frozen? ⟨w.heap.size+1,j,none⟩=false
 hb:Below w.heap.size w wr
 hz:w.heap.size+2<=wr.heap.size
section
variable{w wr w':World}{lv cv:Value}{fam:List (Value×List Int)}{sv nv:Value}{n1 n2:Nat}{xs ys:List Value}
def Fam.below(h:Fam w wr lv cv fam sv nv n1 n2 xs ys)(hb:Below wr.heap.size wr w'):Fam w w' lv cv fam sv nv n1 n2 xs ys:=by
 have q:∀b o,b<wr.heap.size->w'.cell? ⟨b,o,none⟩=wr.cell? ⟨b,o,none⟩:=λb o a0=>hb.cell (p:=⟨b,o,none⟩) a0;have f:∀b o,b<wr.heap.size->w'.frozen? ⟨b,o,none⟩=wr.frozen? ⟨b,o,none⟩:=λb o a0=>hb.frozen (p:=⟨b,o,none⟩) a0;have hz:=h.hz;have hsz:=hb.size;have og:wr.grownBy w' none:=⟨hb.os,hb.tape,hb.output,hb.size,λk hk _=>hb.block k hk⟩;exact⟨h.hs.kept og (by cases sv.ownBlock<;>simp),h.hn.kept og (by cases nv.ownBlock<;>simp),λp hp=>⟨(h.hall p hp).1.below hb,(h.hall p hp).2⟩,(q _ _ (by omega)).trans h.c0,(q _ _ (by omega)).trans h.c1,(q _ _ (by omega)).trans h.d0,(q _ _ (by omega)).trans h.d1,λj=>(f _ _ (by omega)).trans (h.f0 j),λj=>(f _ _ (by omega)).trans (h.f1 j),h.hb.trans (hb.mono (by omega)),by omega⟩
def Fam.alloc(h:Fam w wr lv cv fam sv nv n1 n2 xs ys)(o:Obj):Fam w (wr.alloc o) lv cv fam sv nv n1 n2 xs ys:=h.below (bA)
def Fam.drew(h:Fam w wr lv cv fam sv nv n1 n2 xs ys):Fam w wr.drew lv cv fam sv nv n1 n2 xs ys:=h.below ((Below.refl _ _).drew)
def Fam.add(h:Fam w wr lv cv fam sv nv n1 n2 xs ys){lvn:Value}{l:List Int}{N:Nat}(hi:Zv wr.heap.size wr lvn l)(hf:∀b,lvn.ownBlock=some b->N<=b)(a0:∀b,sv.ownBlock=some b->b<N)(b0:∀b,nv.ownBlock=some b->b<N)(hN:w.heap.size+2<=N):Fam w wr lv cv (fam++[(lvn,l)]) sv nv n1 n2 xs ys:=by
 refine⟨h.hs,h.hn,λp hp=>?_,h.c0,h.c1,h.d0,h.d1,h.f0,h.f1,h.hb,h.hz⟩;simp only[List.mem_append,List.mem_singleton]at hp;rcases hp with hp|rfl
 ·exact h.hall p hp
 refine⟨⟨hi,λhx=>?_⟩,λ_ b hb=>by have:=hf b hb;omega⟩;obtain⟨b,hb,e0⟩:=zww hi hx;have:=hf b hb;exact⟨λhh=>by have:=a0 b (hh.symm.trans hb);omega,λhh=>by have:=b0 b (hh.symm.trans hb);omega⟩
def Fam.oldne(h:Fam w wr lv cv fam sv nv n1 n2 xs ys):(∀b,b<w.heap.size+2->some b≠sv.ownBlock)/\(∀b,b<w.heap.size+2->some b≠nv.ownBlock):=
 ⟨λb hb hh=>by have:=(h.hs.lt b hh.symm).1;omega,λb hb hh=>by have:=(h.hn.lt b hh.symm).1;omega⟩
def Fam.first(h:Fam w wr lv cv fam sv nv n1 n2 xs ys){sv':Value}{n1':Nat}{xs':List Value}(ho:w'.ownsRow (w.heap.size+2) 3 1 sv' n1' xs')(hg:wr.grownBy w' sv.ownBlock)(hw:sv'.ownBlock=sv.ownBlock\/sv'.ownBlock=some wr.heap.size):Fam w w' lv cv fam sv' nv n1' n2 xs' ys:=by
 have hz:=h.hz;have a0:=h.oldne.1;have f:∀b j,b<w.heap.size+2->w'.frozen? ⟨b,j,none⟩=wr.frozen? ⟨b,j,none⟩:=λb j b0=>Qd (w:=wr) (hg.block b (by omega) (a0 b b0));refine⟨ho,h.hn.kept hg ?_,λp hp=>⟨(h.hall p hp).1.first hg hw,(h.hall p hp).2⟩,hg.cell h.c0 (a0 _ (by simp)),hg.cell h.c1 (a0 _ (by simp)),hg.cell h.d0 (a0 _ (by simp)),hg.cell h.d1 (a0 _ (by simp)),λj=>(f _ _ (by omega)).trans (h.f0 j),λj=>(f _ _ (by omega)).trans (h.f1 j),h.hb.grown hg (by omega) (λg hgg=>by have:=(h.hs.lt g hgg).1;omega),by have:=hg.size;omega⟩;exact zs1 h.hn h.hs (by decide)
def Fam.second(h:Fam w wr lv cv fam sv nv n1 n2 xs ys){nv':Value}{n2':Nat}{ys':List Value}(ho:w'.ownsRow (w.heap.size+2) 59 6 nv' n2' ys')(hg:wr.grownBy w' nv.ownBlock)(hw:nv'.ownBlock=nv.ownBlock\/nv'.ownBlock=some wr.heap.size):Fam w w' lv cv fam sv nv' n1 n2' xs ys':=by
 have hz:=h.hz;have a0:=h.oldne.2;have f:∀b j,b<w.heap.size+2->w'.frozen? ⟨b,j,none⟩=wr.frozen? ⟨b,j,none⟩:=λb j b0=>Qd (w:=wr) (hg.block b (by omega) (a0 b b0));refine⟨h.hs.kept hg ?_,ho,λp hp=>⟨(h.hall p hp).1.second hg hw,(h.hall p hp).2⟩,hg.cell h.c0 (a0 _ (by simp)),hg.cell h.c1 (a0 _ (by simp)),hg.cell h.d0 (a0 _ (by simp)),hg.cell h.d1 (a0 _ (by simp)),λj=>(f _ _ (by omega)).trans (h.f0 j),λj=>(f _ _ (by omega)).trans (h.f1 j),h.hb.grown hg (by omega) (λg hgg=>by have:=(h.hn.lt g hgg).1;omega),by have:=hg.size;omega⟩;exact zs1 h.hs h.hn (by decide)
def Fam.store(h:Fam w wr lv cv fam sv nv n1 n2 xs ys)(u:Value):Fam w (wr.setCell ⟨w.heap.size+1,1,none⟩ u) lv u fam sv nv n1 n2 xs ys:=by
 have hz:=h.hz
 have hs:(wr.setCell ⟨w.heap.size+1,1,none⟩ u).heap.size=wr.heap.size:=by simp[World.setCell]
 have q:∀j,(wr.setCell ⟨w.heap.size+1,1,none⟩ u).cell? ⟨w.heap.size,j,none⟩=wr.cell? ⟨w.heap.size,j,none⟩:=λj=>by apply Qg;intro hh;injection hh with h2;omega
 refine⟨ownsRow_setCell_below h.hs (by simp) u,ownsRow_setCell_below h.hn (by simp) u,λp hp=>⟨(h.hall p hp).1.set (λhx=>?_),(h.hall p hp).2⟩,?_,World.cell?_setCell_same' _ _ _ (by simp[h.c1]),(q 0).trans h.d0,(q 1).trans h.d1,λj=>by rw[World.frozen?_setCell];exact h.f0 j,λj=>by rw[World.frozen?_setCell];exact h.f1 j,h.hb.setCell (by simp) u,by omega⟩
 ·intro hh
  have h3:w.heap.size+2<=w.heap.size+1:=(h.hall p hp).2 hx _ hh;omega
 have h4:(wr.setCell ⟨w.heap.size+1,1,none⟩ u).cell? ⟨w.heap.size+1,0,none⟩=wr.cell? ⟨w.heap.size+1,0,none⟩:=by
  apply Qg;intro hh;injection hh with _ h2;exact absurd h2 (by decide)
 rw[h4];exact h.c0
end
def Ug:List Fl.Node->List Value->List (Value×List Int)
 |n::ns,lv::lvs=>(lv,n.list)::Ug ns lvs
 |_,_=>[]
def zrw:∀(ns:List Fl.Node) (lvs:List Value) (n:Fl.Node) (lv:Value),lvs.length=ns.length->Ug (ns++[n]) (lvs++[lv])=Ug ns lvs++[(lv,n.list)]
 |[],[],n,lv,_=>rfl
 |m::ns,l::lvs,n,lv,h=>by simp only[List.cons_append,Ug,zrw ns lvs n lv (by simpa using h)]
def zvv:∀(ns:List Fl.Node) (lvs:List Value) (i:Nat),lvs.length=ns.length->i<ns.length->(lvs.getD i (.slice none 0 0),(Fl.nth ns i).list)∈Ug ns lvs
 |n::ns,lv::lvs,0,_,_=>by simp[Ug,Fl.nth]
 |n::ns,lv::lvs,i+1,h,hi=>by
  have:=zvv ns lvs i (by simpa using h) (by simpa using hi);simp only[Ug,List.mem_cons];right;exact this
structure zyv(s:List UInt8)(M q0:Nat)(w:World)(lv:Value)(ls:List Int)(wr:World)(k q:Nat)(sv nv:Value)(st:List Int)(acc:List Fl.Node)(lvs:List Value):Prop where
 hk:k<=M
 hq:q<=s.length
 hst:st.length=k
 hacc:acc.length=k
 hlvs:lvs.length=k
 hrun:Fl.nodesA s M 0 q0 [] []=Fl.nodesA s (M - k) k q st acc
 hf:Fam w wr lv nv ((lv,ls)::Ug acc lvs) sv nv k k (st.map (Value.int .i64)) (flat acc lvs)
def zyv.nodes{s:List UInt8}{M q0:Nat}{w wr:World}{lv:Value}{ls:List Int}{k q:Nat}{sv nv:Value}{st:List Int}{acc:List Fl.Node}{lvs:List Value}(h:zyv s M q0 w lv ls wr k q sv nv st acc lvs):Yv wr.heap.size wr nv acc:=
 zw4 (by rw[h.hacc];exact h.hf.hn) (by rw[h.hacc,h.hlvs]) (λi hi=>(h.hf.hall _ (by simp only[List.mem_cons];right;exact zvv acc lvs i (by rw[h.hacc,h.hlvs]) hi)).1.1)
def zyv.locals{s:List UInt8}{M q0:Nat}{w wr:World}{lv:Value}{ls:List Int}{k q:Nat}{sv nv:Value}{st:List Int}{acc:List Fl.Node}{lvs:List Value}(h:zyv s M q0 w lv ls wr k q sv nv st acc lvs):Zv wr.heap.size wr lv ls:=(h.hf.hall (lv,ls) (by simp)).1.1
def Fam.res{w wr:World}{lv cv:Value}{fam:List (Value×List Int)}{sv nv:Value}{n1 n2:Nat}{xs ys:List Value}(h:Fam w wr lv cv fam sv nv n1 n2 xs ys)(u u':Value):
  ((wr.setCell ⟨w.heap.size,0,none⟩ u).setCell ⟨w.heap.size,1,none⟩ u').ownsRow (w.heap.size+2) 59 6 nv n2 ys/\
  ∀p,p∈fam->Zv ((wr.setCell ⟨w.heap.size,0,none⟩ u).setCell ⟨w.heap.size,1,none⟩ u').heap.size ((wr.setCell ⟨w.heap.size,0,none⟩ u).setCell ⟨w.heap.size,1,none⟩ u') p.1 p.2:=by
 refine⟨ownsRow_setCell_below (ownsRow_setCell_below h.hn (by simp) u) (by simp) u',λp hp=>?_⟩
 have a0:p.2≠[]->p.1.ownBlock≠some w.heap.size:=λhx hh=>by
  have h3:w.heap.size+2<=w.heap.size:=(h.hall p hp).2 hx _ hh;omega
 exact Uy (Uy (h.hall p hp).1.1 a0) a0
def zyv.ends{s:List UInt8}{M q0:Nat}{w wr w':World}{lv:Value}{ls:List Int}{k q:Nat}{sv nv:Value}{st:List Int}{acc:List Fl.Node}{lvs:List Value}(h:zyv s M q0 w lv ls wr k q sv nv st acc lvs)(hb:Below wr.heap.size wr w')(u u':Value):
  Zv ((w'.setCell ⟨w.heap.size,0,none⟩ u).setCell ⟨w.heap.size,1,none⟩ u').heap.size ((w'.setCell ⟨w.heap.size,0,none⟩ u).setCell ⟨w.heap.size,1,none⟩ u') lv ls/\
  Yv ((w'.setCell ⟨w.heap.size,0,none⟩ u).setCell ⟨w.heap.size,1,none⟩ u').heap.size ((w'.setCell ⟨w.heap.size,0,none⟩ u).setCell ⟨w.heap.size,1,none⟩ u') nv acc:=by
 have hr:=(h.hf.below hb).res u u';exact⟨hr.2 (lv,ls) (by simp),zw4 (by rw[h.hacc];exact hr.1) (by rw[h.hacc,h.hlvs]) (λi hi=>hr.2 _ (by simp only[List.mem_cons];right;exact zvv acc lvs i (by rw[h.hacc,h.hlvs]) hi))⟩
def Vy{w:World}{base:Nat}{e:TypeId}{size:Nat}{v:Value}{n:Nat}{xs:List Value}(h:w.ownsRow base e size v n xs):∃ao cap,v=.slice ao n cap:=by
 rcases h.2 with⟨rfl,rfl⟩|⟨g,cap,cur,rfl,_⟩
 ·exact⟨_,_,rfl⟩
 exact⟨_,_,rfl⟩
def zh4{w:World}{e:TypeId}(vs:List Value):∀j u,vs[j]?=some u->(w.alloc (.cells vs.toArray e)).cell? ((⟨w.heap.size,0,none⟩:Addr).add j)=some u:=by
 intro j u hj
 have h2:(⟨w.heap.size,0,none⟩:Addr).add j=⟨w.heap.size,j,none⟩:=by unfold Addr.add;split<;>simp_all
 rw[h2,World.cell?_alloc_new];simpa using hj
def zyv.step{s:List UInt8}{M q0:Nat}{w wr w':World}{lv:Value}{ls:List Int}{k q:Nat}{sv nv sv' nv':Value}{st:List Int}{acc:List Fl.Node}{lvs:List Value}{nd:Fl.Node}{af fb:Int}{lvn:Value}(h:zyv s M q0 w lv ls wr k q sv nv st acc lvs)(b0:k<M)(ho:Fl.one s q k=(nd,af,fb))(c0:0<=af)(a0:af<=s.length)
  (hf:Fam w w' lv nv' (((lv,ls)::Ug acc lvs)++[(lvn,nd.list)]) sv' nv' (k+1) (k+1) (st.map (Value.int .i64)++[.int .i64 (q:Int)]) (flat acc lvs++Yb nd lvn)):
  zyv s M q0 w lv ls w' (k+1) af.toNat sv' nv' (st++[(q:Int)]) (acc++[nd]) (lvs++[lvn]):=by
 refine⟨by omega,by omega,by simp[h.hst],by simp[h.hacc],by simp[h.hlvs],?_,?_⟩
 ·rw[h.hrun,show M - k=(M - (k+1))+1 from by omega];simp only[Fl.nodesA,ho];rw[if_neg (by omega)]
 have hlen:lvs.length=acc.length:=by rw[h.hacc,h.hlvs]
 rw[zrw _ _ _ _ hlen,zo0 _ _ _ _ hlen,List.map_append];exact hf
def Zf(e p:Int):List PanicEntry:=[{v:=.iface 164 (.agg #[.int .i64 e,.int .i64 p]),recovered:=false}]
structure Mv(w w':World)(b:Nat):Prop where
 g:w.grownBy w' (some b)
 o:∀j,j≠1->w'.cell? ⟨b,j,none⟩=w.cell? ⟨b,j,none⟩
 f:∀j,w'.frozen? ⟨b,j,none⟩=w.frozen? ⟨b,j,none⟩
def Mv.refl(w:World)(b:Nat):Mv w w b:=⟨World.grownBy.refl _ _,λ_ _=>rfl,λ_=>rfl⟩
def Mv.trans{w w1 w2:World}{b:Nat}(h:Mv w w1 b)(k:Mv w1 w2 b):Mv w w2 b:=
 ⟨⟨k.g.os.trans h.g.os,k.g.tape.trans h.g.tape,k.g.output.trans h.g.output,Nat.le_trans h.g.size k.g.size,λi hi a0=>(k.g.block i (Nat.lt_of_lt_of_le hi h.g.size) a0).trans (h.g.block i hi a0)⟩,λj hj=>(k.o j hj).trans (h.o j hj),λj=>(k.f j).trans (h.f j)⟩
def Mv.lt{w w':World}{b:Nat}(h:Mv w w' b)(hb:b<w.heap.size):b<w'.heap.size:=Nat.lt_of_lt_of_le hb h.g.size
def Mv.set(w:World)(b:Nat)(u:Value):Mv w (w.setCell ⟨b,1,none⟩ u) b:=by
 refine⟨⟨rfl,rfl,rfl,by simp[World.setCell],λk hk a0=>Below.heap_setCell _ _ _ _ (by intro h;exact a0 (by rw[h]))⟩,λj hj=>?_,λj=>World.frozen?_setCell _ _ _ _⟩;apply Qg;intro hh;injection hh with _ h2;exact hj h2.symm
def Mv.of_below{w w':World}{b:Nat}(h:Below w.heap.size w w')(hb:b<w.heap.size):Mv w w' b:=
 ⟨⟨h.os,h.tape,h.output,h.size,λk hk _=>h.block k hk⟩,λj _=>h.cell (p:=⟨b,j,none⟩) hb,λj=>h.frozen (p:=⟨b,j,none⟩) hb⟩
def Mv.grown{w w':World}{b:Nat}{row:Option Nat}(h:w.grownBy w' row)(hr:some b≠row)(hb:b<w.heap.size)(hall:∀k,row=some k->w.heap.size<=k):Mv w w' b:=
 ⟨⟨h.os,h.tape,h.output,h.size,λk hk _=>h.block k hk (λe=>by have:=hall k e.symm;omega)⟩,λj _=>Qc (w:=w) (h.block b hb hr),λj=>Qd (w:=w) (h.block b hb hr)⟩
def Mv.below{w w':World}{b B:Nat}(h:Mv w w' b)(hB:B<=b)(hb:b<w.heap.size):Below B w w':=
 ⟨h.g.os,h.g.tape,h.g.output,h.g.size,λk hk=>h.g.block k (by omega) (by simp;omega)⟩
def Mv.andGrown{w w1 w2:World}{b:Nat}{row:Option Nat}(h:Mv w w1 b)(g:w1.grownBy w2 row)(hb:b<w.heap.size)(hall:∀k,row=some k->w.heap.size<=k):Mv w w2 b:=by
 have a0:∀k,k<w.heap.size->some k≠row:=λk hk e=>by have:=hall k e.symm;omega
 have hz:=h.g.size;refine⟨⟨g.os.trans h.g.os,g.tape.trans h.g.tape,g.output.trans h.g.output,Nat.le_trans h.g.size g.size,λk hk b0=>(g.block k (by omega) (a0 k hk)).trans (h.g.block k hk b0)⟩,λj hj=>?_,λj=>?_⟩
 ·exact(Qc (w:=w1) (a:=⟨b,j,none⟩) (g.block b (by omega) (a0 b hb))).trans (h.o j hj)
 exact(Qd (w:=w1) (a:=⟨b,j,none⟩) (g.block b (by omega) (a0 b hb))).trans (h.f j)
def Mv.alloc{w w1:World}{b:Nat}(h:Mv w w1 b)(hb:b<w.heap.size)(o:Obj):Mv w (w1.alloc o) b:=h.andGrown (World.grownBy_alloc w1 o none) hb (λk e=>by cases e)
def Mv.andBelow{w w1 w2:World}{b:Nat}(h:Mv w w1 b)(k:Below w1.heap.size w1 w2)(hb:b<w.heap.size):Mv w w2 b:=h.trans (Mv.of_below k (h.lt hb))
def Mv.drew{w w':World}{b:Nat}(h:Mv w w' b):Mv w w'.drew b:=h.trans ⟨⟨rfl,rfl,rfl,Nat.le_refl _,λ_ _ _=>rfl⟩,λ_ _=>rfl,λ_=>rfl⟩
def Mv.drewN{w w':World}{b:Nat}(h:Mv w w' b)(n:Nat):Mv w (w'.drewN n) b:=h.trans ⟨⟨rfl,rfl,rfl,Nat.le_refl _,λ_ _ _=>rfl⟩,λ_ _=>rfl,λ_=>rfl⟩
structure Dr(w:World)(b:Nat)(ao:Option Addr)(cap:Nat)(s:List UInt8)(p:Nat):Prop where
 c0:w.cell? ⟨b,0,none⟩=some (.slice ao s.length cap)
 c1:w.cell? ⟨b,1,none⟩=some (.int .i64 p)
 f1:w.frozen? ⟨b,1,none⟩=false
 hb:s≠[]->∃bb bo,ao=some ⟨bb,bo,none⟩/\bb≠b/\∀i,i<s.length->w.cell? ⟨bb,bo+i,none⟩=some (.int .u8 (s.getD i 0).toNat)
 hp:p<=s.length
 hs:s.length<=1099511627776
def Dr.lt{w:World}{b:Nat}{ao:Option Addr}{cap:Nat}{s:List UInt8}{p:Nat}(h:Dr w b ao cap s p):b<w.heap.size:=Qe w _ h.c0
def Dr.move{w w':World}{b:Nat}{ao:Option Addr}{cap:Nat}{s:List UInt8}{p q:Nat}(h:Dr w b ao cap s p)(m:Mv w w' b)(c:w'.cell? ⟨b,1,none⟩=some (.int .i64 q))(hq:q<=s.length):Dr w' b ao cap s q:=by
 refine⟨(m.o 0 (by decide)).trans h.c0,c,(m.f 1).trans h.f1,λb0=>?_,hq,h.hs⟩;obtain⟨bb,bo,ha,a0,hc⟩:=h.hb b0;exact⟨bb,bo,ha,a0,λi hi=>m.g.cell (hc i hi) (by simpa using a0)⟩
def Dr.set{w:World}{b:Nat}{ao:Option Addr}{cap:Nat}{s:List UInt8}{p q:Nat}(h:Dr w b ao cap s p)(hq:q<=s.length):Dr (w.setCell ⟨b,1,none⟩ (.int .i64 q)) b ao cap s q:=
 h.move (Mv.set _ _ _) (World.cell?_setCell_same' _ _ _ (by simp[h.c1])) hq
def Dr.at{w:World}{b:Nat}{ao:Option Addr}{cap:Nat}{s:List UInt8}{p:Nat}(h:Dr w b ao cap s p)(a0:p<s.length):∃bb bo,ao=some ⟨bb,bo,none⟩/\bb≠b/\w.cell? ⟨bb,bo+p,none⟩=some (.int .u8 (s.getD p 0).toNat):=by
 obtain⟨bb,bo,ha,b0,hc⟩:=h.hb (by intro hh;rw[hh]at a0;simp at a0);exact⟨bb,bo,ha,b0,hc p a0⟩
namespace Fl
def numB(s:List UInt8)(p:Nat)(lo hi:Int):Int×Int×Int:=
 if(num s p).2.1<0 then(0,-1,(num s p).2.2) else if(num s p).1<lo\/hi<(num s p).1 then(0,-1,(p:Int)) else((num s p).1,(num s p).2.1,0)
end Fl
section
variable{P:Program}{w:World}{ops:Array Oper}{rest:List Oper}{o:Oper}{a:Act}{Q:Exit->Act->World->Prop}
def Vd(a0:o.guard=none)(t:TypeId)(parts:Array (Nat×Operand))(ho:o.op=.build t parts)(arr:Array Value)
  (hrun:(Instr.build t (parts.map λ(i,x)=>(i,a.eval x))).run P w=.ok (.agg arr) w) (h:wpList P ops Q rest (a.put o.dst (.agg arr)) w):wpList P ops Q (o::rest) a w:=
 wpList_plain a0 λ_ hK=>by
  have b0:=hK _ _ h;unfold Oper.wp execOp;simp only[ho,Sem.run_bind,hrun,Result.andThen_ok,Sem.run_pure];exact b0
def Jm(a0:o.guard=none)(x y:Operand)(t:TypeId)(ho:o.op=.store t x y)(w:World)(c c':Array Value)(hx:a.eval x=.pointer (some ⟨w.heap.size,0,none⟩))(hy:a.eval y=.agg c')
  (hi:(P.info? t).map (·.size)=some c'.size) (hsz:c.size=c'.size) (h1:c'.all (·.oneCell')=true) (h:wpList P ops Q rest (a.put o.dst undef) (w.alloc (.cells c' t))):wpList P ops Q (o::rest) a (w.alloc (.cells c t)):=
 wpList_plain a0 λ_ hK=>by
  have b0:=hK _ _ h;unfold Oper.wp execOp;simp only[ho,Sem.run_bind,hx,hy,run_storeAt_new w t c c' hi hsz h1,Result.andThen_ok,Sem.run_pure];exact b0
def znv(a0:o.guard=none)(x y:Operand)(t:TypeId)(ho:o.op=.store t x y)(w:World)(N:Nat)(c c':Array Value)(hx:a.eval x=.pointer (some ⟨N,0,none⟩))(hN:w.heap.size=N)(hy:a.eval y=.agg c')
  (hi:(P.info? t).map (·.size)=some c'.size) (hsz:c.size=c'.size) (h1:c'.all (·.oneCell')=true) (h:wpList P ops Q rest (a.put o.dst undef) (w.alloc (.cells c' t))):wpList P ops Q (o::rest) a (w.alloc (.cells c t)):=by
 subst hN;exact Jm a0 x y t ho w c c' hx hy hi hsz h1 h
def zh5(x y:Operand)(t:TypeId)(ho:o.op=.store t x y)(w:World)(c c':Array Value)(hx:a.eval x=.pointer (some ⟨w.heap.size,0,none⟩))(hy:a.eval y=.agg c')
  (hi:(P.info? t).map (·.size)=some c'.size) (hsz:c.size=c'.size) (h1:c'.all (·.oneCell')=true):(execOp a.eval o).run P (w.alloc (.cells c t))=.ok .skip (w.alloc (.cells c' t)):=by
 unfold execOp;simp only[ho,Sem.run_bind,hx,hy,run_storeAt_new w t c c' hi hsz h1,Result.andThen_ok,Sem.run_pure]
def zs2(a0:o.guard=none)(x:Operand)(t:TypeId)(ho:o.op=.load t x)(g:Nat)(hx:a.eval x=.pointer (some ⟨g,0,none⟩))(arr:Array Value)(te:TypeId)(fr:Nat×Nat)(hg:w.heap[g]?=some (.cells arr te fr))
  (d:TypeDesc) (hu:P.underlying t=some d) (hd:(match d with| .struct _| .array _ _=>true|_=>false)=true) (hi:(P.info? t).map (·.size)=some arr.size) (h:wpList P ops Q rest (a.put o.dst (.agg arr)) w):wpList P ops Q (o::rest) a w:=
 wpList_plain a0 λ_ hK=>by
  have b0:=hK _ _ h;unfold Oper.wp execOp;simp only[ho,Sem.run_bind,hx,Instr.loadAt,Instr.sureAddr,Sem.run_pure,Result.andThen_ok,run_loadVar_row w g te t arr fr d hg hu hd hi];exact b0
def Vw(a0:o.guard=none)(x y:Operand)(t:TypeId)(ho:o.op=.store t x y)(g:Nat)(hx:a.eval x=.pointer (some ⟨g,0,none⟩))(c c':Array Value)(hy:a.eval y=.agg c')(te:TypeId)(hg:w.heap[g]?=some (.cells c te (0,0)))
  (hi:(P.info? t).map (·.size)=some c'.size) (hsz:c.size=c'.size) (h1:c'.all (·.oneCell')=true) (h:wpList P ops Q rest (a.put o.dst undef) (w.setRow g c')):wpList P ops Q (o::rest) a w:=
 wpList_plain a0 λ_ hK=>by
  have b0:=hK _ _ h;unfold Oper.wp execOp;simp only[ho,Sem.run_bind,hx,hy,Instr.storeAt,Instr.sureAddr,Sem.run_pure,Result.andThen_ok,run_storeVar_row w g te t c c' hg hi hsz h1];exact b0
def Vq{L:Act->Prop}(a0:o.guard=none)(v:Value)(hrun:(execOp a.eval o).run P w=.ok (.value v) w)(h:wpStill P ops w L rest (a.put o.dst v)):wpStill P ops w L (o::rest) a:=by
 unfold wpStill;simp only[Region.wanted,a0,if_true,Oper.still,hrun,Oper.stillUpon,true_and];exact h
def zu5(x:Operand)(t:TypeId)(ho:o.op=.load t x)(g:Nat)(hx:a.eval x=.pointer (some ⟨g,0,none⟩))(arr:Array Value)(te:TypeId)(fr:Nat×Nat)(hg:w.heap[g]?=some (.cells arr te fr))
  (d:TypeDesc) (hu:P.underlying t=some d) (hd:(match d with| .struct _| .array _ _=>true|_=>false)=true) (hi:(P.info? t).map (·.size)=some arr.size):(execOp a.eval o).run P w=.ok (.value (.agg arr)) w:=by
 unfold execOp;simp only[ho,Sem.run_bind,hx,Instr.loadAt,Instr.sureAddr,Sem.run_pure,Result.andThen_ok,run_loadVar_row w g te t arr fr d hg hu hd hi]
def zz5(m x:Operand)(t:TypeId)(ho:o.op=.lookup t m x true)(mv kv v:Value)(hm:a.eval m=mv)(hx:a.eval x=kv)(hrun:(Instr.lookup t mv kv true).run P w=.ok v w):(execOp a.eval o).run P w=.ok (.value v) w:=by
 unfold execOp;simp only[ho,Sem.run_bind,hm,hx,hrun,Result.andThen_ok,Sem.run_pure]
def zp3{P:Program}{fn:Func}{p:Tmp}{ty:TypeId}(h:fn.results=#[.cell p ty])(tmps:Array Value)(w:World)(ad:Addr)(v:Value)(ha:tmps.getD p undef=.pointer (some ad))(hl:(loadVar ty ad).run P w=.ok v w):
  (results fn tmps).run P w=.ok v w:=by
 have ha':tmps[p]?.getD undef=.pointer (some ad):=by rw[<-ha,Array.getD_eq_getD_getElem?]
 simp only[results,h];simp[Sem.run_bind,Result.andThen,ha',asAddr,hl]
end
def zs3(n p:Int)(w:World):Calls prog 62 #[.int .i64 n,.int .i64 p] w λe w'=>e=.panicked (Zf n p)/\Below w.heap.size w w':=by
 go_enter func62,ntmps62
 go_wp2;exact⟨rfl,rfl,Below.refl _ _⟩
def Jz(b:Nat)(p:Int)(w:World):Calls prog 74 #[.pointer (some ⟨b,0,none⟩),.bool true,.int .i64 p] w λe w'=>e=.returned (.tuple #[])/\w'=w:=by
 go_enter func74,ntmps74
 go_wp2
 go_end0
 exact⟨rfl,rfl⟩
def Xe(b:Nat)(p:Int)(w:World):Calls prog 74 #[.pointer (some ⟨b,0,none⟩),.bool false,.int .i64 p] w λe w'=>e=.panicked (Zf 8 p)/\Below w.heap.size w w':=by
 go_enter func74,ntmps74
 go_wp2_with (go_at_call 62;refine(zs3 _ _ _).mono ?_;rintro e w' ⟨rfl,hb⟩)
 exact⟨rfl,rfl,hb⟩
def zh6{b:Nat}{ao:Option Addr}{cap:Nat}{s:List UInt8}{p:Nat}{w:World}(h:Dr w b ao cap s p)(a0:p<s.length):
  Calls prog 75 #[.pointer (some ⟨b,0,none⟩)] w λe w'=>e=.returned (.int .u8 (s.getD p 0).toNat)/\Mv w w' b/\w'.cell? ⟨b,1,none⟩=some (.int .i64 ((p+1:Nat):Int)):=by
 obtain⟨bb,bo,rfl,b0,hc⟩:=h.at a0;have c0:=h.c0;have c1:=h.c1;have f1:=h.f1;have hs:=h.hs;generalize (s.getD p 0).toNat=x at*;clear h
 go_enter func75,ntmps75
 go_wp2_with fail
 go_still_tail 16,(by kernel_rfl)
 go_wp2_with (go_at_call 74;refine(Jz _ _ _).mono ?_;rintro e w' ⟨rfl,rfl⟩)
 go_quiet (fail)
 go_wp2;go_ret;exact⟨rfl,(Mv.set _ _ _).drew.drewN _,by simp;exact World.cell?_setCell_same' _ _ _ (by simp[c1])⟩
def zmv{b:Nat}{ao:Option Addr}{cap:Nat}{s:List UInt8}{p:Nat}{w:World}(h:Dr w b ao cap s p)(a0:¬p<s.length):
  Calls prog 75 #[.pointer (some ⟨b,0,none⟩)] w λe w'=>e=.panicked (Zf 8 s.length)/\Mv w w' b:=by
 have hlb:=h.lt;have c0:=h.c0;have c1:=h.c1;have f1:=h.f1;have hs:=h.hs;clear h
 go_enter func75,ntmps75
 go_wp2_with fail
 go_still_tail 16,(by kernel_rfl)
 go_wp2_with (go_at_call 74;refine(Xe _ _ _).mono ?_;rintro e w' ⟨rfl,hb⟩;exact⟨rfl,rfl,Mv.of_below ((Below.refl _ _).drew.trans hb) hlb⟩)
def Ur{P:Program}{id:Nat}{Q:Exit->Act->World->Prop}{a:Act}{w:World}{l:List Oper}(n g d g' d':Nat)(hm:P.follows .mixedOrders=true)(hB:Region.lexTailB .any l.toArray n=true)(hg:((l.toArray[g]?).bind λx=>x.dst)=some d)(hg':((l.toArray[g']?).bind λx=>x.dst)=some d')
  (h:∀ops:Array Oper,((ops[g]?).bind λx=>x.dst)=some d->((ops[g']?).bind λx=>x.dst)=some d'->wpStill P ops {w with drawn:=w.drawn+1} (λa'=>wpList P ops Q (l.drop n) a' {w with drawn:=w.drawn+1}) (l.take n) a):(Code.region id l.toArray true).wp P Q a w:=
 wp_region_still_tail n hm hB (h _ hg hg')
def Vo:Array Value:=#[
 .string ⟨#[108,101,118,101,108]⟩,.string ⟨#[110]⟩,.bool true,.func (.func 94) #[] #[],.string ⟨#[98,101,108,111,119]⟩,.string ⟨#[110,110]⟩,.bool true,.func (.func 95) #[] #[],.string ⟨#[99,101,108,108]⟩,.string ⟨#[110,110]⟩,.bool true,.func (.func 96) #[] #[],.string ⟨#[99,104,97,110,110,101,108]⟩,.string ⟨#[110,110]⟩,.bool true,.func (.func 97) #[] #[],.string ⟨#[98,101,103,105,110]⟩,.string ⟨#[]⟩,.bool true,.func (.func 98) #[] #[],.string ⟨#[115,101,116]⟩,.string ⟨#[110,97]⟩,.bool false,.func (.func 99) #[] #[],.string ⟨#[115,101,116]⟩,.string ⟨#[110,97,111,97]⟩,.bool false,.func (.func 99) #[] #[],.string ⟨#[111,117,116]⟩,.string ⟨#[110,97]⟩,.bool false,.func (.func 100) #[] #[],.string ⟨#[105,102]⟩,.string ⟨#[97]⟩,.bool false,.func (.func 101) #[] #[],.string ⟨#[101,108,115,101]⟩,.string ⟨#[]⟩,.bool false,.func (.func 102) #[] #[],.string ⟨#[119,104,105,108,101]⟩,.string ⟨#[97]⟩,.bool false,.func (.func 103) #[] #[],.string ⟨#[101,110,100]⟩,.string ⟨#[]⟩,.bool false,.func (.func 104) #[] #[]]
def zo1(k:Nat):Nat:=[94,95,96,97,98,99,99,100,101,102,103,104].getD k 0
def yp9(k:Nat)(h:k<12):Vo[k*4]?=some (.string ⟨(Fl.rule k).1.toArray⟩)/\Vo[k*4+1]?=some (.string ⟨(Fl.rule k).2.1.toArray⟩)/\Vo[k*4+2]?=some (.bool (Fl.rule k).2.2)/\Vo[k*4+3]?=some (.func (.func (zo1 k)) #[] #[]):=by
 rcases(show k=0\/k=1\/k=2\/k=3\/k=4\/k=5\/k=6\/k=7\/k=8\/k=9\/k=10\/k=11 by omega) with rfl|rfl|rfl|rfl|rfl|rfl|rfl|rfl|rfl|rfl|rfl|rfl<;>exact⟨rfl,rfl,rfl,rfl⟩
def ypz(k:Nat)(h:k<12):(∀c∈(Fl.rule k).2.1,c=110\/c=97\/c=111)/\(Fl.rule k).2.1.length<=4:=by
 rcases(show k=0\/k=1\/k=2\/k=3\/k=4\/k=5\/k=6\/k=7\/k=8\/k=9\/k=10\/k=11 by omega) with rfl|rfl|rfl|rfl|rfl|rfl|rfl|rfl|rfl|rfl|rfl|rfl<;>decide
def zj6(k:Nat)(h:k<12):∀args W,(callFunc (zo1 k) args).run prog W=.ok (.enter (zo1 k) args) W:=by
 intro args W;rcases(show k=0\/k=1\/k=2\/k=3\/k=4\/k=5\/k=6\/k=7\/k=8\/k=9\/k=10\/k=11 by omega) with rfl|rfl|rfl|rfl|rfl|rfl|rfl|rfl|rfl|rfl|rfl|rfl<;>kernel_rfl
def zd9(w:World):Calls prog 63 #[] w λe w'=>e=.returned (.slice (some ⟨w.heap.size,0,none⟩) 12 12)/\w'=w.alloc (.cells Vo 192):=by
 go_enter func63,ntmps63
 go_wp2_with fail
 go_ret;exact⟨rfl,rfl⟩
def Xk(b:Nat)(n:Int)(w:World):Calls prog 67 #[.pointer (some ⟨b,0,none⟩),.bool true,.int .i64 n] w λe w'=>e=.returned (.tuple #[])/\w'=w:=by
 go_enter func67,ntmps67
 go_wp2
 go_end0
 exact⟨rfl,rfl⟩
def Yg(b:Nat)(n p:Int)(w:World)(hp:w.cell? ⟨b,1,none⟩=some (.int .i64 p)):Calls prog 67 #[.pointer (some ⟨b,0,none⟩),.bool false,.int .i64 n] w λe w'=>e=.panicked (Zf n p)/\Below w.heap.size w w':=by
 go_enter func67,ntmps67
 go_wp2_with (go_at_call 62;refine(zs3 _ _ _).mono ?_;rintro e w' ⟨rfl,hb⟩)
 exact⟨rfl,rfl,hb⟩
def Tryz.infoLineRule:(Tryz.prog.info? 192).map (·.size)=some 4:=by kernel_rfl
def lrOne(a b:ByteArray)(c:Bool)(f:Nat):(#[.string a,.string b,.bool c,.func (.func f) #[] #[]]:Array Value).all (·.oneCell')=true:=by kernel_rfl
def yx6(R T:Nat)(b off n cap:Nat)(ws:List (List UInt8))(line:Int)(begun:Bool)(w:World)(G:World->Prop)(Rp:Int->Int->World->Prop)
  (hT:w.heap[T]?=some (.cells Vo 192 (0,0))) (R0:Zg w.heap.size w (.slice (some ⟨b,off,none⟩) n cap) ws) (S0:ws≠[])
  (hl:w.cell? ⟨R,1,none⟩=some (.int .i64 line)) (T0:w.cell? ⟨R,2,none⟩=some (.bool begun))
  (p0:(∀k,k<12->Fl.isRule ws k=false)->∀W,Below w.heap.size w W->Rp 2 line W)
  (U0:∀k,k<12->Fl.isRule ws k=true->(Fl.rule k).2.2=begun->∀W,Below w.heap.size w W->Rp 3 line W)
  (g0:∀k,k<12->Fl.isRule ws k=true->(Fl.rule k).2.2≠begun->∀W v,Below w.heap.size w W->Zg w.heap.size W v (ws.drop 1)->v.ownBlock=some b->Calls prog (zo1 k) #[.pointer (some ⟨R,0,none⟩),v] W λe W'=>(e=.returned (.tuple #[])/\G W')\/∃n p,e=.panicked (Zf n p)/\Rp n p W'):
  Calls prog 66 #[.pointer (some ⟨R,0,none⟩),.slice (some ⟨T,0,none⟩) 12 12,.slice (some ⟨b,off,none⟩) n cap] w λe W'=>(e=.returned (.tuple #[])/\G W')\/∃n p,e=.panicked (Zf n p)/\Rp n p W':=by
 have HT:=Zz hT;have HW:=Zz R0;have HL:=Zz hl;have V0:=Zz T0;have H0:=Zz p0;have W0:=Zz U0;have h0:=Zz g0;clear hT R0 hl T0 p0 U0 g0
 go_enter func66,ntmps66
 go_wp2_with fail
 go_loopw [10] (λi wr=>∃(k:Nat),k<=12/\i=.int .i64 k/\Below w.heap.size w wr/\∀j,j<k->Fl.isRule ws j=false) (λi _=>12 - (intOf i).toNat)
 case atStart=>exact⟨0,by omega,rfl,Below.refl _ _,λj hj=>by omega⟩
 case round=>
  obtain⟨k,hk,rfl,b0,hno⟩:=hrel;have B0:=Zz hno;have HB:=Zz b0;have i1:T<w.heap.size:=(Array.getElem?_eq_some_iff.1 HT.out).1;have s0:R<w.heap.size:=Qe w ⟨R,1,none⟩ HL.out;have j1:=b0.size;clear hno
  by_cases i0:k<12
  ·have X0:wr.heap[T]?=some (.cells Vo 192 (0,0)):=(b0.block T i1).trans HT.out
   obtain⟨Y0,Z0,a1,b1⟩:=yp9 k i0
   have hc:∀j v,Vo[k*4+j]?=some v->wr.cell? ⟨T,k*4+j,none⟩=some v:=λj v hv=>by
    unfold World.cell?;simp only[X0];simpa using hv
   have q0:wr.cell? ⟨T,k*4,none⟩=some (.string ⟨(Fl.rule k).1.toArray⟩):=hc 0 _ (by simpa using Y0);have q1:=hc 1 _ Z0;have q2:=hc 2 _ a1;have q3:=hc 3 _ b1;obtain⟨wd,I0⟩:=nmE ((Fl.rule k).1);obtain⟨sh,C0⟩:=nmE ((Fl.rule k).2.1);obtain⟨ah,J0⟩:=nmE ((Fl.rule k).2.2);obtain⟨fn,K0⟩:=nmE (zo1 k);rw[<-I0]at q0;rw[<-C0]at q1;rw[<-J0]at q2;rw[<-K0]at q3;obtain⟨ao',cap',c1,u1,L0,v1,k1,d1⟩:=HW.out;simp only[Value.slice.injEq]at c1;obtain⟨rfl,rfl,rfl⟩:=c1;obtain⟨b',off',e1,l1,j0⟩:=d1 S0;simp only[Option.some.injEq,Addr.mk.injEq,and_true]at e1;obtain⟨rfl,rfl⟩:=e1;obtain⟨x,hx⟩:=nmE (ws.getD 0 []);have M0:0<ws.length:=List.length_pos_iff.2 S0;have N0:wr.cell? ⟨b,off,none⟩=some (.string ⟨x.toArray⟩):=by
    rw[b0.cell (p:=⟨b,off,none⟩) l1,hx];have:=j0 0 M0;simpa [strV] using this
   have HX:=Zz hx;have D0:=Zz K0;have E0:=Zz J0;have t0:Hid (Fl.isRule ws k=(x==wd && Fl.fitAll sh (ws.drop 1))):=(by show _=_;rw[hx,I0,C0];rfl);have F0:Hid ((∀c∈sh,c=110\/c=97\/c=111)/\sh.length<=4):=(by show _/\_;rw[C0];exact ypz k i0);have x1:(k:Int)<12:=(by omega);clear hc Y0 Z0 a1 b1 I0 C0 J0 K0 hx j0 X0 d1 k1
   go_wp2_with (refine Jm rfl _ _ 192 rfl wr _ #[.string ⟨wd.toArray⟩,.string ⟨sh.toArray⟩,.bool ah,.func (.func fn) #[] #[]] rfl rfl Tryz.infoLineRule (by rfl) (lrOne _ _ _ _) ?_)
   obtain⟨W1,e0⟩:=nmE (wr.alloc (.cells #[.string ⟨wd.toArray⟩,.string ⟨sh.toArray⟩,.bool ah,.func (.func fn) #[] #[]] 192));obtain⟨rb,k0⟩:=nmE (wr.heap.size);rw[<-e0,<-k0];have f1:Below w.heap.size w W1:=(by rw[e0];exact b0.alloc j1 _);have r0:W1.cell? ⟨rb,0,none⟩=some (.string ⟨wd.toArray⟩):=(by rw[e0,k0];exact World.cell?_alloc_new _ _ _ _);have r1:W1.cell? ⟨rb,1,none⟩=some (.string ⟨sh.toArray⟩):=(by rw[e0,k0];exact World.cell?_alloc_new _ _ _ _);have r2:W1.cell? ⟨rb,2,none⟩=some (.bool ah):=(by rw[e0,k0];exact World.cell?_alloc_new _ _ _ _);have r3:W1.cell? ⟨rb,3,none⟩=some (.func (.func fn) #[] #[]):=(by rw[e0,k0];exact World.cell?_alloc_new _ _ _ _);have g1:W1.cell? ⟨b,off,none⟩=some (.string ⟨x.toArray⟩):=(by rw[e0];exact(Qf _ _ _ (Qe wr _ N0)).trans N0);have u0:=Zz f1;have y1:w.heap.size<W1.heap.size:=(by rw[e0];simp;omega);have G0:rb<W1.heap.size:=(by rw[e0,k0];simp);clear q0 q1 q2 q3 N0 e0 k0 b0 f1;unfold maxLen at L0
   cases O0:x==wd with
   |false=>
    have v0:Hid (∀j,j<k+1->Fl.isRule ws j=false):=λj hj=>by
     by_cases x0:j=k
     ·subst x0;rw[t0.out,O0];rfl
     exact B0.out j (by omega)
    refine Ur 11 6 _ 6 _ (by kernel_rfl) (by kernel_rfl) rfl rfl (λops hY h1=>?_);simp only[List.take_succ_cons,List.take_zero,List.drop_succ_cons,List.drop_zero]
    iterate 11 still_step
    refine wpStill_nil ?_;go_wp2
    go_roundw
    case rel=>exact⟨k+1,by omega,by go_num,u0.out.drew,v0.out⟩
    case measure=>simp[intOf];omega
   |true=>
    have m1:(1:Int)<=(ws.length:Int):=(by omega);have n1:(ws.length:Int)<=(cap:Int):=(by omega)
    by_cases y0:cap=1
    ·subst y0
     refine Ur 11 6 _ 6 _ (by kernel_rfl) (by kernel_rfl) rfl rfl (λops hY h1=>?_);simp only[List.take_succ_cons,List.take_zero,List.drop_succ_cons,List.drop_zero]
     iterate 11 still_step
     refine wpStill_nil ?_
     go_wp2_with fail
     have l0:∀W,Below w.heap.size w W->Zg w.heap.size W (.slice (some ⟨b,off,none⟩) 0 0) (ws.drop 1):=λW hW=>by
      have:ws.drop 1=[]:=List.drop_eq_nil_of_le (by omega);rw[this];exact⟨_,_,rfl,by simp,by simp[maxLen],by simp,by simp,λh=>absurd rfl h⟩
     have P0:=Zz l0;have HF:=zb4 w.heap.size sh (.slice (some ⟨b,off,none⟩) 0 0) (ws.drop 1) W1.drew (l0 _ u0.out.drew) (by simp;omega) F0.out.1 F0.out.2;clear l0;refine HF.mono ?_;clear HF;rintro e W2 ⟨rfl,c0⟩;have d0:Hid (Below w.heap.size w W2):=u0.out.drew.trans (c0.mono (by simp;omega));have s2:W2.cell? ⟨rb,2,none⟩=some (.bool ah):=(c0.cell (p:=⟨rb,2,none⟩) (by simpa using G0)).trans r2;have s3:W2.cell? ⟨rb,3,none⟩=some (.func (.func fn) #[] #[]):=(c0.cell (p:=⟨rb,3,none⟩) (by simpa using G0)).trans r3;have t2:W2.cell? ⟨R,2,none⟩=some (.bool begun):=(d0.out.cell (p:=⟨R,2,none⟩) s0).trans V0.out;have t1:W2.cell? ⟨R,1,none⟩=some (.int .i64 line):=(d0.out.cell (p:=⟨R,1,none⟩) s0).trans HL.out;have o1:w.heap.size<W2.heap.size:=(by have:=c0.size;simp at this;omega);clear c0 r0 r1 r2 r3 g1
     cases a0:Fl.fitAll sh (ws.drop 1) with
     |false=>
      have v0:Hid (∀j,j<k+1->Fl.isRule ws j=false):=λj hj=>by
       by_cases x0:j=k
       ·subst x0;rw[t0.out,a0];simp
       exact B0.out j (by omega)
      clear a0 s2 s3 t1 t2;go_wp2
      go_roundw
      case rel=>exact⟨k+1,by omega,by go_num,d0.out,v0.out⟩
      case measure=>simp[intOf];omega
     |true=>
      have z0:Hid (Fl.isRule ws k=true):=(by show _=_;rw[t0.out,O0,a0];rfl);clear a0
      by_cases m0:ah=begun
      ·subst m0
       have f0:Hid (Calls prog 67 #[.pointer (some ⟨R,0,none⟩),.bool false,.int .i64 3] W2.drew λe w'=>e=.panicked (Zf 3 line)/\Below W2.drew.heap.size W2.drew w'):=Yg R 3 line W2.drew t1;have b9:(ah !=ah)=false:=(by simp)
       go_wp2_with fail
       go_still_tail 8,(by kernel_rfl)
       go_wp2_with fail
       refine f0.out.mono ?_;rintro e W3 ⟨rfl,Q0⟩;exact⟨rfl,.inr ⟨_,_,rfl,W0.out k i0 z0.out E0.out.symm W3 (d0.out.drew.trans (Q0.mono (by simp;omega)))⟩⟩
      have b9:(ah==begun)=false:=beq_eq_false_iff_ne.2 m0;have f0:Hid (Calls prog 67 #[.pointer (some ⟨R,0,none⟩),.bool true,.int .i64 3] W2.drew λe w'=>e=.returned (.tuple #[])/\w'=W2.drew):=Xk R 3 W2.drew;have p1:∀args W,(callFunc fn args).run prog W=.ok (.enter fn args) W:=(by rw[D0.out];exact zj6 k i0)
      go_wp2_with fail
      go_still_tail 8,(by kernel_rfl)
      go_wp2_with fail
      refine f0.out.mono ?_;rintro e W3 ⟨rfl,n0⟩;have u3:W3.cell? ⟨rb,3,none⟩=some (.func (.func fn) #[] #[]):=(by rw[n0];exact s3);have A0:Hid (Below w.heap.size w W3):=(by rw[n0];exact d0.out.drew);clear n0 s2 s3 t1 t2 f0
      go_wp2_with fail
      go_still_tail 5,(by kernel_rfl)
      go_wp2_with fail
      have o0:=h0.out k i0 z0.out (by rw[<-E0.out];exact m0) W3.drew (.slice (some ⟨b,off,none⟩) 0 0) A0.out.drew (P0.out _ A0.out.drew) rfl;rw[<-D0.out]at o0;refine o0.mono ?_;clear o0;rintro e W4 (⟨rfl,hG⟩|⟨n,p,rfl,hR⟩)
      ·have HG:=Zz hG
       clear hG;go_wp2
       (try simp only[Exit.inBlock,Exit.then])
       refine bodyPost_ret (results_none rfl _ _ _) rfl ?_;exact .inl ⟨rfl,HG.out⟩
      exact⟨rfl,.inr ⟨_,_,rfl,hR⟩⟩
    skip
    refine Ur 11 6 _ 6 _ (by kernel_rfl) (by kernel_rfl) rfl rfl (λops hY h1=>?_);simp only[List.take_succ_cons,List.take_zero,List.drop_succ_cons,List.drop_zero]
    iterate 11 still_step
    refine wpStill_nil ?_
    go_wp2_with fail
    have l0:∀W,Below w.heap.size w W->Zg w.heap.size W (.slice (some ⟨b,off+1,none⟩) (ws.length - 1) (cap - 1)) (ws.drop 1):=λW hW=>by
     exact(HW.out.below hW).drop 1 (by omega)
    have P0:=Zz l0;have HF:=zb4 w.heap.size sh (.slice (some ⟨b,off+1,none⟩) (ws.length - 1) (cap - 1)) (ws.drop 1) W1.drew (l0 _ u0.out.drew) (by simp;omega) F0.out.1 F0.out.2;clear l0;refine HF.mono ?_;clear HF;rintro e W2 ⟨rfl,c0⟩;have d0:Hid (Below w.heap.size w W2):=u0.out.drew.trans (c0.mono (by simp;omega));have s2:W2.cell? ⟨rb,2,none⟩=some (.bool ah):=(c0.cell (p:=⟨rb,2,none⟩) (by simpa using G0)).trans r2;have s3:W2.cell? ⟨rb,3,none⟩=some (.func (.func fn) #[] #[]):=(c0.cell (p:=⟨rb,3,none⟩) (by simpa using G0)).trans r3;have t2:W2.cell? ⟨R,2,none⟩=some (.bool begun):=(d0.out.cell (p:=⟨R,2,none⟩) s0).trans V0.out;have t1:W2.cell? ⟨R,1,none⟩=some (.int .i64 line):=(d0.out.cell (p:=⟨R,1,none⟩) s0).trans HL.out;have o1:w.heap.size<W2.heap.size:=(by have:=c0.size;simp at this;omega);clear c0 r0 r1 r2 r3 g1
    cases a0:Fl.fitAll sh (ws.drop 1) with
    |false=>
     have v0:Hid (∀j,j<k+1->Fl.isRule ws j=false):=λj hj=>by
      by_cases x0:j=k
      ·subst x0;rw[t0.out,a0];simp
      exact B0.out j (by omega)
     clear a0 s2 s3 t1 t2;go_wp2
     go_roundw
     case rel=>exact⟨k+1,by omega,by go_num,d0.out,v0.out⟩
     case measure=>simp[intOf];omega
    |true=>
     have z0:Hid (Fl.isRule ws k=true):=(by show _=_;rw[t0.out,O0,a0];rfl);clear a0
     by_cases m0:ah=begun
     ·subst m0
      have f0:Hid (Calls prog 67 #[.pointer (some ⟨R,0,none⟩),.bool false,.int .i64 3] W2.drew λe w'=>e=.panicked (Zf 3 line)/\Below W2.drew.heap.size W2.drew w'):=Yg R 3 line W2.drew t1;have b9:(ah !=ah)=false:=(by simp)
      go_wp2_with fail
      go_still_tail 8,(by kernel_rfl)
      go_wp2_with fail
      refine f0.out.mono ?_;rintro e W3 ⟨rfl,Q0⟩;exact⟨rfl,.inr ⟨_,_,rfl,W0.out k i0 z0.out E0.out.symm W3 (d0.out.drew.trans (Q0.mono (by simp;omega)))⟩⟩
     have b9:(ah==begun)=false:=beq_eq_false_iff_ne.2 m0;have f0:Hid (Calls prog 67 #[.pointer (some ⟨R,0,none⟩),.bool true,.int .i64 3] W2.drew λe w'=>e=.returned (.tuple #[])/\w'=W2.drew):=Xk R 3 W2.drew;have p1:∀args W,(callFunc fn args).run prog W=.ok (.enter fn args) W:=(by rw[D0.out];exact zj6 k i0)
     go_wp2_with fail
     go_still_tail 8,(by kernel_rfl)
     go_wp2_with fail
     refine f0.out.mono ?_;rintro e W3 ⟨rfl,n0⟩;have u3:W3.cell? ⟨rb,3,none⟩=some (.func (.func fn) #[] #[]):=(by rw[n0];exact s3);have A0:Hid (Below w.heap.size w W3):=(by rw[n0];exact d0.out.drew);clear n0 s2 s3 t1 t2 f0
     go_wp2_with fail
     go_still_tail 5,(by kernel_rfl)
     go_wp2_with fail
     have o0:=h0.out k i0 z0.out (by rw[<-E0.out];exact m0) W3.drew (.slice (some ⟨b,off+1,none⟩) (ws.length - 1) (cap - 1)) A0.out.drew (P0.out _ A0.out.drew) rfl;rw[<-D0.out]at o0;refine o0.mono ?_;clear o0;rintro e W4 (⟨rfl,hG⟩|⟨n,p,rfl,hR⟩)
     ·have HG:=Zz hG
      clear hG;go_wp2
      (try simp only[Exit.inBlock,Exit.then])
      refine bodyPost_ret (results_none rfl _ _ _) rfl ?_;exact .inl ⟨rfl,HG.out⟩
     exact⟨rfl,.inr ⟨_,_,rfl,hR⟩⟩
  obtain rfl:k=12:=by omega
  have s1:Hid (∀W,Below w.heap.size w W->Calls prog 67 #[.pointer (some ⟨R,0,none⟩),.bool false,.int .i64 2] W λe w'=>e=.panicked (Zf 2 line)/\Below W.heap.size W w'):=λW hW=>Yg R 2 line W ((hW.cell (p:=⟨R,1,none⟩) s0).trans HL.out);clear b0
  go_wp2_with fail
  refine(s1.out _ HB.out).mono ?_;rintro e w2 ⟨rfl,c0⟩;exact⟨rfl,.inr ⟨_,_,rfl,H0.out B0.out w2 (HB.out.trans (c0.mono (by omega)))⟩⟩
open Go.Maps Go.WideMaps
namespace Fl
def placeFrom_shift(w:List UInt8):∀(l:List (List UInt8)) (i:Nat),placeFrom i w l=if placeFrom 0 w l<0 then -1 else(i:Int)+placeFrom 0 w l
 |[],i=>by simp[placeFrom]
 |x::r,i=>by
  simp only[placeFrom]
  by_cases hx:(x==w)=true
  ·simp only[hx,if_true];simp
  simp only[show (x==w)=false by simpa using hx,Bool.false_eq_true,if_false];rw[placeFrom_shift w r (i+1),placeFrom_shift w r (0+1)]
  by_cases h:placeFrom 0 w r<0
  ·simp[h]
  simp only[h,if_false];rw[if_neg (by omega)];omega
def place_cases(l:List (List UInt8))(w:List UInt8):place l w= -1\/(0<=place l w/\place l w<l.length):=by
 unfold place
 induction l with
 |nil=>left;rfl
 |cons x r ih=>
  simp only[placeFrom,List.length_cons]
  by_cases hx:(x==w)=true
  ·right;simp only[hx,if_true];omega
  simp only[show (x==w)=false by simpa using hx,Bool.false_eq_true,if_false];rw[placeFrom_shift];rcases ih with h|h
  ·left;rw[h];rfl
  right;rw[if_neg (by omega)];omega
def place_append(a b:List (List UInt8))(w:List UInt8):place (a++b) w=if 0<=place a w then place a w else if 0<=place b w then(a.length:Int)+place b w else -1:=by
 induction a with
 |nil=>
  rcases place_cases b w with h|h
  ·simp[place,placeFrom]at h⊢;rw[h];simp
  have:¬(0<=place ([]:List (List UInt8)) w):=by simp[place,placeFrom]
  simp only[List.nil_append,this,if_false,h.1,if_true,List.length_nil];omega
 |cons x r ih=>
  unfold place at ih⊢;simp only[List.cons_append,placeFrom,List.length_cons]
  by_cases hx:(x==w)=true
  ·simp[hx]
  simp only[show (x==w)=false by simpa using hx,Bool.false_eq_true,if_false];rw[placeFrom_shift w (r++b),placeFrom_shift w r (0+1),ih];have h1:=place_cases r w;have h2:=place_cases b w;unfold place at h1 h2;rcases h1 with h1|h1
  ·rw[h1];simp only[show ¬(0:Int)<= -1 by omega,if_false]
   rcases h2 with h2|h2
   ·rw[h2];simp
   simp only[h2.1,if_true];rw[if_neg (by omega)];simp only[show (-1:Int)<0 by omega,if_true,show ¬(0:Int)<= -1 by omega,if_false];push_cast;omega
  simp only[h1.1,if_true];rw[if_neg (by omega),if_pos (by omega)]
def place_snoc_same(a:List (List UInt8))(w:List UInt8)(h:place a w<0):place (a++[w]) w=a.length:=by
 rw[place_append,if_neg (by omega)]
 have:place [w] w=0:=by simp[place,placeFrom]
 rw[this];simp
def place_snoc_other(a:List (List UInt8))(w x:List UInt8)(h:x≠w):place (a++[w]) x=place a x:=by
 rw[place_append]
 have:place [w] x= -1:=by simp[place,placeFrom,Ne.symm h]
 rw[this];rcases place_cases a x with h1|h1
 ·rw[h1];simp
 simp[h1.1]
end Fl
def Yu(w:World)(b:Nat)(names:List (List UInt8)):Prop:=
 ∃n D,w.ownsMap (H:=Unit) prog 9 (plainElem prog 3) b n D/\n<=names.length/\Maps.size D=names.length/\Tidy D/\IsMap D/\
  ∀x,Maps.has D (.string x)=decide (0<=Fl.place names x)/\D.atKey (.string x) (.lit (.int .i64 0))=.lit (.int .i64 (max 0 (Fl.place names x)))
def zo2:Keyed prog 9:=string_keyed underlying9
def yk1(w:World):(zeroValue 3).run prog w=.ok (.int .i64 0) w:=by kernel_rfl
def ypy(x:List UInt8)(h:x.length<=100000):keyOf prog 9 (.string ⟨x.toArray⟩)=some (.string x):=by
 have:=keyOf_string_mk (P:=prog) underlying9 (s:=⟨x.toArray⟩) (by show x.toArray.size<=_;simp[maxLen];omega);simpa using this
def Yu.kept{w w':World}{b:Nat}{names:List (List UInt8)}(h:Yu w b names){row:Option Nat}(g:w.grownBy w' row)(hb:some b≠row):Yu w' b names:=by
 obtain⟨n,D,h1,h2⟩:=h;exact⟨n,D,h1.kept g hb,h2⟩
def Yu.block{w w':World}{b:Nat}{names:List (List UInt8)}(h:Yu w b names)(hb:w'.heap[b]?=w.heap[b]?):Yu w' b names:=by
 obtain⟨n,D,⟨es,clock,h1,h1'⟩,h2⟩:=h;exact⟨n,D,⟨es,clock,by rw[hb];exact h1,h1'⟩,h2⟩
def Yu.lt{w:World}{b:Nat}{names:List (List UInt8)}(h:Yu w b names):b<w.heap.size:=by
 obtain⟨n,D,h1,h2⟩:=h;exact h1.lt
def Yu.made(w:World):Yu (w.alloc (.map #[] 0)) w.heap.size []:=
 ⟨0,.map [],World.ownsMap_made w _ _ _,Nat.le_refl _,rfl,(World.ownsMap_made (H:=Unit) w prog 9 (plainElem prog 3)).tidy zo2,(World.ownsMap_made (H:=Unit) w prog 9 (plainElem prog 3)).isMap,λx=>⟨by simp[Maps.has,Fl.place,Fl.placeFrom],by simp[DataW.atKey,Fl.place,Fl.placeFrom];decide⟩⟩
def Yu.look{w:World}{b:Nat}{names:List (List UInt8)}(h:Yu w b names)(x:List UInt8)(hx:x.length<=100000):
  (Instr.lookup 114 (.map (some b)) (.string ⟨x.toArray⟩) true).run prog w=.ok (.tuple #[.int .i64 (max 0 (Fl.place names x)),.bool (decide (0<=Fl.place names x))]) w:=by
 obtain⟨n,D,h1,h2,h3,h4,h5,h6⟩:=h;obtain⟨v,ps,hr,hv⟩:=h1.look_ok zo2 underlying114 (yk1 w) (zd:=.lit (.int .i64 0)) (zp:=[]) (plainElem_int underlying3 (by decide)) (ypy x hx);obtain⟨c,rfl,hc,_⟩:=plainElem_int_inv underlying3 hv;rw[(h6 x).2]at hc;rw[hr,(h6 x).1];simp only[Prod.mk.injEq,DataW.lit.injEq,Lit.int.injEq,true_and]at hc;rw[hc.1]
def Yu.look2{w:World}{b:Nat}{names:List (List UInt8)}(h:Yu w b names)(x:List UInt8)(hx:x.length<=100000):
  ∃(mx:Int) (tb:Bool),(Instr.lookup 114 (.map (some b)) (.string ⟨x.toArray⟩) true).run prog w=.ok (.tuple #[.int .i64 mx,.bool tb]) w/\tb=decide (0<=Fl.place names x)/\mx=max 0 (Fl.place names x):=⟨_,_,h.look x hx,rfl,rfl⟩
def Yu.len{w:World}{b:Nat}{names:List (List UInt8)}(h:Yu w b names)(ty:TypeId):(Builtin.len_ #[114] ty #[.map (some b)]).run prog w=.ok (.int .i64 names.length) w:=by
 obtain⟨n,D,h1,h2,h3,h4⟩:=h;rw[h1.len underlying114 ty,h3]
def Yu.put{w:World}{b:Nat}{names:List (List UInt8)}(h:Yu w b names)(x:List UInt8)(hx:x.length<=100000)(hno:Fl.place names x<0)(hn:names.length<=100):
  ∃w',(Instr.mapUpdate 114 (.map (some b)) (.string ⟨x.toArray⟩) (.int .i64 names.length)).run prog w=.ok () w'/\Yu w' b (names++[x])/\w.grownBy w' (some b):=by
 obtain⟨n,D,h1,h2,h3,h4,h5,h6⟩:=h;obtain⟨w',hr,ho,ht⟩:=h1.store zo2 underlying114 (by unfold maxLen;omega) (ypy x hx) (plainElem_int underlying3 (show (Lit.int .i64 (names.length:Int)).wf=true from WalkArith.wf_i64 (by omega)));refine⟨w',hr,⟨n+1,_,ho,by simp;omega,?_,ho.tidy zo2,ho.isMap,λy=>?_⟩,ht.grown⟩
 ·rw[size_put h4,(h6 x).1,h3];simp[hno]
 by_cases hy:y=x
 ·subst hy
  rw[has_put_same h5 (by simp[WideAt.IsKeyLit]),atKey_put_same h5 (by simp[WideAt.IsKeyLit]),Fl.place_snoc_same _ _ hno];simp
 have a0:(Lit.string y)≠ .string x:=by simpa using hy
 rw[has_put_other a0,atKey_put_other a0,Fl.place_snoc_other _ _ _ hy];exact h6 y
end Go.Proofs.YtaaejabalinojaaGreatDoor
