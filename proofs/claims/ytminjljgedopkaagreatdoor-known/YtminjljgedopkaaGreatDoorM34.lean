import Derived.Test.YtminjljgedopkaaGreatDoorM33
set_option linter.all false
set_option maxRecDepth 100000
set_option maxHeartbeats 40000000
namespace Go.Proofs.YtminjljgedopkaaGreatDoor
open Go.RowKit Go.Proofs.Tryz
structure Ur(W:World)(rb j:Nat)(t:List UInt8)(cs:List Nat)(f:Int)(F:Nat)(es:List Nat)(sent:List (Nat×Nat))(d:Bool)(cb eb:Nat)(sa:Option Addr)(sn:Nat):Prop where
 c0:W.cell? ⟨rb,j*6,none⟩=some (.string ⟨t.toArray⟩)
 c1:W.cell? ⟨rb,j*6+1,none⟩=some (.slice (some ⟨cb,0,none⟩) 2 2)
 c2:W.cell? ⟨rb,j*6+2,none⟩=some (.int .i64 f)
 c3:W.cell? ⟨rb,j*6+3,none⟩=some (.slice (some ⟨eb,0,none⟩) 2 2)
 c4:W.cell? ⟨rb,j*6+4,none⟩=some (.slice sa sn sn)
 c5:W.cell? ⟨rb,j*6+5,none⟩=some (.bool d)
 u0:W.cell? ⟨cb,0,none⟩=some (.int .u32 (cs.getD 0 0))
 u1:W.cell? ⟨cb,1,none⟩=some (.int .u32 (cs.getD 1 0))
 e0:W.cell? ⟨eb,0,none⟩=some (.int .u32 (es.getD 0 0))
 e1:W.cell? ⟨eb,1,none⟩=some (.int .u32 (es.getD 1 0))
 se:∀i,i<sn->∃g,sa=some ⟨g,0,none⟩/\W.cell? ⟨g,i*2,none⟩=some (.int .i64 (sent.getD i (0,0)).1)/\W.cell? ⟨g,i*2+1,none⟩=some (.int .u32 (sent.getD i (0,0)).2)
 sl:sn=sent.length
 cl:cs.length=2/\∀x∈cs,x<4294967296
 tl:t.length<=1000
 el:es.length=2
 sb:sent.length<=3
 fl:(F:Int)=min (max f 0) 2000
 q0:(Fl.readProg t).1=0
 qc:(Fl.readProg t).2.2.cells.length=2
 rv:((Fl.readProg t).2.2.run cs F).2.vars.take 2=es
 rs:((Fl.readProg t).2.2.run cs F).2.sent=sent
 rd:((Fl.readProg t).2.2.run cs F).1=d
def Zj(w:World)(k:Nat)(v:Value)(h:(zk7 w.heap.size).toArray[k]?=some v):(Us w).cell? ⟨w.heap.size+13,k,none⟩=some v:=(cell_of_row _ _ k _ _ (0,0) (yp4 w)).trans h
def Za(w:World)(i k:Nat)(hi:i<13)(cs:Array Value)(t:TypeId)(ho:zty[i]?=some (.cells cs t (0,0)))(v:Value)(h:cs[k]?=some v):(Us w).cell? ⟨w.heap.size+i,k,none⟩=some v:=(cell_of_row _ _ k _ _ (0,0) ((yp3 w hi).trans ho)).trans h
def runRow0(w:World):Ur (Us w) (w.heap.size+13) 0 Fl.rt0 [4294967295,3] 9 9 [4294967295,0] [(1,0)] true (w.heap.size+0) (w.heap.size+1) (some ⟨w.heap.size+2,0,none⟩) 1 where
 c0:=Zj w _ _ rfl
 c1:=Zj w _ _ rfl
 c2:=Zj w _ _ rfl
 c3:=Zj w _ _ rfl
 c4:=Zj w _ _ rfl
 c5:=Zj w _ _ rfl
 u0:=Za w 0 0 (by omega) _ _ rfl _ rfl
 u1:=Za w 0 1 (by omega) _ _ rfl _ rfl
 e0:=Za w 1 0 (by omega) _ _ rfl _ rfl
 e1:=Za w 1 1 (by omega) _ _ rfl _ rfl
 se:=λi hi=>by
  obtain rfl:i=0:=by omega
  exact⟨_,rfl,Za w 2 0 (by omega) _ _ rfl _ rfl,Za w 2 1 (by omega) _ _ rfl _ rfl⟩
 sl:=rfl
 cl:=⟨rfl,by decide⟩
 tl:=by decide
 el:=rfl
 sb:=by decide
 fl:=by decide
 q0:=by kernel_rfl
 qc:=by kernel_rfl
 rv:=by kernel_rfl
 rs:=by kernel_rfl
 rd:=by kernel_rfl
def runRow1(w:World):Ur (Us w) (w.heap.size+13) 1 Fl.rt1 [2,0] 99 99 [0,0] [(0,2),(0,1),(1,7)] true (w.heap.size+3) (w.heap.size+4) (some ⟨w.heap.size+5,0,none⟩) 3 where
 c0:=Zj w _ _ rfl
 c1:=Zj w _ _ rfl
 c2:=Zj w _ _ rfl
 c3:=Zj w _ _ rfl
 c4:=Zj w _ _ rfl
 c5:=Zj w _ _ rfl
 u0:=Za w 3 0 (by omega) _ _ rfl _ rfl
 u1:=Za w 3 1 (by omega) _ _ rfl _ rfl
 e0:=Za w 4 0 (by omega) _ _ rfl _ rfl
 e1:=Za w 4 1 (by omega) _ _ rfl _ rfl
 se:=λi hi=>by
  rcases(show i=0\/i=1\/i=2 by omega) with rfl|rfl|rfl
  ·exact⟨_,rfl,Za w 5 0 (by omega) _ _ rfl _ rfl,Za w 5 1 (by omega) _ _ rfl _ rfl⟩
  ·exact⟨_,rfl,Za w 5 2 (by omega) _ _ rfl _ rfl,Za w 5 3 (by omega) _ _ rfl _ rfl⟩
  ·exact⟨_,rfl,Za w 5 4 (by omega) _ _ rfl _ rfl,Za w 5 5 (by omega) _ _ rfl _ rfl⟩
 sl:=rfl
 cl:=⟨rfl,by decide⟩
 tl:=by decide
 el:=rfl
 sb:=by decide
 fl:=by decide
 q0:=by kernel_rfl
 qc:=by kernel_rfl
 rv:=by kernel_rfl
 rs:=by kernel_rfl
 rd:=by kernel_rfl
def runRow2(w:World):Ur (Us w) (w.heap.size+13) 2 Fl.rt1 [2,0] 4 4 [1,0] [(0,2)] false (w.heap.size+6) (w.heap.size+7) (some ⟨w.heap.size+8,0,none⟩) 1 where
 c0:=Zj w _ _ rfl
 c1:=Zj w _ _ rfl
 c2:=Zj w _ _ rfl
 c3:=Zj w _ _ rfl
 c4:=Zj w _ _ rfl
 c5:=Zj w _ _ rfl
 u0:=Za w 6 0 (by omega) _ _ rfl _ rfl
 u1:=Za w 6 1 (by omega) _ _ rfl _ rfl
 e0:=Za w 7 0 (by omega) _ _ rfl _ rfl
 e1:=Za w 7 1 (by omega) _ _ rfl _ rfl
 se:=λi hi=>by
  obtain rfl:i=0:=by omega
  exact⟨_,rfl,Za w 8 0 (by omega) _ _ rfl _ rfl,Za w 8 1 (by omega) _ _ rfl _ rfl⟩
 sl:=rfl
 cl:=⟨rfl,by decide⟩
 tl:=by decide
 el:=rfl
 sb:=by decide
 fl:=by decide
 q0:=by kernel_rfl
 qc:=by kernel_rfl
 rv:=by kernel_rfl
 rs:=by kernel_rfl
 rd:=by kernel_rfl
def runRow4(w:World):Ur (Us w) (w.heap.size+13) 4 Fl.rt4 [3,3] 99 99 [3,1] [] true (w.heap.size+9) (w.heap.size+10) none 0 where
 c0:=Zj w _ _ rfl
 c1:=Zj w _ _ rfl
 c2:=Zj w _ _ rfl
 c3:=Zj w _ _ rfl
 c4:=Zj w _ _ rfl
 c5:=Zj w _ _ rfl
 u0:=Za w 9 0 (by omega) _ _ rfl _ rfl
 u1:=Za w 9 1 (by omega) _ _ rfl _ rfl
 e0:=Za w 10 0 (by omega) _ _ rfl _ rfl
 e1:=Za w 10 1 (by omega) _ _ rfl _ rfl
 se:=λi hi=>by omega
 sl:=rfl
 cl:=⟨rfl,by decide⟩
 tl:=by decide
 el:=rfl
 sb:=by decide
 fl:=by decide
 q0:=by kernel_rfl
 qc:=by kernel_rfl
 rv:=by kernel_rfl
 rs:=by kernel_rfl
 rd:=by kernel_rfl
def runRow5(w:World):Ur (Us w) (w.heap.size+13) 5 Fl.rt5 [1,2] 5000 2000 [1,2] [] false (w.heap.size+11) (w.heap.size+12) none 0 where
 c0:=Zj w _ _ rfl
 c1:=Zj w _ _ rfl
 c2:=Zj w _ _ rfl
 c3:=Zj w _ _ rfl
 c4:=Zj w _ _ rfl
 c5:=Zj w _ _ rfl
 u0:=Za w 11 0 (by omega) _ _ rfl _ rfl
 u1:=Za w 11 1 (by omega) _ _ rfl _ rfl
 e0:=Za w 12 0 (by omega) _ _ rfl _ rfl
 e1:=Za w 12 1 (by omega) _ _ rfl _ rfl
 se:=λi hi=>by omega
 sl:=rfl
 cl:=⟨rfl,by decide⟩
 tl:=by decide
 el:=rfl
 sb:=by decide
 fl:=by decide
 q0:=by kernel_rfl
 qc:=by kernel_rfl
 rv:=by kernel_rfl
 rs:=by kernel_rfl
 rd:=by kernel_rfl
def ys8(w:World)(j:Nat)(hj:j<6)(h3:j≠3):∃t cs f F es sent d cb eb sa sn,Ur (Us w) (w.heap.size+13) j t cs f F es sent d cb eb sa sn:=by
 rcases(show j=0\/j=1\/j=2\/j=4\/j=5 by omega) with rfl|rfl|rfl|rfl|rfl
 ·exact⟨_,_,_,_,_,_,_,_,_,_,_,runRow0 w⟩
 ·exact⟨_,_,_,_,_,_,_,_,_,_,_,runRow1 w⟩
 ·exact⟨_,_,_,_,_,_,_,_,_,_,_,runRow2 w⟩
 ·exact⟨_,_,_,_,_,_,_,_,_,_,_,runRow4 w⟩
 ·exact⟨_,_,_,_,_,_,_,_,_,_,_,runRow5 w⟩
def Ur.below{W V:World}{rb j:Nat}{t:List UInt8}{cs:List Nat}{f:Int}{F:Nat}{es:List Nat}{sent:List (Nat×Nat)}{d:Bool}{cb eb:Nat}{sa:Option Addr}{sn:Nat}(h:Ur W rb j t cs f F es sent d cb eb sa sn)(hb:Below W.heap.size W V):Ur V rb j t cs f F es sent d cb eb sa sn:=by
 have q:∀(b k:Nat) (v:Value),W.cell? ⟨b,k,none⟩=some v->V.cell? ⟨b,k,none⟩=some v:=λb k v hv=>(hb.cell (p:=⟨b,k,none⟩) (World.block_lt_of_cell? W _ hv)).trans hv;exact{c0:=q _ _ _ h.c0,c1:=q _ _ _ h.c1,c2:=q _ _ _ h.c2,c3:=q _ _ _ h.c3,c4:=q _ _ _ h.c4,c5:=q _ _ _ h.c5,u0:=q _ _ _ h.u0,u1:=q _ _ _ h.u1,e0:=q _ _ _ h.e0,e1:=q _ _ _ h.e1,se:=λi hi=>(by obtain⟨g,a,b,c⟩:=h.se i hi;exact⟨g,a,q _ _ _ b,q _ _ _ c⟩),sl:=h.sl,cl:=h.cl,tl:=h.tl,el:=h.el,sb:=h.sb,fl:=h.fl,q0:=h.q0,qc:=h.qc,rv:=h.rv,rs:=h.rs,rd:=h.rd}
def Ur.u32{W:World}{rb j:Nat}{t:List UInt8}{cs:List Nat}{f:Int}{F:Nat}{es:List Nat}{sent:List (Nat×Nat)}{d:Bool}{cb eb:Nat}{sa:Option Addr}{sn:Nat}(h:Ur W rb j t cs f F es sent d cb eb sa sn):zu1 W (.slice (some ⟨cb,0,none⟩) 2 2) cs:=by
 have hl:=h.cl.1;refine⟨_,_,by rw[hl],by omega,by unfold maxLen;omega,h.cl.2,λ_=>⟨cb,0,rfl,World.block_lt_of_cell? W _ h.u0,λi hi=>?_⟩⟩;rcases(show i=0\/i=1 by omega) with rfl|rfl
 ·exact h.u0
 ·exact h.u1
end Go.Proofs.YtminjljgedopkaaGreatDoor
