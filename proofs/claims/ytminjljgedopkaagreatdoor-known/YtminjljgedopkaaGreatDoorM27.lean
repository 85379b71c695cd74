import Derived.Test.YtminjljgedopkaaGreatDoorM25
import Derived.Test.YtminjljgedopkaaGreatDoorM26
set_option linter.all false
set_option maxRecDepth 100000
set_option maxHeartbeats 40000000
namespace Go.Proofs.YtminjljgedopkaaGreatDoor
open Go.RowKit Go.Proofs.Tryz
def zc8:∀(l:List (Nat×Nat)) (k:Nat),k<l.length->(Xn l)[k*2]?=some (.int .i64 (l.getD k (0,0)).1)/\(Xn l)[k*2+1]?=some (.int .u32 (l.getD k (0,0)).2)
 |[],k,h=>by simp at h
 |p::l,0,_=>⟨rfl,rfl⟩
 |p::l,k+1,h=>by
  have ih:=zc8 l k (by simpa using h);have e:Xn (p::l)=.int .i64 p.1:: .int .u32 p.2::Xn l:=rfl;rw[e,show (k+1)*2=k*2+1+1 by omega];simp only[List.getElem?_cons_succ];exact ih
def ywx{w:World}{base:Nat}{sa:Option Addr}{sn sc:Nat}{l:List (Nat×Nat)}(h:w.ownsRow base 60 2 (.slice sa sn sc) l.length (Xn l)){k:Nat}(hk:k<l.length):
  ∃g,sa=some ⟨g,0,none⟩/\g<w.heap.size/\w.cell? ⟨g,k*2,none⟩=some (.int .i64 (l.getD k (0,0)).1)/\w.cell? ⟨g,k*2+1,none⟩=some (.int .u32 (l.getD k (0,0)).2):=by
 rcases h.2 with⟨e,h0⟩|⟨g,cap,cur,e,hb,hg,h3,h4,h5,h6⟩
 ·omega
 ·injection e with e1 e2
  have h7:∀j,j<l.length*2->cur[j]?=(Xn l)[j]?:=λj hj=>by rw[<-h6,List.getElem?_take_of_lt hj,Array.getElem?_toList]
  obtain⟨a1,a2⟩:=zc8 l k hk;refine⟨g,e1,?_,?_,?_⟩
  ·refine Classical.byContradiction λhn=>?_
   rw[Array.getElem?_eq_none (by omega)]at hg;cases hg
  ·rw[cell_of_row _ _ (k*2) _ _ (0,0) hg,h7 _ (by omega),a1]
  ·rw[cell_of_row _ _ (k*2+1) _ _ (0,0) hg,h7 _ (by omega),a2]
def yqx{w:World}{base:Nat}{sa:Option Addr}{sn sc:Nat}{l:List (Nat×Nat)}(h:w.ownsRow base 60 2 (.slice sa sn sc) l.length (Xn l)):sn=l.length:=by
 rcases h.2 with⟨e,h0⟩|⟨g,cap,cur,e,-⟩
 ·injection e with e1 e2
  omega
 ·injection e with e1 e2
def row_u32{w:World}{Lb n:Nat}{vs:List Nat}(h:w.heap[Lb]?=some (.cells (Xm (vs.take n)).toArray 58 (0,0)))(hl:(vs.take n).length=n){k:Nat}(hk:k<n):w.cell? ⟨Lb,k,none⟩=some (.int .u32 ((vs.take n).getD k 0)):=by
 rw[cell_of_row _ _ k _ _ (0,0) h,List.getElem?_toArray];exact zz6 _ k (by omega)
def u32_of_own{base:Nat}{w:World}{v:Value}{xs:List Nat}(h:w.ownsRow base 58 1 v xs.length (Xm xs))(hb:∀x∈xs,x<4294967296):zu1 w v xs:=by
 rcases h.2 with⟨h1,h2⟩|⟨g,cap,cur,h1,hb',hg,hc,hm,hs,ht⟩
 ·exact⟨none,0,by rw[h1,h2],by omega,by unfold maxLen;omega,hb,λhne=>absurd (List.eq_nil_of_length_eq_zero h2) hne⟩
 ·refine⟨_,cap,h1,hc,hm,hb,λ_=>⟨g,0,rfl,(h.lt g (by rw[h1];rfl)).2,λi hi=>?_⟩⟩
  have h5:=h.cells (g:=g) (by rw[h1];rfl) i _ (zz6 xs i hi)
  have h6:(⟨g,0,none⟩:Addr).add i=⟨g,0+i,none⟩:=by unfold Addr.add;split<;>simp_all
  rw[h6]at h5;exact h5
end Go.Proofs.YtminjljgedopkaaGreatDoor
