import Derived.Test.YtjmcibbdedlcoaaGreatDoorM12
import Derived.Laws.EntriesVeiled
import Derived.Laws.MakeOwn
import Derived.Laws.Small
set_option linter.all false
set_option maxRecDepth 100000
set_option maxHeartbeats 40000000
namespace Go.Proofs.YtjmcibbdedlcoaaGreatDoor
open Go.Proofs.Tryz List World Region Value Act Fl
variable{lo base Mb Vb Ob nc f k n Lb:Nat}{w0 w w' W3:World}{sv v cv:Value}{l cs:List Nat}{S:Nat->Prop}{P:Program}{Q:Exit->Act->World->Prop}{ops:Array Oper}{o:Oper}{a:Act}{b c:Int}
namespace Fl
def dM:∀(n:Nat) (l:List aa) (m:MS),(run n l m).2.fuel<=m.fuel
 |0,_,_=>Nat.le_refl _
 |_+1,[],_=>Nat.le_refl _
 |n+1,s::rest,m=>by
  rw[run]
  by_cases h0:m.fuel=0
  ·rw[G h0];exact Nat.le_refl _
  rw[Z h0];simp only
  split
  ·have:=dM n rest ⟨m.vars.set s.x (bG m.vars s.e),m.aE,m.fuel - 1⟩;simp only at this;omega
  split
  ·have:=dM n rest ⟨m.vars,m.aE++[(s.x,bG m.vars s.e)],m.fuel - 1⟩;simp only at this;omega
  split
  ·generalize (if bG m.vars s.e=0 then s.aP else s.aZ)=part
   have h1:=dM n part ⟨m.vars,m.aE,m.fuel - 1⟩;simp only at h1
   split
   ·have h2:=dM n rest (run n part ⟨m.vars,m.aE,m.fuel - 1⟩).2;omega
   omega
  split
  ·have:=dM n rest ⟨m.vars,m.aE,m.fuel - 1⟩;simp only at this;omega
  have h1:=dM n s.aZ ⟨m.vars,m.aE,m.fuel - 1⟩;simp only at h1
  split
  ·have h2:=dM n (s::rest) (run n s.aZ ⟨m.vars,m.aE,m.fuel - 1⟩).2;omega
  omega
def gB:∀(n:Nat) (l:List aa) (m:MS) (k:Nat),m.fuel<n->n<=k->run k l m=run n l m
 |0,_,_,_,h,_=>absurd h (Nat.not_lt_zero _)
 |n+1,[],m,k,_,hk=>by
  obtain⟨k',rfl⟩:∃k',k=k'+1:=⟨k - 1,by omega⟩;rfl
 |n+1,s::rest,m,k,h,hk=>by
  obtain⟨k',rfl⟩:∃k',k=k'+1:=⟨k - 1,by omega⟩;rw[run,run]
  by_cases h0:m.fuel=0
  ·rw[G h0,G h0]
  rw[Z h0,Z h0];have e:∀l (m':MS),m'.fuel<=m.fuel - 1->run k' l m'=run n l m':=λl m' hm=>gB n l m' k' (by omega) (by omega);have f:∀l (m':MS),m'.fuel<=m.fuel - 1->(run n l m').2.fuel<=m.fuel - 1:=λl m' hm=>Nat.le_trans (dM n l m') hm;simp only;rw[e rest ⟨m.vars.set s.x (bG m.vars s.e),m.aE,m.fuel - 1⟩ lE,e rest ⟨m.vars,m.aE++[(s.x,bG m.vars s.e)],m.fuel - 1⟩ lE,e _ ⟨m.vars,m.aE,m.fuel - 1⟩ lE,e rest ⟨m.vars,m.aE,m.fuel - 1⟩ lE,e s.aZ ⟨m.vars,m.aE,m.fuel - 1⟩ lE,e rest _ (f _ ⟨m.vars,m.aE,m.fuel - 1⟩ lE),e (s::rest) _ (f _ ⟨m.vars,m.aE,m.fuel - 1⟩ lE)]
def nY(l:List aa)(m:MS)(n k:Nat)(hn:m.fuel<n)(hk:m.fuel<k):run k l m=run n l m:=by
 rcases Nat.le_total n k with h|h
 ·exact gB n l m k hn h
 exact(gB k l m n hk h).symm
def kW:∀(n:Nat) (s:aa) (rest:List aa) (m:MS),m.fuel<n->run n (s::rest) m=if(run n [s] m).1=true then run n rest (run n [s] m).2 else run n [s] m
 |0,_,_,_,h=>absurd h (Nat.not_lt_zero _)
 |n+1,s,rest,m,h=>by
  have hG:∀(l:List aa) (m':MS),m'.fuel<=m.fuel - 1->m.fuel≠0->run (n+1) l m'=run n l m':=λl m' hm h0=>gB n l m' (n+1) (by omega) (by omega)
  by_cases h0:m.fuel=0
  ·have e:∀l,run (n+1) (s::l) m=(false,m):=λl=>by rw[run,G h0]
   rw[e,e];rfl
  have a0:∀m',m'.fuel<=m.fuel - 1->run n [] m'=(true,m'):=λm' hm=>by
   obtain⟨k,rfl⟩:∃k,n=k+1:=⟨n - 1,by omega⟩;rfl
  have e:∀l,run (n+1) (s::l) m=_:=λl=>by rw[run,Z h0]
  rw[e rest,e []];simp only
  by_cases h3:s.kind=3
  ·rw[G h3,G h3,a0 _ lE]
   simp only[if_true];exact(hG _ _ lE h0).symm
  rw[Z h3,Z h3]
  by_cases h4:s.kind=4
  ·rw[G h4,G h4,a0 _ lE]
   simp only[if_true];exact(hG _ _ lE h0).symm
  rw[Z h4,Z h4];have hf:∀l,(run n l ⟨m.vars,m.aE,m.fuel - 1⟩).2.fuel<=m.fuel - 1:=λl=>dM n l _
  by_cases h5:s.kind=5
  ·rw[G h5,G h5]
   generalize (if bG m.vars s.e=0 then s.aP else s.aZ)=part
   by_cases hq:(run n part ⟨m.vars,m.aE,m.fuel - 1⟩).1=true
   ·rw[G hq,G hq,a0 _ (hf _)]
    simp only[if_true];exact(hG _ _ (hf _) h0).symm
   rw[Z hq,Z hq,Z hq]
  rw[Z h5,Z h5]
  by_cases hv:bG m.vars s.e=0
  ·rw[G hv,G hv,a0 _ lE]
   simp only[if_true];exact(hG _ _ lE h0).symm
  rw[Z hv,Z hv]
  by_cases hq:(run n s.aZ ⟨m.vars,m.aE,m.fuel - 1⟩).1=true
  ·rw[G hq,G hq,kW n s rest _ (by have:=hf s.aZ;omega)]
   have b0:=Nat.le_trans (dM n [s] (run n s.aZ ⟨m.vars,m.aE,m.fuel - 1⟩).2) (hf s.aZ)
   split
   ·exact(hG _ _ b0 h0).symm
   rfl
  rw[Z hq,Z hq,Z hq]
end Fl
open Go.RowKit
def yxx(Tb:Nat):Array Value:=#[.func (.func 112) #[] #[],.func (.func 113) #[] #[],.func (.func 114) #[] #[],.func (.func 115) #[] #[M Tb],.func (.func 116) #[] #[M Tb]]
def opW(w:World):World:=(w.alloc (.cells #[.func (.func 111) #[] #[]] 233)).alloc (.cells (yxx w.heap.size) 234)
def zoy(w:World):F 58 #[] w λe w'=>e=.returned (Sq (w.heap.size+1) 0 5 5)/\w'=opW w:=by
 have hmf:∀(fn:Fn) (first cap:Array Value) (w:World),(Instr.makeFunc fn first cap).run prog w=.ok (.func fn first cap) w:=λ_ _ _ _=>rfl
 go_enter func58,ntmps58
 go_wp2_with fail
 go_ret;exact⟨rfl,rfl⟩
def zox(b:Bool):Int:=if b=true then 1 else 0
def yzz(b:Bool)(w:World):F 111 #[.bool b] w (Rq (.int .u32 (zox b)) w):=by
 go_enter func111,ntmps111
 cases b
 ·go_wp2
  go_ret;exact⟨rfl,rfl⟩
 ·go_wp2
  go_ret;exact⟨rfl,rfl⟩
section
variable(x y:Nat)(hx:x<4294967296)(hy:y<4294967296)(w:World)
theorem op2_any:F 112 #[.int .u32 x,.int .u32 y] w (Rq (.int .u32 ((jC 0 x y:Nat):Int)) w):=by
 go_enter func112,ntmps112
 go_wp2;go_ret;refine⟨?_,rfl⟩;show Ending.returned (.int .u32 (((x:Int)+y) % 4294967296))=_;simp[jC,Fl.u32]
theorem op3_any(x y:Nat)(hx:x<4294967296)(hy:y<4294967296)(w:World):F 113 #[.int .u32 x,.int .u32 y] w (Rq (.int .u32 ((jC 1 x y:Nat):Int)) w):=by
 go_enter func113,ntmps113
 go_wp2;go_ret;refine⟨?_,rfl⟩;show Ending.returned (.int .u32 (((x:Int) - y) % 4294967296))=_
 have:((x:Int) - y) % 4294967296=((jC 1 x y:Nat):Int):=by simp only[jC,Fl.u32];simp;omega
 rw[this]
theorem op4_any:F 114 #[.int .u32 x,.int .u32 y] w (Rq (.int .u32 ((jC 2 x y:Nat):Int)) w):=by
 go_enter func114,ntmps114
 go_wp2;go_ret;refine⟨?_,rfl⟩;show Ending.returned (.int .u32 (((x:Int)*y) % 4294967296))=_;simp[jC,Fl.u32]
theorem op5_any(Tb:Nat)(hT:w.cell? (Y Tb 0)=some (.func (.func 111) #[] #[])):F 115 #[.int .u32 x,.int .u32 y,M Tb] w (Rq (.int .u32 ((jC 3 x y:Nat):Int)) w):=by
 have HT:O (∀b,F 111 #[.bool b] w (Rq (.int .u32 (zox b)) w)):=λb=>yzz b w
 go_enter func115,ntmps115
 go_wp2_with fail
 refine(HT _).mono ?_;rintro e w1 ⟨rfl,hw1⟩;rw[hw1];clear hw1;go_wp2;go_ret;refine⟨?_,rfl⟩
 by_cases h:x<y<;>simp[jC,zox,h]
theorem op6_any(Tb:Nat)(hT:w.cell? (Y Tb 0)=some (.func (.func 111) #[] #[])):F 116 #[.int .u32 x,.int .u32 y,M Tb] w (Rq (.int .u32 ((jC 4 x y:Nat):Int)) w):=by
 have HT:O (∀b,F 111 #[.bool b] w (Rq (.int .u32 (zox b)) w)):=λb=>yzz b w
 go_enter func116,ntmps116
 go_wp2_with fail
 refine(HT _).mono ?_;rintro e w1 ⟨rfl,hw1⟩;rw[hw1];clear hw1;go_wp2;go_ret;refine⟨?_,rfl⟩
 by_cases h:x=y
 ·simp[jC,zox,h]
 ·have h2:¬(x:Int)=(y:Int):=by omega
  simp[jC,zox,h,h2]
theorem op_at(Tb k:Nat)(hk:k<5)(hT:w.cell? (Y Tb 0)=some (.func (.func 111) #[] #[])):∃fn cap,(yxx Tb)[k]?=some (.func (.func fn) #[] cap)/\(∀args W,(callFunc fn args).run prog W=.ok (.enter fn args) W)/\
  ∀x y:Nat,x<4294967296->y<4294967296->∀W,W.cell? (Y Tb 0)=some (.func (.func 111) #[] #[])->F fn (#[.int .u32 x,.int .u32 y]++cap) W (Rq (.int .u32 ((jC (k:Int) x y:Nat):Int)) W):=by
 rcases(show k=0\/k=1\/k=2\/k=3\/k=4 by omega) with rfl|rfl|rfl|rfl|rfl
 ·exact⟨_,_,rfl,λargs W=>by kernel_rfl,λx y hx hy W hW=>op2_any x y W⟩
 ·exact⟨_,_,rfl,λargs W=>by kernel_rfl,λx y hx hy W hW=>op3_any x y hx hy W⟩
 ·exact⟨_,_,rfl,λargs W=>by kernel_rfl,λx y hx hy W hW=>op4_any x y W⟩
 ·exact⟨_,_,rfl,λargs W=>by kernel_rfl,λx y hx hy W hW=>op5_any x y W Tb hW⟩
 ·exact⟨_,_,rfl,λargs W=>by kernel_rfl,λx y hx hy W hW=>op6_any x y W Tb hW⟩
end
def Vh(l:List (Nat×Nat)):Vs:=l.flatMap λp=>[I p.1,.int .u32 p.2]
structure MachIn(lo base Mb Vb Ob Tb nv:Nat)(w0:World):Prop where
 cq:lo<=Mb/\lo<=Vb/\lo<=base
 bP:Mb<base/\Vb<base/\Ob<base/\Tb<base
 nd:Mb≠Vb/\Ob≠Mb/\Ob≠Vb/\Tb≠Mb/\Tb≠Vb
 qv:nv<=10
 ob:w0.heap[Ob]?=some (.cells (yxx Tb) 234 (0,0))
 tb:w0.heap[Tb]?=some (.cells #[.func (.func 111) #[] #[]] 233 (0,0))
structure Za(lo base Mb Vb Ob Tb nv:Nat)(w0 w:World)(m:Fl.MS)(sv:Value):Prop where
 im:MachIn lo base Mb Vb Ob Tb nv w0
 bel:Below lo w0 w
 fx:∀b,b<base->b≠Mb->b≠Vb->w.heap[b]?=w0.heap[b]?
 ee:base<=w.heap.size
 cM:Zh w Mb 4 (rw_ [Sq Vb 0 nv nv,sv,I m.fuel,Sq Ob 0 5 5])
 hv:m.vars.length=nv
 cV:Zh w Vb nv (λi=> .int .u32 (m.vars.getD i 0))
 vb:∀x∈m.vars,x<4294967296
 sl:m.aE.length+m.fuel<=2000
 os:w.ownsRow base 47 2 sv m.aE.length (Vh m.aE)
section
variable{Tb nv:Nat}{m:Fl.MS}
def Za.below(h:Za lo base Mb Vb Ob Tb nv w0 w m sv)(hb:E w w'):Za lo base Mb Vb Ob Tb nv w0 w' m sv:=by
 obtain⟨b1,b2,b3,b4⟩:=h.im.bP;obtain⟨l1,l2,l3⟩:=h.im.cq;have ee:=h.ee;have hz:=hb.size;have q:∀b,b<w.heap.size->w'.heap[b]?=w.heap[b]?:=λb hlt=>hb.block b hlt
 exact{
     im:=h.im,bel:=h.bel.trans (hb.mono (by omega)),fx:=λb f1 f2 f3=>(q b (by omega)).trans (h.fx b f1 f2 f3),ee:=by omega,cM:=h.cM.block (q _ (by omega)),hv:=h.hv,cV:=h.cV.block (q _ (by omega)),vb:=h.vb,sl:=h.sl,os:=Zj h.os (λb hv=>q b (by
      rcases h.os.2 with⟨h1,_⟩|⟨g,cap,cur,h1,hg,hh,_⟩
      ·rw[h1]at hv;cases hv
      ·rw[h1]at hv;simp only[ownBlock,Ql]at hv;subst hv
       exact Classical.byContradiction λhn=>by rw[Array.getElem?_eq_none (by omega)]at hh;cases hh))}
def Za.drew(h:Za lo base Mb Vb Ob Tb nv w0 w m sv):Za lo base Mb Vb Ob Tb nv w0 w.drew m sv:=h.below dA
def getD_lt{B:Nat}(h:∀x∈l,x<B)(hB:0<B)(i:Nat):l.getD i 0<B:=by
 rw[getD_eq_getElem?_getD]
 cases hi:l[i]? with
 |none=>exact hB
 |some x=>exact h x (mem_of_getElem? hi)
def zm9{vs:List Nat}(h:∀x∈vs,x<4294967296)(a:Fl.dI):ew vs a<4294967296:=by
 unfold ew
 split
 ·exact getD_lt h (by decide) _
 ·exact Nat.mod_lt _ (by decide)
def zj2(h:Za lo base Mb Vb Ob Tb nv w0 w m sv)(p:Value)(a:Fl.dI)(hp:Xy S w p a)(ha:dU nv a):
  F 149 #[M Mb,p] w (Rw (.int .u32 ((ew m.vars a:Nat):Int)) w):=by
 obtain⟨vb,rfl,-,hc⟩:=hp;have c0:D w vb 0 (I (if a.var then 1 else 0)):=hc.c 0 (by omega);have c1:D w vb 1 (I a.v):=hc.c 1 (by omega);have m0:D w Mb 0 (Sq Vb 0 nv nv):=h.cM.c 0 (by omega);unfold ptr
 cases hv:a.var with
 |true=>
  have hlt:a.v<nv:=(by unfold dU at ha;rw[G hv]at ha;exact ha);have cv:D w Vb a.v (.int .u32 ((m.vars.getD a.v 0:Nat):Int)):=h.cV.c a.v hlt;have hr:ew m.vars a=m.vars.getD a.v 0:=(by unfold ew;rw[G hv]);rw[hr];rw[hv]at c0;simp only[if_true]at c0;generalize m.vars.getD a.v 0=x at*;have hnv:=h.im.qv;have hlt2:(a.v:Int)<(nv:Int):=(by omega);generalize a.v=k at*;clear hc h ha hr hv
  go_enter func149,ntmps149
  go_wp2_with fail
  go_quiet (fail)
  go_wp2;go_ret;exact⟨rfl,rfl,rfl,rfl,lE,λ_ _=>rfl⟩
 |false=>
  have hr:ew m.vars a=a.v % 4294967296:=(by unfold ew;rw[hv];rfl);rw[hr];rw[hv]at c0;simp only[Bool.false_eq_true,if_false]at c0;generalize a.v=k at*;clear hc h ha hr hv
  go_enter func149,ntmps149
  go_wp2;go_ret;exact⟨by simp,Below.refl _ _⟩
end
section
variable{Tb nv:Nat}{m:Fl.MS}
def yk6(h:Za lo base Mb Vb Ob Tb nv w0 w m sv)(p:Value)(x:Fl.da)(hp:zy7 S w p x)(hx:Fl.bI nv x):
  F 149 #[M Mb,p] w (Rw (.int .u32 ((Fl.bG m.vars x:Nat):Int)) w):=by
 rcases hp with⟨ho,hp⟩|⟨ho,vb,pa,pb,rfl,-,hc,hpa,hpb⟩
 ·have hr:Fl.bG m.vars x=ew m.vars x.a:=by unfold Fl.bG;rw[G ho]
  rw[hr];exact zj2 h p x.a hp hx.2.2.1
 ·have hr:Fl.bG m.vars x=jC x.op (ew m.vars x.a) (ew m.vars x.b):=by unfold Fl.bG;rw[Z (by omega)]
  rw[hr];have bP:=h.im.bP;have hnd:=h.im.nd;have ee:=h.ee;obtain⟨xa,rfl,-,-⟩:=id hpa;obtain⟨xb,rfl,-,-⟩:=id hpb
  have tcell:∀W,E w W->D W Tb 0 (.func (.func 111) #[] #[]):=λW hW=>
   cR 0 ((hW.block Tb (by omega)).trans ((h.fx Tb (by omega) hnd.2.2.2.1 hnd.2.2.2.2).trans h.im.tb))
  obtain⟨k,hk⟩:∃k:Nat,x.op=(k:Int):=⟨x.op.toNat,by omega⟩;have hk5:k<5:=(by have:=hx.2.1;omega);obtain⟨fn,cap,hfa,hin,hop⟩:=op_at w Tb k hk5 (tcell w (Below.refl _ _));have oc:D w Ob k (.func (.func fn) #[] cap):=(cR k ((h.fx Ob (by omega) hnd.2.1 hnd.2.2.1).trans h.im.ob)).trans hfa;have c0:D w vb 0 (I 2):=hc.c 0 (by omega);have c1:w.cell? (Y vb 1)=some (I k):=(by rw[<-hk];exact hc.c 1 (by omega));have c2:D w vb 2 (M xa):=hc.c 2 (by omega);have c3:D w vb 3 (M xb):=hc.c 3 (by omega);have m3:D w Mb 3 (Sq Ob 0 5 5):=h.cM.c 3 (by omega);rw[hk];have hv1:=zm9 h.vb x.a;have hv2:=zm9 h.vb x.b
  have HA:O (∀W,E w W->F 149 #[M Mb,M xa] W (Rw (.int .u32 ((ew m.vars x.a:Nat):Int)) W)):=λW hW=>zj2 (S:=λb=>b<w.heap.size) (h.below hW) _ x.a (by
   obtain⟨vb',e1,-,e3⟩:=hpa
   exact⟨vb',e1,e3.lt (by omega),e3.block (hW.block _ (e3.lt (by omega)))⟩) hx.2.2.1
  have HB:O (∀W,E w W->F 149 #[M Mb,M xb] W (Rw (.int .u32 ((ew m.vars x.b:Nat):Int)) W)):=λW hW=>zj2 (S:=λb=>b<w.heap.size) (h.below hW) _ x.b (by
   obtain⟨vb',e1,-,e3⟩:=hpb
   exact⟨vb',e1,e3.lt (by omega),e3.block (hW.block _ (e3.lt (by omega)))⟩) hx.2.2.2
  generalize ew m.vars x.a=va at*;generalize ew m.vars x.b=vb2 at*;have HOP:O (∀W,E w W->F fn (#[.int .u32 va,.int .u32 vb2]++cap) W (Rq (.int .u32 ((jC (k:Int) va vb2:Nat):Int)) W)):=λW hW=>hop va vb2 hv1 hv2 W (tcell W hW);generalize jC (k:Int) va vb2=aX at*;have hk5':(k:Int)<5:=(by omega)
  have KEEP:O (∀W,E w W->D W vb 1 (I k)/\D W vb 2 (M xa)/\D W vb 3 (M xb)/\D W Mb 3 (Sq Ob 0 5 5)/\D W Ob k (.func (.func fn) #[] cap)):=λW hW=>by
   have hvb:vb<w.heap.size:=block_lt_of_cell? w _ c0;exact⟨cT hW hvb c1,cT hW hvb c2,cT hW hvb c3,cT hW (by show Mb<_;omega) m3,cT hW (by show Ob<_;omega) oc⟩
  clear h hx hc hpa hpb hr ho hk hop tcell hfa hv1 hv2 bP hnd ee;unfold ptr
  go_enter func149,ntmps149
  go_wp2_with fail
  refine Ux (λW=>E w W) [] [(0,0),(0,1),(0,2),(0,3),(0,4),(0,5),(0,6),(0,7),(0,8),(0,9),(0,10),(0,11),(0,12),(0,13),(0,14),(0,16),(0,17),(0,18),(0,19),(0,20),(1,15),(1,21),(1,22),(0,23)] [] (by kernel_rfl) (by kernel_rfl) rfl [(_,_),(_,_),(_,_),(_,_),(_,_),(_,_),(_,_),(_,_),(_,_),(_,_),(_,_),(_,_),(_,_),(_,_),(_,_),(_,_),(_,_),(_,_),(_,_),(_,_),(_,_),(_,_),(_,_),(_,_)] rfl (λc a d v w h=>by cases d<;>exact h) dA (λops hG=>?_);clear hG;simp only[getElem_toArray,getElem_cons_succ,getElem_cons_zero];clear c0 c1 c2 c3 m3 oc
  iterate 20
   refine Xj rfl (λWx hK=>?_);apply Exists.intro
   refine⟨λw' hw'=>?_,?_⟩
   ·obtain⟨k1,k2,k3,k4,k5⟩:=KEEP w' hw'
    clear hw';go_simp
    try with_reducible rfl
   go_simp;refine hK _ ?_;clear hK Wx
  refine Zs ?_
  go_wp2_with fail
  refine(HA w.drew dA).mono ?_;rintro e W ⟨rfl,hb⟩;have HB1:O (E w W):=(Below.refl w.heap.size w).drew.trans hb;clear hb
  go_wp2_with fail
  refine⟨HB1,?_⟩;refine Zs ?_
  go_wp2_with fail
  refine(HB W HB1).mono ?_;rintro e W2 ⟨rfl,hb⟩;have HB2:O (E w W2):=HB1.trans (hb.mono HB1.size);clear hb
  go_wp2_with fail
  refine⟨HB2,?_⟩;refine Zs ?_
  go_wp2_with fail
  refine(HOP W2 HB2).mono ?_;rintro e W3 ⟨rfl,hw3⟩;rw[hw3];clear hw3
  go_wp2_with fail
  refine⟨HB2,?_⟩;refine Xj rfl (λWx hK=>?_);apply Exists.intro
  refine⟨λw' hw'=>?_,?_⟩
  ·clear hw'
   go_simp
   try with_reducible rfl
  go_simp;refine hK _ ?_;clear hK Wx;refine Zu ?_;go_wp2;go_ret;exact⟨rfl,HB2⟩
end
namespace Fl
def go(l:List aa)(m:MS):Bool×MS:=run (m.fuel+1) l m
def nX(m:MS):go [] m=(true,m):=rfl
def om(s:aa)(l:List aa)(m:MS)(h:m.fuel=0):go (s::l) m=(false,m):=by unfold go;rw[run,G h]
def iR(l:List aa)(m:MS):(go l m).2.fuel<=m.fuel:=dM _ _ _
def oM(l:List aa)(m:MS)(n:Nat)(h:m.fuel<n):run n l m=go l m:=nY l m (m.fuel+1) n (by omega) h
def MS.tick(m:MS):MS:=⟨m.vars,m.aE,m.fuel - 1⟩
def oB(s:aa)(m:MS)(h:m.fuel≠0):go [s] m=
  if s.kind=3 then(true,⟨m.vars.set s.x (bG m.vars s.e),m.aE,m.fuel - 1⟩)
  else if s.kind=4 then(true,⟨m.vars,m.aE++[(s.x,bG m.vars s.e)],m.fuel - 1⟩)
  else if s.kind=5 then go (if bG m.vars s.e=0 then s.aP else s.aZ) m.tick
  else if bG m.vars s.e=0 then(true,m.tick)
  else if(go s.aZ m.tick).1=true then go [s] (go s.aZ m.tick).2 else go s.aZ m.tick:=by
 show run (m.fuel+1) [s] m=_;rw[run,Z h];have g:∀l (m':MS),m'.fuel<m.fuel->run m.fuel l m'=go l m':=λl m' hm=>oM l m' _ hm
 have ht:m.tick.fuel<m.fuel:=by show m.fuel - 1<m.fuel;omega
 have gf:∀l,(go l m.tick).2.fuel<m.fuel:=λl=>Nat.lt_of_le_of_lt (iR l _) ht;have em:(⟨m.vars,m.aE,m.fuel - 1⟩:MS)=m.tick:=rfl;simp only[em]
 by_cases h3:s.kind=3
 ·rw[G h3,G h3,g _ _ (by simp only;omega)];rfl
 rw[Z h3,Z h3]
 by_cases h4:s.kind=4
 ·rw[G h4,G h4,g _ _ (by simp only;omega)];rfl
 rw[Z h4,Z h4]
 by_cases h5:s.kind=5
 ·rw[G h5,G h5]
  generalize (if bG m.vars s.e=0 then s.aP else s.aZ)=part;rw[g part _ ht,g [] _ (gf _),nX]
  by_cases hq:(go part m.tick).1=true
  ·rw[G hq];exact Prod.ext hq.symm rfl
  ·rw[Z hq]
 rw[Z h5,Z h5]
 by_cases hv:bG m.vars s.e=0
 ·rw[G hv,G hv,g [] _ ht,nX]
 rw[Z hv,Z hv,g s.aZ _ ht,g [s] _ (gf _)]
def oe(s:aa)(rest:List aa)(m:MS):go (s::rest) m=if(go [s] m).1=true then go rest (go [s] m).2 else go [s] m:=by
 have e:go (s::rest) m=_:=kW (m.fuel+1) s rest m (by omega);rw[e];show (if(go [s] m).1=true then run (m.fuel+1) rest (go [s] m).2 else go [s] m)=_;rw[oM rest _ (m.fuel+1) (by have:=iR [s] m;omega)]
end Fl
def Tryz.infoSentP:(Tryz.prog.info? 47).map (λi=>(i.zero,i.size,i.bytes))=some (some (.agg #[I 0,.int .u32 0]),2,16):=by kernel_rfl
def yk7(l:List (Nat×Nat))(c v:Nat):Vh (l++[(c,v)])=Vh l++[I c,.int .u32 v]:=by simp[Vh]
def ygy(l:List Nat)(x v i:Nat)(hx:x<l.length):(l.set x v).getD i 0=if i=x then v else l.getD i 0:=by
 rw[getD_eq_getElem?_getD,getD_eq_getElem?_getD,getElem?_set]
 by_cases h:x=i
 ·subst h;simp[hx]
 ·rw[Z h,Z (Ne.symm h)]
section
variable{Tb nv:Nat}{m:Fl.MS}
def Za.od(h:Za lo base Mb Vb Ob Tb nv w0 w m sv)(n:Nat)(hn:n<=m.fuel):Za lo base Mb Vb Ob Tb nv w0 (w.setCell (Y Mb 2) (I n)) ⟨m.vars,m.aE,n⟩ sv:=by
 obtain⟨b1,b2,b3,b4⟩:=h.im.bP;obtain⟨l1,l2,l3⟩:=h.im.cq;obtain⟨n1,n2,n3,n4,n5⟩:=h.im.nd;have ee:=h.ee;have q:∀k,k≠Mb->(w.setCell (Y Mb 2) (I n)).heap[k]?=w.heap[k]?:=λk hk=>Zx _ _ _ _ _ hk;exact{im:=h.im,bel:=h.bel.setCell (by show lo<=Mb;omega) _,fx:=λb f1 f2 f3=>(q b f2).trans (h.fx b f1 f2 f3),ee:=by rw[Zy];exact ee,cM:=(h.cM.set (j:=2) (by omega) (I n)).congr (λj hj=>by rcases(show j=0\/j=1\/j=2\/j=3 by omega) with rfl|rfl|rfl|rfl<;>rfl),hv:=h.hv,cV:=h.cV.block (q _ (Ne.symm n1)),vb:=h.vb,sl:=by have:=h.sl;simp only;omega,os:=ownsRow_setCell_below h.os (by show Mb<base;omega) _}
def Za.px(h:Za lo base Mb Vb Ob Tb nv w0 w m sv)(x v:Nat)(hx:x<nv)(hv:v<4294967296):Za lo base Mb Vb Ob Tb nv w0 (w.setCell (Y Vb x) (.int .u32 v)) ⟨m.vars.set x v,m.aE,m.fuel⟩ sv:=by
 obtain⟨b1,b2,b3,b4⟩:=h.im.bP;obtain⟨l1,l2,l3⟩:=h.im.cq;obtain⟨n1,n2,n3,n4,n5⟩:=h.im.nd;have ee:=h.ee;have q:∀k,k≠Vb->(w.setCell (Y Vb x) (.int .u32 v)).heap[k]?=w.heap[k]?:=λk hk=>Zx _ _ _ _ _ hk;have bt:=h.hv;refine{im:=h.im,bel:=h.bel.setCell (by show lo<=Vb;omega) _,fx:=λb f1 f2 f3=>(q b f3).trans (h.fx b f1 f2 f3),ee:=by rw[Zy];exact ee,cM:=h.cM.block (q _ n1),hv:=by simp[bt],cV:= ?_,vb:=λy hy=>?_,sl:=h.sl,os:=ownsRow_setCell_below h.os (by show Vb<base;omega) _}
 ·refine(h.cV.set (j:=x) hx (.int .u32 v)).congr (λi hi=>?_)
  simp only[ygy m.vars x v i (by omega)]
  split<;>rfl
 ·rcases mem_or_eq_of_mem_set hy with h1|h1
  ·exact h.vb y h1
  ·omega
def Za.oZ(h:Za lo base Mb Vb Ob Tb nv w0 w m sv){W4:World}{sv':Value}(c v:Nat)(hf:m.aE.length+1+m.fuel<=2000)(hb3:E w W3)(ho4:W4.ownsRow base 47 2 sv' (m.aE.length+1) (Vh m.aE++[I c,.int .u32 v]))(hg4:W3.grownBy W4 sv.ownBlock):
  Za lo base Mb Vb Ob Tb nv w0 (W4.setCell (Y Mb 1) sv') ⟨m.vars,m.aE++[(c,v)],m.fuel⟩ sv':=by
 have hw3:=h.below hb3;obtain⟨b1,b2,b3,b4⟩:=h.im.bP;obtain⟨l1,l2,l3⟩:=h.im.cq;obtain⟨n1,n2,n3,n4,n5⟩:=h.im.nd;have ee:=hw3.ee;have hz4:=hg4.size;have hlt:=h.os.lt;have q4:∀k,k<base->W4.heap[k]?=W3.heap[k]?:=λk hk=>hg4.block k (by omega) (λhh=>by have:=(hlt k hh.symm).1;omega);have q:∀k,k<base->k≠Mb->(W4.setCell (Y Mb 1) sv').heap[k]?=W3.heap[k]?:=λk hk hne=>(Zx _ _ _ _ _ hne).trans (q4 k hk);have hb4:Below lo w0 W4:=hw3.bel.grown hg4 (by have:=hw3.bel.size;omega) (λk hk=>by have:=(hlt k hk).1;omega);exact{im:=h.im,bel:=hb4.setCell (by show lo<=Mb;omega) _,fx:=λb f1 f2 f3=>(q b f1 f2).trans (hw3.fx b f1 f2 f3),ee:=by rw[Zy];omega,cM:=((hw3.cM.block (q4 _ b1)).set (j:=1) (by omega) sv').congr (λj hj=>by rcases(show j=0\/j=1\/j=2\/j=3 by omega) with rfl|rfl|rfl|rfl<;>rfl),hv:=h.hv,cV:=hw3.cV.block (q _ b2 (Ne.symm n1)),vb:=h.vb,sl:=by simp;omega,os:=by rw[yk7,length_append];exact ownsRow_setCell_below ho4 (by show Mb<base;omega) _}
def yc6(h:Za lo base Mb Vb Ob Tb nv w0 w m sv):F 148 #[M Mb] w λe w'=>(m.fuel=0/\e=.returned (.bool false)/\w'=w)\/(m.fuel≠0/\e=.returned (.bool true)/\Za lo base Mb Vb Ob Tb nv w0 w' m.tick sv):=by
 have c2:D w Mb 2 (I m.fuel):=h.cM.c 2 (by omega);have z2:=h.cM.z;have HT:O (Za lo base Mb Vb Ob Tb nv w0 (w.setCell (Y Mb 2) (I ((m.fuel - 1:Nat):Int))) m.tick sv):=h.od (m.fuel - 1) (by omega);have hf:=h.sl;obtain⟨f,hF⟩:∃f,f=m.fuel:=⟨_,rfl⟩;rw[<-hF]at c2 HT hf⊢
 have hf2:(f:Int)<=2000:=by omega
 clear h hF hf
 by_cases h0:f=0
 ·have b0:((f:Int)==0)=true:=by simp[h0]
  have H0:O (f=0):=h0;clear h0 HT
  go_enter func148,ntmps148
  go_wp2;go_ret;exact .inl ⟨H0,rfl,rfl⟩
 ·have b0:((f:Int)==0)=false:=by simp;exact h0
  have e1:((f - 1:Nat):Int)=(f:Int) - 1:=(by omega);rw[e1]at HT;have H0:O (f≠0):=h0;have hf1:(1:Int)<=(f:Int):=(by omega);clear h0 e1
  go_enter func148,ntmps148
  go_wp2;go_ret;exact .inr ⟨H0,rfl,HT⟩
end
def Yn(lo base Mb Vb Ob Tb nv:Nat)(w0:World)(q:Bool×Fl.MS)(e:Ending)(w':World):Prop:=
 e=.returned (.bool q.1)/\∃sv',Za lo base Mb Vb Ob Tb nv w0 w' q.2 sv'
def Firm(base Mb Vb b:Nat):Prop:=b<base/\b≠Mb/\b≠Vb
def zj3(lo base Mb Vb Ob Tb nv nc:Nat)(w0:World)(f:Nat):Prop:=
 ∀(w:World) (m:Fl.MS) (sv:Value) (d:Nat) (v:Value) (l:List Fl.aa),m.fuel<f->Za lo base Mb Vb Ob Tb nv w0 w m sv->Zl d (Firm base Mb Vb) w0 v l->Fl.aY nv nc d l->
  F 59 #[M Mb,v] w (Yn lo base Mb Vb Ob Tb nv w0 (Fl.go l m))
def gn(Mb:Nat)(w:World):Nat:=match w.cell? (Y Mb 2) with
 |some (.int _ n)=>n.toNat
 |_=>0
section
variable{Tb nv:Nat}
def Za.gn{w:World}{m:Fl.MS}{sv:Value}(h:Za lo base Mb Vb Ob Tb nv w0 w m sv):gn Mb w=m.fuel:=by
 unfold Go.Proofs.YtjmcibbdedlcoaaGreatDoor.gn;rw[show w.cell? (Y Mb 2)=some (I m.fuel) from h.cM.c 2 (by omega)];simp
def one_any{d sb:Nat}(H:zj3 lo base Mb Vb Ob Tb nv nc w0 f){s:Fl.aa}{vp fv ev:Value}(hsb:Firm base Mb Vb sb)(hcs:Zh w0 sb 6 (rw_ [I s.kind,I s.ap,I s.x,vp,fv,ev]))(hvp:zy7 (Firm base Mb Vb) w0 vp s.e)(hfv:Zl d (Firm base Mb Vb) w0 fv s.aZ)(hev:Zl d (Firm base Mb Vb) w0 ev s.aP)
  (hk:eJ nv nc s) (he:Fl.bI nv s.e) (hb:Fl.aY nv nc d s.aZ) (ho:Fl.aY nv nc d s.aP) (w:World) (m:Fl.MS) (sv:Value) (hm:m.fuel<=f) (hw:Za lo base Mb Vb Ob Tb nv w0 w m sv):
  F 117 #[M Mb,M sb] w (Yn lo base Mb Vb Ob Tb nv w0 (Fl.go [s] m)):=by
 have hmf:O (m.fuel<=f):=hm;have HW:O (Za lo base Mb Vb Ob Tb nv w0 w m sv):=hw;have HH:O (zj3 lo base Mb Vb Ob Tb nv nc w0 f):=H;have HCS:O (∀W m' sv',Za lo base Mb Vb Ob Tb nv w0 W m' sv'->Zh W sb 6 (rw_ [I s.kind,I s.ap,I s.x,vp,fv,ev])):=λW m' sv' h=>hcs.block (h.fx sb hsb.1 hsb.2.1 hsb.2.2);have HVP:O (∀W m' sv',Za lo base Mb Vb Ob Tb nv w0 W m' sv'->F 149 #[M Mb,vp] W (Rw (.int .u32 ((Fl.bG m'.vars s.e:Nat):Int)) W)):=λW m' sv' h=>yk6 (S:=Firm base Mb Vb) h vp s.e (hvp.kept (λ_ h=>h) (λb hb=>h.fx b hb.1 hb.2.1 hb.2.2)) he;have HFV:O (∀W m' sv',m'.fuel<f->Za lo base Mb Vb Ob Tb nv w0 W m' sv'->F 59 #[M Mb,fv] W (Yn lo base Mb Vb Ob Tb nv w0 (Fl.go s.aZ m'))):=λW m' sv' h1 h2=>H W m' sv' d fv s.aZ h1 h2 hfv hb;have HEV:O (∀W m' sv',m'.fuel<f->Za lo base Mb Vb Ob Tb nv w0 W m' sv'->F 59 #[M Mb,ev] W (Yn lo base Mb Vb Ob Tb nv w0 (Fl.go s.aP m'))):=λW m' sv' h1 h2=>H W m' sv' d ev s.aP h1 h2 hev ho;have HK:O (eJ nv nc s):=hk;have HE:O (Fl.bI nv s.e):=he;obtain⟨va,rfl⟩:∃va,vp=M va:=by
  rcases hvp with⟨_,b,h1,_⟩|⟨_,b,_,_,h1,_⟩
  ·exact⟨b,h1⟩
  ·exact⟨b,h1⟩
 obtain⟨fa,fn,fc,rfl⟩:∃fa fn fc,fv=J fa fn fc:=by
  cases d with
  |zero=>exact⟨_,_,_,hfv.2⟩
  |succ d=>obtain⟨ao,c,h1,-⟩:=hfv;exact⟨_,_,_,h1⟩
 obtain⟨ea,en,ec,rfl⟩:∃fa fn fc,ev=J fa fn fc:=by
  cases d with
  |zero=>exact⟨_,_,_,hev.2⟩
  |succ d=>obtain⟨ao,c,h1,-⟩:=hev;exact⟨_,_,_,h1⟩
 have hsm:sb≠Mb/\sb≠Vb:=⟨hsb.2.1,hsb.2.2⟩;have HSB:O (sb<base):=hsb.1;clear H hm hw hcs hvp hfv hev hk he hb ho hsb
 go_enter func117,ntmps117
 go_wp2_with fail
 obtain⟨Qw,hJ⟩:∃Qw:Act->World->Prop,Qw=λa' w'=>∃(m':Fl.MS) (sv':Value),(∃(u2 u3 u4 u5 u6 u7 u8 u9 u10 u11 u12 u13 u14 u15 u16 u17 u18 u19 u20 u21 u22 u23 u24 u25 u26 u27 u28 u29 u30 u31 u32 u33 u34 u35 u36 u37 u38 u39 u40 u41 u42 u43 u44 u45 u46 u47 u48 u49 u50 u51 u52 u53 u54 u55 u56 u57 u58 u59 u60 u61 u62 u63 u64 u65 u66 u67 u68 u69 u70 u71 u72 u73 u74:Value),a'={tmps:=#[M Mb,M sb,u2,u3,u4,u5,u6,u7,u8,u9,u10,u11,u12,u13,u14,u15,u16,u17,u18,u19,u20,u21,u22,u23,u24,u25,u26,u27,u28,u29,u30,u31,u32,u33,u34,u35,u36,u37,u38,u39,u40,u41,u42,u43,u44,u45,u46,u47,u48,u49,u50,u51,u52,u53,u54,u55,u56,u57,u58,u59,u60,u61,u62,u63,u64,u65,u66,u67,u68,u69,u70,u71,u72,u73,u74],defers:=[]})/\Za lo base Mb Vb Ob Tb nv w0 w' m' sv'/\m'.fuel<=m.fuel/\Fl.go [s] m'=Fl.go [s] m:=⟨_,rfl⟩;obtain⟨μ,hμ⟩:∃μ:Act->World->Nat,μ=λa' w'=>gn Mb w':=⟨_,rfl⟩;have HJ:O (Qw=_):=hJ;have HMU:O (μ=_):=hμ;refine zuz 0 Qw μ ?_ ?_
 ·rw[hJ];exact⟨m,sv,⟨_,_,_,_,_,_,_,_,_,_,_,_,_,_,_,_,_,_,_,_,_,_,_,_,_,_,_,_,_,_,_,_,_,_,_,_,_,_,_,_,_,_,_,_,_,_,_,_,_,_,_,_,_,_,_,_,_,_,_,_,_,_,_,_,_,_,_,_,_,_,_,_,_,rfl⟩,HW,lE,rfl⟩
 intro a' W hJW;rw[hJ]at hJW;obtain⟨m',sv',⟨u2,u3,u4,u5,u6,u7,u8,u9,u10,u11,u12,u13,u14,u15,u16,u17,u18,u19,u20,u21,u22,u23,u24,u25,u26,u27,u28,u29,u30,u31,u32,u33,u34,u35,u36,u37,u38,u39,u40,u41,u42,u43,u44,u45,u46,u47,u48,u49,u50,u51,u52,u53,u54,u55,u56,u57,u58,u59,u60,u61,u62,u63,u64,u65,u66,u67,u68,u69,u70,u71,u72,u73,u74,rfl⟩,hW,hle,hgo⟩:=hJW;have HM:O (Za lo base Mb Vb Ob Tb nv w0 W m' sv'):=hW;have HGO:O (Fl.go [s] m=Fl.go [s] m'):=hgo.symm;have HF:O (m'.fuel<=m.fuel):=hle;have HST:O (F 148 #[M Mb] W λe w'=>(m'.fuel=0/\e=.returned (.bool false)/\w'=W)\/(m'.fuel≠0/\e=.returned (.bool true)/\Za lo base Mb Vb Ob Tb nv w0 w' m'.tick sv')):=yc6 hW;clear hW hle hgo hJ hμ HW
 by_cases hf0:m'.fuel=0
 ·have HEND:O (Yn lo base Mb Vb Ob Tb nv w0 (Fl.go [s] m) (.returned (.bool false)) W):=by
   show Yn _ _ _ _ _ _ _ _ _ _ _;rw[HGO.out,Fl.om s [] m' hf0];exact⟨rfl,_,HM⟩
  have HF0:O (m'.fuel=0):=hf0;clear hf0
  go_wp2_with fail
  refine Calls.mono HST ?_;rintro e w1 (⟨-,rfl,hw1⟩|⟨hn,-⟩)
  ·rw[hw1]
   clear hw1
   go_wp2_with fail
   simp only[Exit.jump];go_ret;exact HEND
  ·exact absurd HF0 hn
 ·have HF0:O (m'.fuel≠0):=hf0
  have HLT:O (m'.tick.fuel<f):=by
   show m'.fuel - 1<f;have:=hmf.out;have:=HF.out;omega
  have HON:O _:=Fl.oB s m' hf0;clear hf0
  go_wp2_with fail
  refine Calls.mono HST ?_;rintro e W1 (⟨hn,-⟩|⟨-,rfl,hW1⟩)
  ·exact absurd hn HF0.out
  have HM1:O (Za lo base Mb Vb Ob Tb nv w0 W1 m'.tick sv'):=hW1;have HC1:O (Zh W1 sb 6 (rw_ [I s.kind,I s.ap,I s.x,M va,J fa fn fc,J ea en ec])):=HCS _ _ _ hW1;have c3:D W1 sb 3 (M va):=HC1.c 3 (by omega);clear hW1 HST
  go_wp2_with fail
  refine(HVP W1 m'.tick sv' HM1).mono ?_;rintro e W2 ⟨rfl,hb2⟩;have HM2:O (Za lo base Mb Vb Ob Tb nv w0 W2 m'.tick sv'):=HM1.below hb2;have HC2:O (Zh W2 sb 6 (rw_ [I s.kind,I s.ap,I s.x,M va,J fa fn fc,J ea en ec])):=HCS _ _ _ HM2.out;have hvlt:Fl.bG m'.vars s.e<4294967296:=by
   unfold Fl.bG;have hb:=HM1.vb
   split
   ·exact zm9 hb _
   ·unfold jC Fl.u32
    have:=zm9 hb s.e.a
    (repeat' split)<;>first|exact Nat.mod_lt _ (by decide)|omega|exact this
  have hON:=HON.out;rw[show m'.tick.vars=m'.vars from rfl];obtain⟨v,hv⟩:∃v,v=Fl.bG m'.vars s.e:=⟨_,rfl⟩;rw[<-hv]at hvlt hON⊢
  have HON2:O (Fl.go [s] m'=if s.kind=3 then(true,⟨m'.vars.set s.x v,m'.aE,m'.fuel - 1⟩)
   else if s.kind=4 then(true,⟨m'.vars,m'.aE++[(s.x,v)],m'.fuel - 1⟩)
   else if s.kind=5 then Fl.go (if v=0 then s.aP else s.aZ) m'.tick
   else if v=0 then(true,m'.tick)
   else if(Fl.go s.aZ m'.tick).1=true then Fl.go [s] (Fl.go s.aZ m'.tick).2 else Fl.go s.aZ m'.tick):=hON
  have k0:D W2 sb 0 (I s.kind):=HC2.c 0 (by omega);clear hb2 HM1 HC1 c3 hON HON hv;rcases HK.out with⟨hk,hx⟩|⟨hk,hx⟩|hk|⟨hk,-⟩
  ·rw[hk]at k0
   have HEND:O (Yn lo base Mb Vb Ob Tb nv w0 (Fl.go [s] m) (.returned (.bool true)) (W2.drew.setCell (Y Vb s.x) (.int .u32 (v:Int)))):=by
    show Yn _ _ _ _ _ _ _ _ _ _ _;rw[HGO.out,HON2.out,G hk];exact⟨rfl,_,HM2.drew.px s.x v hx hvlt⟩
   have m0:D W2 Mb 0 (Sq Vb 0 nv nv):=HM2.cM.c 0 (by omega);have k2:D W2 sb 2 (I s.x):=HC2.c 2 (by omega);have cv:D W2 Vb s.x (.int .u32 ((m'.tick.vars.getD s.x 0:Nat):Int)):=HM2.cV.c s.x hx;have zv:=HM2.cV.z;have hnv:=HM2.im.qv;obtain⟨ov,hov⟩:∃ov,ov=m'.tick.vars.getD s.x 0:=⟨_,rfl⟩;rw[<-hov]at cv;obtain⟨x,hxx⟩:∃x,x=s.x:=⟨_,rfl⟩;rw[<-hxx]at cv k2 hx HEND;have hxn:(x:Int)<(nv:Int):=(by omega);clear hov hxx HON2 HM2 HC2 HK HE hk HVP HFV HEV HCS HGO HLT
   go_wp2_with fail
   refine Ux (λW=>D W Mb 0 (Sq Vb 0 nv nv)/\D W sb 2 (I x)) [10] [(0,0),(0,1),(0,2),(0,3),(0,4),(0,5),(0,6),(0,7),(0,8),(0,9),(2,10)] [] (by kernel_rfl) (by kernel_rfl) rfl [(_,_),(_,_),(_,_),(_,_),(_,_),(_,_),(_,_),(_,_),(_,_),(_,_),(_,_)] rfl (λc a d v w h=>by cases d<;>exact h) ⟨m0,k2⟩ (λops hG=>?_);clear hG;simp only[getElem_toArray,getElem_cons_succ,getElem_cons_zero]
   iterate 10
    refine Xj rfl (λWx hK=>?_);apply Exists.intro
    refine⟨λw' hw'=>?_,?_⟩
    ·obtain⟨k0,k1⟩:=hw'
     go_simp
     try with_reducible rfl
    go_simp;refine hK _ ?_;clear hK Wx
   refine Xs ?_
   go_wp2_with fail
   refine Zu ?_
   go_wp2_with fail
   simp only[Exit.jump];go_ret;exact HEND
  ·rw[hk]at k0
   obtain⟨sa,sc,hsv⟩:∃sa sc,sv'=J sa m'.aE.length sc:=by
    rcases HM2.os.2 with⟨h1,h2⟩|⟨g,cp,cur,h1,_⟩
    ·exact⟨none,0,by rw[h1,show m'.aE.length=0 from h2]⟩
    ·exact⟨_,cp,h1⟩
   subst hsv;have m1:D W2 Mb 1 (J sa m'.aE.length sc):=HM2.cM.c 1 (by omega);have k2:D W2 sb 2 (I s.x):=HC2.c 2 (by omega);have zM:=HM2.cM.z;have hsl:m'.aE.length+1+m'.tick.fuel<=2000:=by
    have:=HM2.sl;have h1:m'.tick.fuel=m'.fuel - 1:=rfl;have h2:m'.tick.aE=m'.aE:=rfl;rw[h2]at this;have h3:=HM.sl;have:=HF0.out;omega
   have bP:=HM2.im.bP;have ee:=HM2.ee;have hsbz:sb<W2.heap.size:=HC2.lt (by omega);obtain⟨x,hxx⟩:∃x,x=s.x:=⟨_,rfl⟩;rw[<-hxx]at k2
   have HFIN:O (∀sv2 W4,Za lo base Mb Vb Ob Tb nv w0 W4 ⟨m'.vars,m'.aE++[(x,v)],m'.fuel - 1⟩ sv2->Yn lo base Mb Vb Ob Tb nv w0 (Fl.go [s] m) (.returned (.bool true)) W4):=λsv2 W4 h=>by
    rw[HGO.out,HON2.out,Z (by omega),G hk,<-hxx];exact⟨rfl,_,h⟩
   have HOS:O (W2.ownsRow base 47 2 (J sa m'.aE.length sc) m'.aE.length (Vh m'.aE)):=HM2.os;have HSL:O (m'.aE.length+1+m'.tick.fuel<=2000):=hsl;have hsl2:m'.aE.length<=2000:=(by omega);clear hxx HON2 HC2 HK HE hk HVP HFV HEV HCS HGO HLT hsl
   go_wp2_with fail
   refine Ux (λW=>D W Mb 1 (J sa m'.aE.length sc)/\D W sb 2 (I x)) [15] [(0,0),(0,1),(0,2),(0,3),(0,4),(0,5),(0,6),(0,7),(0,8),(0,9),(0,10),(1,11),(1,12),(1,13),(0,14),(2,15)] [] (by kernel_rfl) (by kernel_rfl) rfl [(_,_),(_,_),(_,_),(_,_),(_,_),(_,_),(_,_),(_,_),(_,_),(_,_),(_,_),(_,_),(_,_),(_,_),(_,_),(_,_)] rfl (λc a d v w h=>by cases d<;>exact h) ⟨m1,k2⟩ (λops hG=>?_);clear hG;simp only[getElem_toArray,getElem_cons_succ,getElem_cons_zero]
   iterate 11
    refine Xj rfl (λWx hK=>?_);apply Exists.intro
    refine⟨λw' hw'=>?_,?_⟩
    ·obtain⟨k0,k1⟩:=hw'
     go_simp
     try with_reducible rfl
    go_simp;refine hK _ ?_;clear hK Wx
   refine Zs ?_
   go_wp2_with fail
   obtain⟨W3,hW3⟩:∃W3,W3=(W2.alloc (.cells #[I (x:Int),.int .u32 (v:Int)] 47)).drew:=⟨_,rfl⟩;obtain⟨tb,htb⟩:∃tb,tb=W2.heap.size:=⟨_,rfl⟩;have hB3:E W2 W3:=(by rw[hW3];exact((Below.refl _ _).alloc lE _).drew);have hz3:W2.heap.size+1=W3.heap.size:=(by rw[hW3];simp);have t0:∀i u,([I (x:Int),.int .u32 (v:Int)]:Vs)[i]?=some u->W3.cell? (((Y tb 0):Addr).add i)=some u:=by
    intro i u hu
    have h2:((Y tb 0):Addr).add i=(Y tb i):=by unfold Addr.add;split<;>simp_all
    rw[h2,hW3,htb];show (W2.alloc _).cell? _=_;rw[cell?_alloc_new];simpa using hu
   have e0:D W3 Mb 1 (J sa m'.aE.length sc):=cT hB3 (by show Mb<_;omega) m1;have e1:D W3 sb 2 (I x):=cT hB3 hsbz k2;have HO3:O (W3.ownsRow base 47 2 (J sa m'.aE.length sc) m'.aE.length (Vh m'.aE)):=Zj HOS (λb hb=>hB3.block b (HOS.lt b hb).2);have HB3:O (E W2 W3):=hB3;rw[<-hW3,<-htb];clear hW3 htb hB3 HOS;refine⟨⟨e0,e1⟩,?_⟩;refine Zs ?_;obtain⟨i0,hi0,hz0,hzs,hzb⟩:=info_parts Tryz.infoSentP
   go_wp2_with (at_builtin;refine Ap underlying40 hi0 hz0 hzs hzb rfl HO3 rfl [I (x:Int),.int .u32 (v:Int)] rfl rfl t0 ?c2 ?c3 ?c4 ?c5 ?_)
   case c2=>intro u hu;simp only[mem_cons,not_mem_nil,or_false]at hu;rcases hu with rfl|rfl<;>rfl
   case c3=>unfold maxLen;omega
   case c4=>omega
   case c5=>omega
   intro v' W4 hown4 hg4 hwh4;have HADD:O (Za lo base Mb Vb Ob Tb nv w0 (W4.setCell (Y Mb 1) v') ⟨m'.vars,m'.aE++[(x,v)],m'.fuel - 1⟩ v'):=HM2.oZ x v HSL HB3 hown4 hg4;obtain⟨va',vcap,rfl⟩:∃va vcap,v'=J va (m'.aE.length+1) vcap:=by
    rcases hown4.2 with⟨h1,h2⟩|⟨g,cp,cur,h1,_⟩
    ·omega
    ·exact⟨_,cp,h1⟩
   have hlt3:∀k,(J sa m'.aE.length sc).ownBlock=some k->base<=k/\k<W2.heap.size+1:=λk hk=>by have:=HO3.lt k hk;omega
   have hne3:∀k,k<base->some k≠(J sa m'.aE.length sc).ownBlock:=λk hk hh=>by have:=(hlt3 k hh.symm).1;omega
   have hq4:∀k,k<base->W4.heap[k]?=W3.heap[k]?:=λk hk=>hg4.block k (by omega) (hne3 k hk);have g0:D W4 Mb 1 (J sa m'.aE.length sc):=(cell?_of_block (a:=(Y Mb 1)) (hq4 Mb (by omega))).trans e0;have g1:D W4 sb 2 (I x):=(cell?_of_block (a:=(Y sb 2)) (hq4 sb HSB)).trans e1;have gz:∀j,W4.frozen? (Y Mb j)=false:=λj=>(frozen?_of_block (a:=(Y Mb j)) (hq4 Mb (by omega))).trans ((HB3.frozen (p:=(Y Mb j)) (by show Mb<_;omega)).trans (zM j));have HEND:O (Yn lo base Mb Vb Ob Tb nv w0 (Fl.go [s] m) (.returned (.bool true)) (W4.setCell (Y Mb 1) (J va' (m'.aE.length+1) vcap))):=HFIN _ _ HADD.out;clear hown4 hg4 hwh4 hq4 e0 e1 t0 HO3 HB3 hlt3 hne3 HADD HFIN HM2
   go_wp2_with fail
   refine⟨⟨g0,g1⟩,?_⟩;refine Zs ?_
   go_wp2_with fail
   refine⟨⟨g0,g1⟩,?_⟩;refine Xj rfl (λWx hK=>?_);apply Exists.intro
   refine⟨λw' hw'=>?_,?_⟩
   ·obtain⟨k0,k1⟩:=hw'
    go_simp
    try with_reducible rfl
   go_simp;refine hK _ ?_;clear hK Wx;refine Xs ?_
   go_wp2_with fail
   refine Zu ?_
   go_wp2_with fail
   simp only[Exit.jump];go_ret;exact HEND
  ·rw[hk]at k0
   have k4:D W2 sb 4 (J fa fn fc):=HC2.c 4 (by omega);have k5:D W2 sb 5 (J ea en ec):=HC2.c 5 (by omega)
   by_cases hv0:v=0
   ·have HG:O (Fl.go [s] m=Fl.go s.aP m'.tick):=by show _=_;rw[HGO.out,HON2.out,Z (by omega),Z (by omega),G hk,G hv0]
    have b0:((v:Int)==0)=true:=(by simp[hv0]);clear HON2 HC2 HK HE hk HVP HFV HCS HGO hv0
    go_wp2_with fail
    refine(HEV W2 m'.tick sv' HLT HM2).mono ?_;obtain⟨qq,hqq⟩:∃qq,qq=Fl.go s.aP m'.tick:=⟨_,rfl⟩;rw[<-hqq]at HG⊢;rintro e W3 ⟨rfl,hM3⟩;have HEND:O (Yn lo base Mb Vb Ob Tb nv w0 (Fl.go [s] m) (.returned (.bool qq.1)) W3):=by
     show Yn _ _ _ _ _ _ _ _ _ _ _;rw[HG.out];exact⟨rfl,hM3⟩
    clear hM3 hqq HG
    go_wp2_with fail
    simp only[Exit.jump];go_ret;exact HEND
   ·have HG:O (Fl.go [s] m=Fl.go s.aZ m'.tick):=by show _=_;rw[HGO.out,HON2.out,Z (by omega),Z (by omega),G hk,Z hv0]
    have b0:((v:Int)==0)=false:=(by simp;exact hv0);clear HON2 HC2 HK HE hk HVP HEV HCS HGO hv0
    go_wp2_with fail
    refine(HFV W2 m'.tick sv' HLT HM2).mono ?_;obtain⟨qq,hqq⟩:∃qq,qq=Fl.go s.aZ m'.tick:=⟨_,rfl⟩;rw[<-hqq]at HG⊢;rintro e W3 ⟨rfl,hM3⟩;have HEND:O (Yn lo base Mb Vb Ob Tb nv w0 (Fl.go [s] m) (.returned (.bool qq.1)) W3):=by
     show Yn _ _ _ _ _ _ _ _ _ _ _;rw[HG.out];exact⟨rfl,hM3⟩
    clear hM3 hqq HG
    go_wp2_with fail
    simp only[Exit.jump];go_ret;exact HEND
  ·rw[hk]at k0
   have k4:D W2 sb 4 (J fa fn fc):=HC2.c 4 (by omega)
   by_cases hv0:v=0
   ·have HEND:O (Yn lo base Mb Vb Ob Tb nv w0 (Fl.go [s] m) (.returned (.bool true)) W2):=by
     show Yn _ _ _ _ _ _ _ _ _ _ _;rw[HGO.out,HON2.out,Z (by omega),Z (by omega),Z (by omega),G hv0];exact⟨rfl,_,HM2⟩
    have b0:((v:Int)==0)=true:=(by simp[hv0]);clear HON2 HC2 HK HE hk HVP HFV HEV HCS HGO hv0
    go_wp2_with fail
    simp only[Exit.jump];go_ret;exact HEND
   ·have HG:O (Fl.go [s] m=if(Fl.go s.aZ m'.tick).1=true then Fl.go [s] (Fl.go s.aZ m'.tick).2 else Fl.go s.aZ m'.tick):=by show _=_;rw[HGO.out,HON2.out,Z (by omega),Z (by omega),Z (by omega),Z hv0]
    have b0:((v:Int)==0)=false:=(by simp;exact hv0);have HFU:O ((Fl.go s.aZ m'.tick).2.fuel<m'.fuel):=by
     show _<_;have h1:=Fl.iR s.aZ m'.tick;have h2:m'.tick.fuel=m'.fuel - 1:=rfl;have h3:=HF0.out;omega
    clear HON2 HC2 HK HE hk HVP HEV HCS HGO hv0
    go_wp2_with fail
    refine(HFV W2 m'.tick sv' HLT HM2).mono ?_;obtain⟨qq,hqq⟩:∃qq,qq=Fl.go s.aZ m'.tick:=⟨_,rfl⟩;rw[<-hqq]at HG HFU⊢;obtain⟨qb,qm⟩:=qq;rintro e W3 ⟨rfl,sv3,hM3⟩;have HM3:O (Za lo base Mb Vb Ob Tb nv w0 W3 qm sv3):=hM3;clear hM3 hqq
    cases qb with
    |false=>
     have HEND:O (Yn lo base Mb Vb Ob Tb nv w0 (Fl.go [s] m) (.returned (.bool false)) W3):=by
      show Yn _ _ _ _ _ _ _ _ _ _ _;rw[HG.out];exact⟨rfl,_,HM3⟩
     clear HG HFU
     go_wp2_with fail
     simp only[Exit.jump];go_ret;exact HEND
    |true=>
     have HJN:O (∀a',(∃(u2 u3 u4 u5 u6 u7 u8 u9 u10 u11 u12 u13 u14 u15 u16 u17 u18 u19 u20 u21 u22 u23 u24 u25 u26 u27 u28 u29 u30 u31 u32 u33 u34 u35 u36 u37 u38 u39 u40 u41 u42 u43 u44 u45 u46 u47 u48 u49 u50 u51 u52 u53 u54 u55 u56 u57 u58 u59 u60 u61 u62 u63 u64 u65 u66 u67 u68 u69 u70 u71 u72 u73 u74:Value),a'={tmps:=#[M Mb,M sb,u2,u3,u4,u5,u6,u7,u8,u9,u10,u11,u12,u13,u14,u15,u16,u17,u18,u19,u20,u21,u22,u23,u24,u25,u26,u27,u28,u29,u30,u31,u32,u33,u34,u35,u36,u37,u38,u39,u40,u41,u42,u43,u44,u45,u46,u47,u48,u49,u50,u51,u52,u53,u54,u55,u56,u57,u58,u59,u60,u61,u62,u63,u64,u65,u66,u67,u68,u69,u70,u71,u72,u73,u74],defers:=[]})->∀a2,Qw a' W3/\μ a' W3<μ a2 W):=λa' ha' a2=>by
      refine⟨?_,?_⟩
      ·rw[HJ.out]
       refine⟨qm,sv3,ha',HM3,?_,?_⟩
       ·have h1:=HFU.out;have h2:=HF.out;simp only at h1;omega
       ·rw[HG.out];rfl
      ·rw[HMU.out]
       show gn Mb W3<gn Mb W;rw[HM3.gn,HM.gn];exact HFU
     clear HG HFU
     go_wp2_with fail
     go_step3
     exact⟨rfl,HJN _ ⟨_,_,_,_,_,_,_,_,_,_,_,_,_,_,_,_,_,_,_,_,_,_,_,_,_,_,_,_,_,_,_,_,_,_,_,_,_,_,_,_,_,_,_,_,_,_,_,_,_,_,_,_,_,_,_,_,_,_,_,_,_,_,_,_,_,_,_,_,_,_,_,_,_,rfl⟩ _⟩
end
section
variable{Tb nv:Nat}
def yc7(H:zj3 lo base Mb Vb Ob Tb nv nc w0 f):zj3 lo base Mb Vb Ob Tb nv nc w0 (f+1):=by
 intro w m sv d v l hm hw hv hl
 by_cases hnil:l=[]
 ·subst hnil
  obtain⟨ao,cp,rfl⟩:∃ao cp,v=J ao 0 cp:=by
   cases d with
   |zero=>exact⟨_,_,hv.2⟩
   |succ d=>obtain⟨ao,c,h1,-⟩:=hv;exact⟨_,_,h1⟩
  have HEND:O (Yn lo base Mb Vb Ob Tb nv w0 (Fl.go [] m) (.returned (.bool true)) w):=⟨rfl,_,hw⟩;clear hm hw hv hl H
  go_enter func59,ntmps59
  go_wp2_with fail
  go_loopw [9] (λi wr=>i=I 0/\wr=w) (λi _=>0)
  case atStart=>exact⟨rfl,rfl⟩
  case round=>
   obtain⟨rfl,hwr⟩:=hrel;rw[hwr];clear hwr;go_wp2;go_ret;exact HEND
 ·cases d with
  |zero=>exact absurd hv.1 hnil
  |succ d=>
   obtain⟨ao,cp,rfl,h2,h3,h4,h5⟩:=hv;obtain⟨b,off,rfl,hb,hc⟩:=h5 hnil
   have HONE:O (∀k,k<l.length->∃sb,D w0 b (off+k) (M sb)/\∀(W:World) (m':Fl.MS) (sv':Value),m'.fuel<=f->Za lo base Mb Vb Ob Tb nv w0 W m' sv'->
     F 117 #[M Mb,M sb] W (Yn lo base Mb Vb Ob Tb nv w0 (Fl.go [l.getD k noS] m'))):=λk hk=>by
    obtain⟨p,hp,sb,vp,fv,ev,rfl,g2,g3,g4,g5,g6⟩:=hc k hk;obtain⟨e1,e2,e3,e4⟩:=hl (l.getD k noS) (by rw[getD_eq_getElem?_getD,getElem?_eq_getElem hk];exact getElem_mem hk);exact⟨sb,hp,λW m' sv' hm' hW=>one_any H g2 g3 g4 g5 g6 e1 e2 e3 e4 W m' sv' hm' hW⟩
   have HW:O (Za lo base Mb Vb Ob Tb nv w0 w m sv):=hw;have HM:O (m.fuel<=f):=(by show m.fuel<=f;omega);have HB:O (Firm base Mb Vb b):=hb;obtain⟨n,hn⟩:∃n,n=l.length:=⟨_,rfl⟩;have hn16:(n:Int)<=16:=(by omega);have hncp:(n:Int)<=(cp:Int):=(by omega);have HN:O (n=l.length):=hn;obtain⟨q,hq⟩:∃q,q=Fl.go l m:=⟨_,rfl⟩;have HQ:O (q=Fl.go l m):=hq;rw[<-hn,<-hq];clear hm hw hl H h5 hc hb hn hq h3 h2 h4
   go_enter func59,ntmps59
   go_wp2_with fail
   go_loopw [9] (λi wr=>∃(k:Nat) (m':Fl.MS) (sv':Value),i=I k/\k<=n/\Za lo base Mb Vb Ob Tb nv w0 wr m' sv'/\m'.fuel<=f/\q=Fl.go (l.drop k) m') (λi _=>n - (intOf i).toNat)
   case atStart=>exact⟨0,m,sv,rfl,Nat.zero_le _,HW,HM,by rw[HQ.out];rfl⟩
   case round=>
    obtain⟨k,m',sv',rfl,hk,hM,hF,hG⟩:=hrel;have HM1:O (Za lo base Mb Vb Ob Tb nv w0 wr m' sv'):=hM;have HF1:O (m'.fuel<=f):=hF;have HG1:O (q=Fl.go (l.drop k) m'):=hG;clear hM hF hG
    by_cases hlt:k<n
    ·have hltI:(k:Int)<(n:Int):=by omega
     obtain⟨sb,hsb,hone⟩:=HONE k (by rw[<-HN.out];exact hlt);have cb:D wr b (off+k) (M sb):=(cell?_of_block (a:=(Y b (off+k))) (HM1.fx b HB.1 HB.2.1 HB.2.2)).trans hsb;have hdr:l.drop k=l.getD k noS::l.drop (k+1):=by
      have hkl:k<l.length:=(by rw[<-HN.out];exact hlt);rw[drop_eq_getElem_cons hkl,getD_eq_getElem?_getD,getElem?_eq_getElem hkl];rfl
     have hgc:=Fl.oe (l.getD k noS) (l.drop (k+1)) m';rw[<-hdr,<-HG1.out]at hgc;have hfu:=Fl.iR [l.getD k noS] m';have hcall:=hone wr m' sv' HF1 HM1.out;obtain⟨qq,hqq⟩:∃qq,qq=Fl.go [l.getD k noS] m':=⟨_,rfl⟩;rw[<-hqq]at hgc hfu hcall;have HGC:O (q=if qq.1=true then Fl.go (l.drop (k+1)) qq.2 else qq):=hgc;have HFU:O (qq.2.fuel<=m'.fuel):=hfu;have HC:O (F 117 #[M Mb,M sb] wr (Yn lo base Mb Vb Ob Tb nv w0 qq)):=hcall;clear hqq hgc hfu hcall hone hsb hdr
     go_wp2_with fail
     refine Calls.mono HC ?_;rintro e W2 ⟨rfl,sv2,hM2⟩;have HM2:O (Za lo base Mb Vb Ob Tb nv w0 W2 qq.2 sv2):=hM2;clear hM2 HC cb;obtain⟨qb,qm⟩:=qq
     cases qb with
     |false=>
      have HEND:O (Yn lo base Mb Vb Ob Tb nv w0 q (.returned (.bool false)) W2):=by
       show Yn _ _ _ _ _ _ _ _ _ _ _;rw[HGC.out];exact⟨rfl,_,HM2⟩
      go_wp2;go_ret;exact HEND
     |true=>
      go_wp2
      go_roundw
      case rel=>exact⟨k+1,qm,sv2,by go_num,by omega,HM2,Nat.le_trans HFU HF1,by rw[HGC.out];rfl⟩
      case measure=>simp[intOf];omega
    ·have hge:¬(k:Int)<(n:Int):=by omega
     have HEND:O (Yn lo base Mb Vb Ob Tb nv w0 q (.returned (.bool true)) wr):=by
      show Yn _ _ _ _ _ _ _ _ _ _ _;rw[HG1.out,drop_of_length_le (by rw[<-HN.out];omega)];exact⟨rfl,_,HM1⟩
     go_wp2;go_ret;exact HEND
def all_any(f:Nat):zj3 lo base Mb Vb Ob Tb nv nc w0 f:=by
 induction f with
 |zero=>exact λw m sv d v l hm=>absurd hm (Nat.not_lt_zero _)
 |succ f ih=>exact yc7 ih
end
def zj4(P:Program)(ops:Array Oper)(S:World->Prop)(Q:Exit->Act->World->Prop):List Oper->Act->World->Prop
 |[],a,w=>Q .normal a w
 |o::l,a,w=>wpList P ops (Exit.then (λa1 w1=>S w1/\zj4 P ops S Q l a1 w1) Q) [o] a w
section
variable{S:World->Prop}
def zt5{l:List Oper}(h:wpList P ops (Exit.then (λa1 w1=>S w1/\zj4 P ops S Q l a1 w1) Q) [o] a w):zj4 P ops S Q (o::l) a w:=h
def st_end(h:Q .normal a w):zj4 P ops S Q [] a w:=h
def yzy{ops:Array Oper}:∀(τ:List Nat) (tq:List Oper) (pre:List Nat) (a:Act) (w:World),τ.map (λi=>ops[i]?)=tq.map some->Uz ops pre τ=true->
  zj4 P ops S Q tq a w->wpAnyH P .any ops Q S τ.length (Zp ops.size pre) a w
 |[],tq,pre,a,w,hto,hB,h=>by
  have:tq=[]:=by cases tq with|nil=>rfl|cons o tq=>simp at hto
  subst this;simp only[Uz,Qn]at hB;exact wpAnyH_done hB h 0
 |i::τ,tq,pre,a,w,hto,hB,h=>by
  cases tq with
  |nil=>simp at hto
  |cons o tq=>
   simp only[map_cons,List.cons.injEq]at hto;simp only[Uz,Qk,Qn]at hB;refine wpAnyH_all hB.1 (by simp) (λj hj=>?_);simp only[mem_singleton]at hj;subst hj;refine wpOp_mono (λa' w' h'=>⟨h'.1,?_⟩) (Uy hto.1 h);have:=yzy τ tq (pre++[j]) a' w' hto.2 hB.2 h'.2
   rwa [Yx]at this
def zcw{id:Nat}{l:List Oper}(S:World->Prop)(σ:List Nat)(i j:Nat)(τ τ':List Nat)(hm:P.follows .mixedOrders=true)
  (hB:(noSelect l.toArray && (zvv l.toArray [] σ && (decide (ready .any l.toArray (Zp l.toArray.size σ)=[i,j]) && (Uz l.toArray (σ++[i]) τ && Uz l.toArray (σ++[j]) τ'))))=true) (bt:l.length=τ.length+1+σ.length) (hlen':τ'.length=τ.length)
  (so:List Oper) (oi oj:Oper) (tq tq':List Oper) (hso:σ.map (λi=>l.toArray[i]?)=so.map some) (hi:l.toArray[i]?=some oi) (hj:l.toArray[j]?=some oj) (hto:τ.map (λi=>l.toArray[i]?)=tq.map some) (hto':τ'.map (λi=>l.toArray[i]?)=tq'.map some) (hQ:∀c a d v w,Q (.panic c) (put a d v) w->Q (.panic c) a w) (hS:S w.drew)
  (h:∀ops:Array Oper,zy3 P ops S (λa'=>zj4 P ops S Q (oi::tq) a' w.drew/\zj4 P ops S Q (oj::tq') a' w.drew) so a):(Code.region id l.toArray true).wp P Q a w:=by
 simp only[Qk,Qn]at hB;refine wp_region_held (S:=S) hm ?_;have key:=zp4 (P:=P) (Q:=Q) (S:=S) (ops:=l.toArray) (f:=τ.length+1) (w:=w.drew) hB.1 hQ hS σ so [] a hso hB.2.1 ?_
 ·rw[<-bt]at key;simpa [Zp] using key
 ·refine zn0 (λa' h'=>?_) _ _ (h l.toArray)
  have step:∀(x:Nat) (ox:Oper) (tx:List Nat) (tox:List Oper),l.toArray[x]?=some ox->tx.map (λi=>l.toArray[i]?)=tox.map some->Uz l.toArray (σ++[x]) tx=true->tx.length=τ.length->zj4 P l.toArray S Q (ox::tox) a' w.drew->wpOp P l.toArray Q x (λa'' w''=>S w''/\wpAnyH P .any l.toArray Q S τ.length ((Zp l.toArray.size ([]++σ)).setIfInBounds x true) a'' w'') a' w.drew:=by
   intro x ox tx tox hx htx hf hl hw;refine wpOp_mono (λa'' w'' h''=>⟨h''.1,?_⟩) (Uy hx hw);have:=yzy tx tox (σ++[x]) a'' w'' htx hf h''.2;rw[Yx,hl]at this;simpa using this
  refine wpAnyH_all (rs:=[i,j]) (by simpa using hB.2.2.1) (by simp) (λx hx=>?_);simp only[mem_cons,not_mem_nil,or_false]at hx;rcases hx with rfl|rfl
  ·exact step _ oi τ tq hi hto hB.2.2.2.1 rfl h'.1
  ·exact step _ oj τ' tq' hj hto' hB.2.2.2.2 hlen' h'.2
end
def zyv(w:World)(v:Value)(l:List Nat):Prop:=
 ∃ao cap,v=J ao l.length cap/\l.length<=cap/\cap<=maxLen/\(∀x∈l,x<4294967296)/\(l≠[]->∃b off,ao=some (Y b off)/\b<w.heap.size/\∀i,i<l.length->w.cell? (Y b (off+i))=some (.int .u32 (l.getD i 0)))
def Vr(l:List Nat):Vs:=l.map λ(x:Nat)=>int .u32 (x:Int)
def zq1(l:List Nat)(i:Nat)(h:i<l.length):(Vr l)[i]?=some (.int .u32 (l.getD i 0)):=by unfold Vr;simp[getD_eq_getElem?_getD,h]
def Tryz.infoU32P:(Tryz.prog.info? 38).map (λi=>(i.zero,i.size,i.bytes))=some (some (.int .u32 0),1,4):=by kernel_rfl
def Tryz.infoU32S:(Tryz.prog.info? 38).map (·.size)=some 1:=by kernel_rfl
def Jc(n:Nat):Array Value:=(replicate n (int .u32 0)).toArray
def ytw(W:World)(c:Int)(n:Nat)(hc:c=(n:Int))(hn:n<=100000):(Instr.makeSlice 37 (I c) (I c)).run prog W=.ok (Sq W.heap.size 0 n n) (W.alloc (.cells (Jc n) 38)):=by
 subst hc;obtain⟨i0,hi0,hz0,hzs,hzb⟩:=info_parts Tryz.infoU32P;have h:=run_makeSlice (w:=W) 37 38 i0 (.int .u32 0) underlying37 hi0 hz0 .i64 .i64 (n:Int) (n:Int) (by omega) (Int.le_refl _) (by rw[hzs];simp;omega) (by rw[hzb];omega) (by omega);rw[h,hzs];have e:madeCells (int .u32 0).cells ((n:Int).toNat*1)=Jc n:=by
  apply Array.ext
  ·simp[madeCells,Jc]
  ·intro i h1 h2
   simp[madeCells,Jc,cells,Nat.mod_one]
 rw[e,Qm]
def zow{rest:List Oper}(hgd:o.guard=none)(d s:Operand)(dT sT:TypeId)
  (ho:o.op=.call {callee:=.builtin .copy,args:=#[d,s],argTypes:=#[dT,sT]}) (elem:TypeId) (hu:P.underlying dT=some (.slice elem)) (cH:(P.info? elem).map (·.size)=some 1)
  (dp sp:Option Addr) (dLen dCap sLen sCap:Nat) (hd:a.eval d=J dp dLen dCap) (hs:a.eval s=J sp sLen sCap)
  (g off:Nat) (cur:Vs) (t:TypeId) (hg:w.heap[g]?=some (.cells cur.toArray t (0,0))) (cs:Vs) (hn:cs.length=Nat.min sLen dLen)
  (hpos:0<cs.length->dp=some (Y g off)/\∃ad,sp=some ad/\∀j v,cs[j]?=some v->w.cell? (ad.add j)=some v)
  (hfit:off+cs.length<=cur.length) (h1:∀v∈cs,v.oneCell'=true)
  (h:∀w',O (w'.heap[g]?=some (.cells (splice cur off cs).toArray t (0,0)))->w.grownBy w' (some g)->w'.heap.size=w.heap.size->wpList P ops Q rest (a.put o.dst (goInt cs.length)) w'):
  wpList P ops Q (o::rest) a w:=by
 by_cases h0:cs.length=0
 ·obtain rfl:cs=[]:=eq_nil_of_length_eq_zero h0
  refine wpList_copy_nothing hgd d s dT sT ho elem hu cH dp sp dLen dCap sLen sCap hd hs (by simpa using hn.symm) ?_;exact h w (show _=_ by simpa [splice] using hg) (grownBy.refl _ _) rfl
 ·obtain⟨rfl,ad,rfl,hsrc⟩:=hpos (by omega)
  refine wpList_copy_own hgd d s dT sT ho elem hu cH g off dLen dCap ad sLen sCap hd hs cur.toArray t hg cs hn hsrc (by simpa using hfit) h1 ?_;refine h _ (show _=_ by simpa [splice] using setRow_heap w g _ _ t _ hg) ⟨rfl,rfl,rfl,by simp[setRow],λk hk hne=>setRow_other w g k _ (by simpa using hne)⟩ (by simp[setRow])
structure zj5(w W:World)(Vb Tb Ob nv:Nat):Prop where
 be:E w W
 sz:W.heap.size=w.heap.size+4
 e:W.heap[w.heap.size]?=some (.cells #[Zq,Zq,.bool false] 42)
 v:W.heap[Vb]?=some (.cells (Jc nv) 38 (0,0))
 t:W.heap[Tb]?=some (.cells #[.func (.func 111) #[] #[]] 233 (0,0))
 o:W.heap[Ob]?=some (.cells (yxx Tb) 234 (0,0))
 g:w.heap.size<Vb/\Vb<w.heap.size+4/\w.heap.size<Tb/\Tb<w.heap.size+4/\w.heap.size<Ob/\Ob<w.heap.size+4/\Vb≠Tb/\Vb≠Ob/\Tb≠Ob
def Xz(u:World)(o:Obj)(k:Nat)(hk:k<u.heap.size):(u.alloc o).heap[k]?=u.heap[k]?:=Below.heap_alloc _ _ _ hk
def Uk(u:World)(o:Obj)(k:Nat)(hk:u.heap.size=k):(u.alloc o).heap[k]?=some o:=by subst hk;exact heap_alloc_last u o
def yc8(w:World)(nv:Nat):zj5 w (opW ((w.alloc (.cells #[Zq,Zq,.bool false] 42)).alloc (.cells (Jc nv) 38)).drew) (w.heap.size+1) (w.heap.size+2) (w.heap.size+1+1+1) nv:=by
 unfold opW;refine⟨((((Below.refl _ w).alloc lE _).alloc (by simp) _).drew.alloc (by simp;omega) _).alloc (by simp;omega) _,by simp,?_,?_,?_,?_,by omega⟩
 ·rw[Xz _ _ _ (by simp<;>omega),Xz _ _ _ (by simp<;>omega)]
  show ((w.alloc _).alloc _).heap[w.heap.size]?=_;rw[Xz _ _ _ (by simp),Uk _ _ _ rfl]
 ·rw[Xz _ _ _ (by simp<;>omega),Xz _ _ _ (by simp<;>omega)]
  show ((w.alloc _).alloc _).heap[w.heap.size+1]?=_;rw[Uk _ _ _ (by simp)]
 ·rw[Xz _ _ _ (by simp<;>omega),Uk _ _ _ (by simp)]
 ·rw[Uk _ _ _ (by simp)];simp
def zg7(w:World)(nv:Nat):let W1:=opW (w.alloc (.cells #[Zq,Zq,.bool false] 42)).drew
  E w W1/\W1.heap.size=w.heap.size+3/\zj5 w (W1.alloc (.cells (Jc nv) 38)) W1.heap.size (w.heap.size+1) (w.heap.size+1+1) nv:=by
 intro W1;have hb:E w W1:=(((Below.refl _ w).alloc lE _).drew.alloc (by simp) _).alloc (by simp;omega) _
 have hz:W1.heap.size=w.heap.size+3:=by simp[W1,opW]
 refine⟨hb,hz,hb.alloc (by omega) _,by simp[hz],?_,Uk _ _ _ rfl,?_,?_,by omega⟩
 ·rw[Xz _ _ _ (by omega)]
  show (((w.alloc _).drew.alloc _).alloc _).heap[w.heap.size]?=_;rw[Xz _ _ _ (by simp<;>omega),Xz _ _ _ (by simp<;>omega)];show (w.alloc _).heap[w.heap.size]?=_;rw[Uk _ _ _ rfl]
 ·rw[Xz _ _ _ (by omega)]
  show (((w.alloc _).drew.alloc _).alloc _).heap[w.heap.size+1]?=_;rw[Xz _ _ _ (by simp<;>omega),Uk _ _ _ (by simp)]
 ·rw[Xz _ _ _ (by omega)]
  show (((w.alloc _).drew.alloc _).alloc _).heap[w.heap.size+1+1]?=_;rw[Uk _ _ _ (by simp)];simp
def zj6(cs:List Nat)(k nv:Nat)(h:nv=cs.length+k):splice (replicate nv (int .u32 0)) 0 (Vr cs)=Vr (cs++replicate k 0):=by
 subst h;unfold splice Vr;simp
def yq2(l:List Nat)(n:Nat)(h:n=l.length):splice (replicate n (int .u32 0)) 0 (Vr l)=Vr l:=by
 have:=zj6 l 0 n (by omega);simpa using this
def ygx{W W2:World}{Tb nv Wj:Nat}(h:zj5 w W Vb Tb Ob nv)(hW2:W2=W.alloc (.cells #[Sq Vb 0 nv nv,Zq,I Wj,Sq Ob 0 5 5] 160))(hnv:nv=cs.length+k)(hn10:nv<=10)(hF:Wj<=2000)(hb:∀x∈cs,x<4294967296)
  (hrow:W3.heap[Vb]?=some (.cells (splice (replicate nv (int .u32 0)) 0 (Vr cs)).toArray 38 (0,0))) (hg:W2.grownBy W3 (some Vb)) (hz:W3.heap.size=W2.heap.size):
  Za w.heap.size W3.heap.size (w.heap.size+4) Vb Ob Tb nv W3 W3 ⟨cs++replicate k 0,[],Wj⟩ Zq/\W3.heap[w.heap.size]?=some (.cells #[Zq,Zq,.bool false] 42)/\E w W3/\W3.heap.size=w.heap.size+5:=by
 obtain⟨g1,g2,g3,g4,g5,g6,g7,g8,g9⟩:=h.g;have cH:=h.sz
 have hz2:W2.heap.size=w.heap.size+5:=by rw[hW2];simp[cH]
 have hb2:E w W2:=by rw[hW2];exact h.be.alloc (by omega) _
 have q2:∀j,j<w.heap.size+4->W2.heap[j]?=W.heap[j]?:=λj hj=>by rw[hW2];exact Xz _ _ _ (by omega)
 have q3:∀j,j<w.heap.size+5->j≠Vb->W3.heap[j]?=W2.heap[j]?:=λj hj hne=>hg.block j (by omega) (by simpa using hne);have hm:W3.heap[w.heap.size+4]?=some (.cells #[Sq Vb 0 nv nv,Zq,I Wj,Sq Ob 0 5 5] 160):=by
  rw[q3 _ (by omega) (by omega),hW2];exact Uk _ _ _ (by omega)
 rw[zj6 cs k nv hnv]at hrow;refine⟨?_,(q3 _ (by omega) (by omega)).trans ((q2 _ (by omega)).trans h.e),⟨hg.os.trans hb2.os,hg.tape.trans hb2.tape,hg.output.trans hb2.output,by omega,λj hj=>(q3 j (by omega) (by omega)).trans (hb2.block j hj)⟩,by omega⟩;refine{im:=⟨⟨by omega,by omega,by omega⟩,⟨by omega,by omega,by omega,by omega⟩,⟨by omega,by omega,by omega,by omega,by omega⟩,hn10,(q3 _ (by omega) (by omega)).trans ((q2 _ (by omega)).trans h.o),(q3 _ (by omega) (by omega)).trans ((q2 _ (by omega)).trans h.t)⟩,bel:=Below.refl _ _,fx:=λ_ _ _ _=>rfl,ee:=Nat.le_refl _,cM:= ?_,hv:=by simp[hnv],cV:= ?_,vb:= ?_,sl:=by simp;exact hF,os:=⟨rfl,.inl ⟨rfl,rfl⟩⟩}
 ·exact⟨λj hj=>(cR j hm).trans (by rcases(show j=0\/j=1\/j=2\/j=3 by omega) with rfl|rfl|rfl|rfl<;>rfl),λj=>by simp[frozen?,hm]⟩
 ·exact⟨λj hj=>(cR j hrow).trans (by rw[getElem?_toArray,zq1 _ _ (by simp;omega)]),λj=>by simp[frozen?,hrow]⟩
 ·intro x hx
  rcases mem_append.1 hx with h1|h1
  ·exact hb x h1
  ·have:=eq_of_mem_replicate h1;omega
def yzx{b b':Nat}{e:TypeId}{xs:Vs}(h:w.ownsRow b e k v n xs)(hb:b'<=b):w.ownsRow b' e k v n xs:=by
 refine⟨h.1,?_⟩;rcases h.2 with h1|⟨g,cap,cur,h1,h2,h3⟩
 ·exact .inl h1
 ·exact .inr ⟨g,cap,cur,h1,by omega,h3⟩
def zxz{wz:World}{N:Nat}{u0 u1 u2:Value}(v0 v1 v2:Value)(c0:wz.cell? (Y N 0)=some u0)(c1:wz.cell? (Y N 1)=some u1)(c2:wz.cell? (Y N 2)=some u2):
  (((wz.setCell (Y N 0) v0).setCell (Y N 1) v1).setCell (Y N 2) v2).cell? (Y N 0)=some v0/\(((wz.setCell (Y N 0) v0).setCell (Y N 1) v1).setCell (Y N 2) v2).cell? (Y N 1)=some v1/\(((wz.setCell (Y N 0) v0).setCell (Y N 1) v1).setCell (Y N 2) v2).cell? (Y N 2)=some v2/\
  (∀k,k≠N->(((wz.setCell (Y N 0) v0).setCell (Y N 1) v1).setCell (Y N 2) v2).heap[k]?=wz.heap[k]?)/\(((wz.setCell (Y N 0) v0).setCell (Y N 1) v1).setCell (Y N 2) v2).heap.size=wz.heap.size:=by
 refine⟨?_,?_,?_,λk hk=>?_,by simp⟩
 ·exact(cell?_setCell_other _ _ _ _ (by simp)).trans ((cell?_setCell_other _ _ _ _ (by simp)).trans (cell?_setCell_same' _ _ _ (by simp[c0])))
 ·refine(cell?_setCell_other _ _ _ _ (by simp)).trans (cell?_setCell_same' _ _ _ ((congrArg Option.isSome (cell?_setCell_other _ _ _ _ (by simp))).trans ?_))
  simp[c1]
 ·refine cell?_setCell_same' _ _ _ ((congrArg Option.isSome ((cell?_setCell_other _ _ _ _ (by simp)).trans (cell?_setCell_other _ _ _ _ (by simp)))).trans ?_)
  simp[c2]
 ·rw[Zx _ _ _ _ _ hk,Zx _ _ _ _ _ hk,Zx _ _ _ _ _ hk]
def zg8(n:Nat)(q:Bool×Fl.MS)(w:World)(e:Ending)(w':World):Prop:=
 ∃Lb sv,e=.returned (.agg #[Sq Lb 0 n n,sv,.bool q.1])/\E w w'/\w.heap.size<=Lb/\w'.heap[Lb]?=some (.cells (Vr (q.2.vars.take n)).toArray 38 (0,0))/\
  (q.2.vars.take n).length=n/\(∀x∈q.2.vars,x<4294967296)/\w'.ownsRow w.heap.size 47 2 sv q.2.aE.length (Vh q.2.aE)/\sv.ownBlock≠some Lb/\q.2.aE.length<=2000
def yc9{Pb:Nat}{p:Fl.aV}(fuel:Int)(Wj:Nat)(hF:(Wj:Int)=min (max fuel 0) 2000)(hp:Ui (λb=>b<w.heap.size) w Pb p)(hok:p.Ok)(hcs:zyv w cv cs)(bt:cs.length=p.cells.length):
  F 30 #[M Pb,cv,I fuel] w (zg8 cs.length (p.run cs Wj) w):=by
 obtain⟨ao,cap,rfl,g1,g2,g3,g4⟩:=hcs;obtain⟨Lb0,bC,bH,bv,s1,s2,hP,hL,hC,hH,hB⟩:=hp;have c3:D w Pb 3 (I p.ak):=hP.c 3 (by omega);have c4:D w Pb 4 bv:=hP.c 4 (by omega);have cq:=hok.lo;have hce:=hok.ce;obtain⟨n,hn⟩:∃n,n=cs.length:=⟨_,rfl⟩;obtain⟨k,hk⟩:∃k,k=p.ak:=⟨_,rfl⟩;rw[<-hk]at c3
 have n6:(n:Int)<=6:=by omega
 have k4:(k:Int)<=4:=by omega
 obtain⟨nv,hnv⟩:∃nv,nv=n+k:=⟨_,rfl⟩;have HMS:O (∀W,(Instr.makeSlice 37 (I ((n:Int)+(k:Int))) (I ((n:Int)+(k:Int)))).run prog W=.ok (Sq W.heap.size 0 nv nv) (W.alloc (.cells (Jc nv) 38))):=λW=>ytw W _ nv (by omega) (by omega);have HMS2:O (∀W,(Instr.makeSlice 37 (I (n:Int)) (I (n:Int))).run prog W=.ok (Sq W.heap.size 0 n n) (W.alloc (.cells (Jc n) 38))):=λW=>ytw W _ n rfl (by omega);obtain⟨M1,hM1⟩:∃M1:Int,M1=max fuel 0:=⟨_,rfl⟩
 have hM2:(Wj:Int)=min M1 2000:=by rw[hF,hM1]
 rw[<-hn];have HP3:O (∀W,E w W->D W Pb 3 (I k)):=λW hW=>cT hW s1 c3;have HP4:O (∀W,E w W->D W Pb 4 bv):=λW hW=>cT hW s1 c4;have HN:O (n=cs.length):=hn;have HKL:O (k=p.ak):=hk;have HNV:O (nv=n+k):=hnv;have HM2:O ((Wj:Int)=min M1 2000):=hM2;have HM1:O (M1=max fuel 0):=hM1
 have HF2:O (Wj<=2000):=by show Wj<=2000;omega
 have HG:O (cs.length<=cap/\cap<=maxLen/\(∀x∈cs,x<4294967296)/\(cs≠[]->∃b off,ao=some (Y b off)/\b<w.heap.size/\∀i,i<cs.length->D w b (off+i) (.int .u32 (cs.getD i 0)))):=⟨g1,g2,g3,g4⟩;have HOK:O p.Ok:=hok;have HLEN:O (cs.length=p.cells.length):=bt;have HB:O (Zl 4 (λb=>b<w.heap.size) w bv p.aZ):=hB
 obtain⟨ba,bn,bc,rfl⟩:∃ba bn bc,bv=J ba bn bc:=by obtain⟨x,y,h1,-⟩:=hB;exact⟨_,_,_,h1⟩
 clear hn hk hnv hM2 hM1 hF g1 g2 g3 g4 hok bt hB hP hL hC hH cq hce c3 c4 s1 s2
 go_enter func30,ntmps30
 go_wp2_with fail
 refine zcw (λW=>E w W) [0,1,2,3,4,5,6,8,9,10] 7 11 [11,12,13,14] [7,12,13,14] (by kernel_rfl) (by kernel_rfl) rfl rfl [_,_,_,_,_,_,_,_,_,_] _ _ [_,_,_,_] [_,_,_,_] rfl rfl rfl rfl rfl (λc a d v w h=>by cases d<;>exact h) ((Below.refl _ _).alloc lE _).drew (λops=>?_);simp only[getElem_toArray,getElem_cons_succ,getElem_cons_zero]
 iterate 8
  refine zt7 rfl (λWx hK=>?_);apply Exists.intro
  refine⟨λw' hw'=>?_,?_⟩
  ·have e3:=HP3 w' hw'
   clear hw';go_simp
   try with_reducible rfl
  go_simp;refine hK _ ?_;clear hK Wx
 refine zt7 rfl (λWx hK=>?_);refine⟨I M1,λw' hw'=>?_,?_⟩
 ·rw[HM1.out]
  clear hw';go_simp
  try with_reducible rfl
 go_simp;refine hK _ ?_;clear hK Wx;refine zt7 rfl (λWx hK=>?_);refine⟨I Wj,λw' hw'=>?_,?_⟩
 ·rw[HM2.out]
  clear hw';go_simp
  try with_reducible rfl
 go_simp;refine hK _ ?_;clear hK Wx;refine zb4 ⟨?_,?_⟩
 focus
  refine zt5 ?_
  go_wp2_with fail
  rw[HMS.out]
  go_wp2_with fail
  refine⟨((((Below.refl _ _).alloc lE _).alloc (by simp) _)).drew,?_⟩;refine zt5 ?_
  go_wp2_with fail
  refine(zoy _).mono ?_;rintro e w1 ⟨rfl,hw1⟩;rw[hw1];clear hw1 w1
  go_wp2_with fail
  obtain⟨W,hW⟩:∃W,W=opW ((w.alloc (.cells #[Zq,Zq,.bool false] 42)).alloc (.cells (Jc nv) 38)).drew:=⟨_,rfl⟩;obtain⟨Vb,hVb⟩:∃Vb,Vb=w.heap.size+1:=⟨_,rfl⟩;obtain⟨Tb,hTb⟩:∃Tb,Tb=w.heap.size+2:=⟨_,rfl⟩;obtain⟨Ob,hOb⟩:∃Ob,Ob=w.heap.size+1+1+1:=⟨_,rfl⟩;have HS:O (zj5 w W Vb Tb Ob nv):=by
   show zj5 _ _ _ _ _ _;rw[hW,hVb,hTb,hOb];exact yc8 w nv
  rw[<-hW,<-hOb,<-hVb];clear hW hVb hTb hOb
 rotate_left
 focus
  refine zt5 ?_
  go_wp2_with fail
  refine(zoy _).mono ?_;rintro e w1 ⟨rfl,hw1⟩;rw[hw1];clear hw1 w1
  go_wp2_with fail
  obtain⟨W1,hW1⟩:∃W1,W1=opW (w.alloc (.cells #[Zq,Zq,.bool false] 42)).drew:=⟨_,rfl⟩;have hB1:E w W1:=(by rw[hW1];exact(zg7 w nv).1);have hz1:w.heap.size+3=W1.heap.size:=(by rw[hW1];exact(zg7 w nv).2.1.symm);have HMT:O (zj5 w (W1.alloc (.cells (Jc nv) 38)) W1.heap.size (w.heap.size+1) (w.heap.size+1+1) nv):=(by rw[hW1];exact(zg7 w nv).2.2);rw[<-hW1];clear hW1;refine⟨hB1,?_⟩;refine zt5 ?_
  go_wp2_with fail
  rw[HMS.out]
  go_wp2_with fail
  obtain⟨W,hW⟩:∃W,W=W1.alloc (.cells (Jc nv) 38):=⟨_,rfl⟩;obtain⟨Vb,hVb⟩:∃Vb,Vb=W1.heap.size:=⟨_,rfl⟩;obtain⟨Tb,hTb⟩:∃Tb,Tb=w.heap.size+1:=⟨_,rfl⟩;obtain⟨Ob,hOb⟩:∃Ob,Ob=w.heap.size+1+1:=⟨_,rfl⟩;have HS:O (zj5 w W Vb Tb Ob nv):=by
   show zj5 _ _ _ _ _ _;rw[hW,hVb,hTb,hOb];exact HMT
  rw[<-hW,<-hVb,<-hOb];clear hW hVb hTb hOb hB1 hz1 HMT
 all_goals
  have hS:=HS.out;have hBW:=hS.be;have hsW:=hS.sz;refine⟨hBW,?_⟩;refine zt5 ?_
  go_wp2_with fail
  refine⟨hBW,?_⟩;refine zt5 ?_
  go_wp2_with fail
  obtain⟨W2,hW2⟩:∃W2,W2=W.alloc (.cells #[Sq Vb 0 nv nv,Zq,I (Wj:Int),Sq Ob 0 5 5] 160):=⟨_,rfl⟩;have hB2:E w W2:=(by rw[hW2];exact hBW.alloc (by omega) _);have hz2:w.heap.size+5=W2.heap.size:=(by rw[hW2];simp[hsW]);have m0:W2.cell? (Y (w.heap.size+4) 0)=some (Sq Vb 0 nv nv):=by
   rw[hW2];exact cR 0 (Uk _ _ _ hsW)
  have kV:W2.heap[Vb]?=some (.cells (replicate nv (int .u32 0)).toArray 38 (0,0)):=by
   rw[hW2,Xz _ _ _ (by have:=hS.g;omega)];exact hS.v
  have HW2:O (W2=W.alloc (.cells #[Sq Vb 0 nv nv,Zq,I (Wj:Int),Sq Ob 0 5 5] 160)):=hW2;rw[<-hW2];clear hW2 hS hBW hsW;refine⟨hB2,?_⟩;refine zt5 ?_
  go_wp2_with fail
  refine⟨hB2,?_⟩;refine st_end ?_;have KV:O (W2.heap[Vb]?=some (.cells (replicate nv (int .u32 0)).toArray 38 (0,0))):=kV;have HB2:O (E w W2):=hB2;clear kV hB2 hz2
  go_wp2_with (refine zow rfl (.tmp 27) (.tmp 28) 37 37 rfl 38 underlying37 Tryz.infoU32S _ _ _ _ _ _ rfl rfl Vb 0 (replicate nv (int .u32 0)) 38 KV (Vr cs) ?c1 ?c2 ?c3 ?c4 ?_)
  case c1=>
   have h1:=HN.out;have h2:=HNV.out;have h3:Nat.min n nv=n:=Nat.min_eq_left (by omega);rw[h3];simp[Vr];exact h1.symm
  case c2=>
   intro hpos
   try refine⟨rfl,?_⟩
   obtain⟨b,off,h1,h2,h3⟩:=HG.2.2.2 (λh=>by rw[h]at hpos;simp[Vr]at hpos);refine⟨_,h1,λj v hj=>?_⟩;have hjl:j<cs.length:=by
    have:=(List.getElem?_eq_some_iff.1 hj).1;simpa [Vr] using this
   rw[zq1 cs j hjl]at hj;simp only[Ql]at hj
   have h5:((Y b off):Addr).add j=(Y b (off+j)):=by unfold Addr.add;split<;>simp_all
   rw[h5,<-hj];exact(cT HB2 h2 (h3 j hjl))
  case c3=>have h1:=HN.out;have h2:=HNV.out;simp[Vr];omega
  case c4=>intro v hv;simp only[Vr,mem_map]at hv;obtain⟨x,-,rfl⟩:=hv;rfl
  intro W3 hrow hg3 hz3;obtain⟨hM,hE,hB3,hs3⟩:=ygx (k:=k) (cs:=cs) HS HW2 (by rw[<-HN.out];exact HNV) (by have:=HNV.out;omega) HF2 HG.2.2.1 hrow hg3 hz3;have HM:O (Za w.heap.size W3.heap.size (w.heap.size+4) Vb Ob Tb nv W3 W3 ⟨cs++replicate k 0,[],Wj⟩ Zq):=hM;have HE:O (W3.heap[w.heap.size]?=some (.cells #[Zq,Zq,.bool false] 42)):=hE;have HB3:O (E w W3):=hB3;have HS3:O (W3.heap.size=w.heap.size+5):=hs3;have p4:=HP4 W3 hB3;have HVG:O (w.heap.size<Vb/\Vb<w.heap.size+4):=⟨HS.g.1,HS.g.2.1⟩;have HALL:O (F 59 #[Pp (w.heap.size+4) 0,J ba bn bc] W3 (Yn w.heap.size W3.heap.size (w.heap.size+4) Vb Ob Tb nv W3 (p.run cs Wj))):=by
   have hgo:p.run cs Wj=Fl.go p.aZ ⟨cs++replicate k 0,[],Wj⟩:=(by rw[HKL.out];rfl);show Calls _ _ _ _ _;rw[hgo];refine all_any (nc:=p.aj.length) (Wj+1) W3 _ _ 4 _ p.aZ (Nat.lt_succ_self _) HM ?_ ?_
   ·exact Zl.kept (λb hb=>⟨by have:=HS3.out;omega,by omega,by have:=HVG.out;omega⟩) (λb hb=>HB3.block b hb) _ _ _ HB.out
   ·have h1:=HOK.aZ
    rw[<-HLEN.out,<-HKL.out,<-HN.out,<-HNV.out]at h1;exact h1
  obtain⟨q,hq⟩:∃q,q=p.run cs Wj:=⟨_,rfl⟩;rw[<-hq]at HALL;have HQ:O (q=p.run cs Wj):=hq;clear hrow hg3 hz3 hM hE hB3 hs3 hq m0 HW2 KV HB2 HS HP3 HP4
  go_wp2_with fail
  refine Calls.mono HALL ?_;rintro e W4 ⟨rfl,sv4,hM4⟩;obtain⟨sa,sn,sc,rfl⟩:∃sa sn sc,sv4=J sa sn sc:=by
   rcases hM4.os.2 with⟨h1,_⟩|⟨g,cp,cur,h1,_⟩
   ·exact⟨_,_,_,h1⟩
   ·exact⟨_,_,_,h1⟩
  have HM4:O (Za w.heap.size W3.heap.size (w.heap.size+4) Vb Ob Tb nv W3 W4 q.2 (J sa sn sc)):=hM4;clear hM4 HALL p4
  go_wp2_with fail
  rw[HMS2.out];obtain⟨W5,hW5⟩:∃W5,W5=W4.alloc (.cells (Jc n) 38):=⟨_,rfl⟩;obtain⟨Lb,hLb⟩:∃Lb,Lb=W4.heap.size:=⟨_,rfl⟩;have HM5:O (Za w.heap.size W3.heap.size (w.heap.size+4) Vb Ob Tb nv W3 W5 q.2 (J sa sn sc)):=HM4.below (by rw[hW5];exact(Below.refl _ _).alloc lE _);have m05:D W5 (w.heap.size+4) 0 (Sq Vb 0 nv nv):=HM5.cM.c 0 (by omega);have m15:D W5 (w.heap.size+4) 1 (J sa sn sc):=HM5.cM.c 1 (by omega);have KL:O (W5.heap[Lb]?=some (.cells (replicate n (int .u32 0)).toArray 38 (0,0))):=by
   show _=_;rw[hW5,hLb];exact Uk _ _ _ rfl
  have HL5:O (W3.heap.size<=Lb/\Lb<W5.heap.size):=by
   refine⟨?_,?_⟩
   ·rw[hLb];exact HM4.ee
   ·rw[hW5,hLb];simp
  have HTK:O ((q.2.vars.take n).length=n):=by
   show _=_;have h1:=HM5.hv;have h2:=HNV.out;rw[length_take];omega
  have HOS:O (∀b,(J sa sn sc).ownBlock=some b->W3.heap.size<=b/\b<Lb):=λb hb=>by rw[hLb];exact HM4.os.lt b hb
  rw[<-hW5,<-hLb];clear hW5 hLb HM4
  go_wp2_with (refine zow rfl (.tmp 39) (.tmp 43) 37 37 rfl 38 underlying37 Tryz.infoU32S _ _ _ _ _ _ rfl rfl Lb 0 (replicate n (int .u32 0)) 38 KL (Vr (q.2.vars.take n)) ?d1 ?d2 ?d3 ?d4 ?_)
  case d1=>
   have h2:=HNV.out;have h3:Nat.min nv n=n:=Nat.min_eq_right (by omega);rw[h3,Vr,length_map];exact HTK
  case d2=>
   intro hpos
   try refine⟨rfl,?_⟩
   try refine⟨_,rfl,?_⟩
   intro j v hj;have hjl:j<(q.2.vars.take n).length:=by
    have:=(List.getElem?_eq_some_iff.1 hj).1;simpa [Vr] using this
   rw[zq1 _ j hjl]at hj;simp only[Ql]at hj
   have h5:((Y Vb 0):Addr).add j=(Y Vb j):=by unfold Addr.add;split<;>simp_all
   try rw[h5]
   rw[<-hj];have hjn:j<n:=(by have:=HTK.out;omega);have h6:(q.2.vars.take n).getD j 0=q.2.vars.getD j 0:=by
    rw[getD_eq_getElem?_getD,getD_eq_getElem?_getD,getElem?_take,G hjn]
   rw[h6];exact HM5.cV.c j (by have:=HNV.out;omega)
  case d3=>have h1:=HTK.out;simp only[Vr,length_map,length_replicate];omega
  case d4=>intro v hv;simp only[Vr,mem_map]at hv;obtain⟨x,-,rfl⟩:=hv;rfl
  intro W6 hrow6 hg6 hz6;have HR6:O (W6.heap[Lb]?=some (.cells (Vr (q.2.vars.take n)).toArray 38 (0,0))):=by
   show _=_;rw[hrow6.out,yq2 _ _ HTK.symm]
  have q6:∀j,j<W5.heap.size->j≠Lb->W6.heap[j]?=W5.heap[j]?:=λj hj hne=>hg6.block j hj (by simpa using hne);have m16:D W6 (w.heap.size+4) 1 (J sa sn sc):=(cell?_of_block (a:=(Y (w.heap.size+4) 1)) (q6 (w.heap.size+4) (by have:=HL5.out;have:=HS3.out;omega) (by have:=HL5.out;have:=HS3.out;omega))).trans m15;have hE6:W6.heap[w.heap.size]?=some (.cells #[Zq,Zq,.bool false] 42 (0,0)):=by
   have h1:=HL5.out;have h2:=HS3.out;have h3:=HVG.out;exact(q6 _ (by omega) (by omega)).trans ((HM5.fx _ (by omega) (by omega) (by omega)).trans HE)
  have e0:D W6 w.heap.size 0 Zq:=cR 0 hE6;have e1:D W6 w.heap.size 1 Zq:=cR 1 hE6;have e2:D W6 w.heap.size 2 (.bool false):=cR 2 hE6
  have ez:∀j,W6.frozen? (Y w.heap.size j)=false:=λj=>by simp[frozen?,hE6]
  have HB6:O (E w W6):=by
   have h1:=HB3.trans HM5.bel;refine⟨hg6.os.trans h1.os,hg6.tape.trans h1.tape,hg6.output.trans h1.output,by have:=h1.size;omega,λj hj=>(q6 j (by have:=h1.size;omega) (by have:=HL5.out;have:=HS3.out;omega)).trans (h1.block j hj)⟩
  have HO6:O (W6.ownsRow W3.heap.size 47 2 (J sa sn sc) q.2.aE.length (Vh q.2.aE)):=Zj HM5.os (λb hb=>q6 b (by have:=HOS b hb;have:=HL5.out;omega) (by have:=HOS b hb;omega));clear hrow6 hg6 hz6 q6 hE6 m05 m15 KL
  go_wp2_with fail
  obtain⟨f0,f1,f2,fk,fs⟩:=zxz (Sq Lb 0 n n) (J sa sn sc) (.bool q.1) e0 e1 e2;refine bodyPost_ret (v:=.agg #[Sq Lb 0 n n,J sa sn sc,.bool q.1]) (by simp[results,results30,go_sem,f0,f1,f2]) rfl ?_;rw[<-HQ.out];have h1:=HL5.out;have h2:=HS3.out;refine⟨Lb,_,rfl,((HB6.setCell lE _).setCell lE _).setCell lE _,by omega,(fk Lb (by omega)).trans HR6,HTK,HM5.vb,?_,λh=>?_,?_⟩
  ·exact yzx (Zj HO6 (λb hb=>fk b (by have:=HOS b hb;omega))) (by omega)
  ·have:=HOS Lb h;omega
  ·have:=HM5.sl;omega
structure zw6(base:Nat)(w:World)(n:Nat)(q:Bool×Fl.MS)(Lb:Nat)(sv:Value):Prop where
 lb:base<=Lb
 row:w.heap[Lb]?=some (.cells (Vr (q.2.vars.take n)).toArray 38 (0,0))
 len:(q.2.vars.take n).length=n
 vb:∀x∈q.2.vars,x<4294967296
 os:w.ownsRow base 47 2 sv q.2.aE.length (Vh q.2.aE)
 ne:sv.ownBlock≠some Lb
 sl:q.2.aE.length<=2000
def zw6.lt{q:Bool×Fl.MS}(h:zw6 base w n q Lb sv):Lb<w.heap.size:=by
 refine Classical.byContradiction λhn=>?_;have:=h.row
 rw[Array.getElem?_eq_none (by omega)]at this;cases this
def zw6.kept{base':Nat}{q:Bool×Fl.MS}(h:zw6 base w n q Lb sv)(hb:base'<=base)(hk:∀b,base<=b->b<w.heap.size->w'.heap[b]?=w.heap[b]?):zw6 base' w' n q Lb sv:=
 ⟨by have:=h.lb;omega,(hk _ h.lb h.lt).trans h.row,h.len,h.vb,yzx (Zj h.os (λb hb=>hk b (h.os.lt b hb).1 (h.os.lt b hb).2)) hb,h.ne,h.sl⟩
def ytv(q:Nat×Nat×Fl.aV)(cs:List Nat)(Wj:Nat)(w:World)(e:Ending)(w':World):Prop:=
  E w w'/\
  ((q.1≠0/\∃a,e=.returned (.tuple #[.agg #[Zq,Zq,.bool false],.iface 78 (M a)])/\w'.cell? (Y a 0)=some (I q.1)/\w'.cell? (Y a 1)=some (I q.2.1))\/
   (q.1=0/\cs.length≠q.2.2.cells.length/\e=.returned (.tuple #[.agg #[Zq,Zq,.bool false],.iface 24 (I 11)]))\/
   (q.1=0/\cs.length=q.2.2.cells.length/\∃Lb sa sn sc,e=.returned (.tuple #[.agg #[Sq Lb 0 cs.length cs.length,J sa sn sc,.bool (q.2.2.run cs Wj).1],.nilIface])/\zw6 w.heap.size w' cs.length (q.2.2.run cs Wj) Lb (J sa sn sc)))
def zyv.below(h:zyv w v l)(hb:E w w'):zyv w' v l:=by
 obtain⟨ao,cap,h1,h2,h3,h4,h5⟩:=h;refine⟨ao,cap,h1,h2,h3,h4,λhne=>?_⟩;obtain⟨b,off,e,hlt,hc⟩:=h5 hne;exact⟨b,off,e,Qj hlt hb.size,λi hi=>cT hb hlt (hc i hi)⟩
def ygw{l:K}(fuel:Int)(Wj:Nat)(hF:(Wj:Int)=min (max fuel 0) 2000)(hl:l.length<=100000)(hg:1<w.heap.size)(hm:Yg w)(hcs:zyv w cv cs)(hcl:cs.length<=100000):
  F 17 #[Tq l,cv,I fuel] w (ytv (aq l) cs Wj w):=by
 have HRD:O (∀W,E w W->F 25 #[Tq l] W (zt0 (aq l) W)):=λW hW=>zk8 hl (by have:=hW.size;omega) (by
  obtain⟨x,hx⟩:=hm
  exact⟨x,(hW.cell (p:=⟨1,0,none⟩) hg).trans hx⟩)
 have HRUN:O (∀W Pb p,E w W->Ui (λb=>b<W.heap.size) W Pb p->p.Ok->cs.length=p.cells.length->F 30 #[M Pb,cv,I fuel] W (zg8 cs.length (p.run cs Wj) W)):=λW Pb p hW hp ho bt=>yc9 fuel Wj hF hp ho (hcs.below hW) bt;have HOK:O ((aq l).1=0->(aq l).2.2.Ok):=λh=>(dO l h).1;obtain⟨ao,cap,rfl,g1,g2,g3,g4⟩:=hcs;obtain⟨aX,hres⟩:∃aX,aX=aq l:=⟨_,rfl⟩;rw[<-hres]at HRD HOK⊢;obtain⟨n,hn⟩:∃n,n=cs.length:=⟨_,rfl⟩;have HN:O (n=cs.length):=hn;rw[<-hn]at HRUN;rw[<-hn]at hcl;rw[<-hn]
 have hnI:(n:Int)<=100000:=by omega
 clear hF hl hg hm g1 g2 g3 g4 hres hn
 go_enter func17,ntmps17
 go_wp2_with fail
 have hB1:E w (w.alloc (.cells #[Zq,Zq,.bool false] 42)):=(Below.refl _ w).alloc lE _;refine(HRD _ hB1).mono ?_;rintro e wz ⟨hB,hcase⟩;have c0:D wz w.heap.size 0 Zq:=cT hB (by simp) (by simp);have c1:D wz w.heap.size 1 Zq:=cT hB (by simp) (by simp);have c2:D wz w.heap.size 2 (.bool false):=cT hB (by simp) (by simp);have fz:∀j,wz.frozen? (Y w.heap.size j)=false:=λj=>(hB.frozen (p:=(Y w.heap.size j)) (by simp)).trans (by simp);have HB:O (E w wz):=hB1.trans (hB.mono (by simp))
 have cH:w.heap.size+1<=wz.heap.size:=by have:=hB.size;simpa using this
 clear hB hB1 HRD;rcases hcase with⟨h0,Pb,rfl,hp⟩|⟨h0,a,rfl,a0,a1⟩
 ·have HP:O (Ui (λb=>b<wz.heap.size) wz Pb aX.2.2):=hp.kept (λb hb=>hb.2) (λ_ _=>rfl)
  have H0:O (aX.1=0):=h0;obtain⟨p,hpp⟩:∃p,p=aX.2.2:=⟨_,rfl⟩;have HO:O p.Ok:=(by rw[hpp];exact HOK h0);rw[<-hpp]at HP;have HPP:O (p=aX.2.2):=hpp;clear hp h0 hpp;obtain⟨Lb0,bC,bH,bv,s1,s2,hP,hL,hC,hH,hBd⟩:=id HP.out;obtain⟨ca,cc,rfl,k1,k2,-⟩:=hC;have p1:D wz Pb 1 (J ca p.cells.length cc):=hP.c 1 (by omega);have hce:p.cells.length<=6:=HO.ce;obtain⟨k,hk⟩:∃k,k=p.cells.length:=⟨_,rfl⟩;have HK:O (k=p.cells.length):=hk;rw[<-hk]at p1 hce;have hkI:(k:Int)<=6:=(by omega);clear hP hL hH hBd k1 k2 hk s1 s2
  by_cases hnk:n=k
  ·have b0:((n:Int)==(k:Int))=true:=by simp[hnk]
   have HCALL:O (F 30 #[M Pb,J ao n cap,I fuel] wz (zg8 n (p.run cs Wj) wz)):=HRUN wz Pb p HB HP HO (by rw[hnk];exact HK);have HNK:O (n=k):=hnk;obtain⟨q,hq⟩:∃q,q=p.run cs Wj:=⟨_,rfl⟩;have HQ:O (q=p.run cs Wj):=hq;rw[<-hq]at HCALL;clear hnk HRUN hq
   go_wp2_with fail
   refine Calls.mono HCALL ?_;rintro e W2 ⟨Lb,sv,rfl,hB2,r1,r2,r3,r4,r5,r6,r7⟩;obtain⟨sa,sn,sc,rfl⟩:∃sa sn sc,sv=J sa sn sc:=by
    rcases r5.2 with⟨h1,_⟩|⟨g,cp,cur,h1,_⟩
    ·exact⟨_,_,_,h1⟩
    ·exact⟨_,_,_,h1⟩
   have HEA:O (zw6 wz.heap.size W2 n q Lb (J sa sn sc)):=⟨r1,r2,r3,r4,r5,r6,r7⟩;have d0:D W2 w.heap.size 0 Zq:=cT hB2 (by show w.heap.size<_;omega) c0;have d1:D W2 w.heap.size 1 Zq:=cT hB2 (by show w.heap.size<_;omega) c1;have d2:D W2 w.heap.size 2 (.bool false):=cT hB2 (by show w.heap.size<_;omega) c2;have dz:∀j,W2.frozen? (Y w.heap.size j)=false:=λj=>(hB2.frozen (p:=(Y w.heap.size j)) (by show w.heap.size<_;omega)).trans (fz j);have HB2:O (E w W2):=HB.trans (hB2.mono (by omega));have HSZ:O (w.heap.size+1<=wz.heap.size):=cH;clear hB2 r1 r2 r3 r4 r5 r6 r7 c0 c1 c2 fz p1 HCALL cH
   go_wp2_with fail
   obtain⟨f0,f1,f2,fk,fs⟩:=zxz (Sq Lb 0 n n) (J sa sn sc) (.bool q.1) d0 d1 d2;refine bodyPost_ret (v:=.tuple #[.agg #[Sq Lb 0 n n,J sa sn sc,.bool q.1],.nilIface]) (by simp[results,results17,go_sem,f0,f1,f2]) rfl ?_;refine⟨((HB2.setCell lE _).setCell lE _).setCell lE _,.inr (.inr ⟨H0,?_,Lb,sa,sn,sc,?_,?_⟩)⟩
   ·rw[<-HN.out,HNK.out,HK.out,HPP.out]
   ·rw[<-HPP.out,<-HQ.out,<-HN.out]
   ·rw[<-HPP.out,<-HQ.out,<-HN.out]
    exact HEA.kept (by have:=HSZ.out;omega) (λb hb hb2=>fk b (by have:=HSZ.out;omega))
  ·have b0:((n:Int)==(k:Int))=false:=by simp;omega
   have HNK:O (n≠k):=hnk;clear hnk HRUN
   go_wp2_with fail
   obtain⟨f0,f1,f2,fk,fs⟩:=zxz Zq Zq (.bool false) c0 c1 c2;refine bodyPost_ret (v:=.tuple #[.agg #[Zq,Zq,.bool false],.iface 24 (I 11)]) (by simp[results,results17,go_sem,f0,f1,f2]) rfl ?_;refine⟨((HB.setCell lE _).setCell lE _).setCell lE _,.inr (.inl ⟨H0,?_,rfl⟩)⟩;rw[<-HN.out,<-HPP.out,<-HK.out];exact HNK
 ·have H0:O (aX.1≠0):=h0
  have hqn:a≠w.heap.size:=by intro h;rw[h,c0]at a0;cases a0
  clear h0 HRUN
  go_wp2_with fail
  obtain⟨f0,f1,f2,fk,fs⟩:=zxz Zq Zq (.bool false) c0 c1 c2;refine bodyPost_ret (v:=.tuple #[.agg #[Zq,Zq,.bool false],.iface 78 (M a)]) (by simp[results,results17,go_sem,f0,f1,f2]) rfl ?_;exact⟨((HB.setCell lE _).setCell lE _).setCell lE _,.inl ⟨H0,a,rfl,(cell?_of_block (a:=(Y a 0)) (fk a hqn)).trans a0,(cell?_of_block (a:=(Y a 1)) (fk a hqn)).trans a1⟩⟩
def zr7(w:World)(a:Option Addr)(n k:Nat)(l:List Nat):Prop:=n<=k/\k<=maxLen/\n<=100000/\(n≠0->∃b,a=some (Y b 0)/\b<w.heap.size/\∀i,i<n->w.cell? (Y b i)=some (.int .u32 (l.getD i 0)))
def zz0(w:World)(a:Option Addr)(n k:Nat)(s:List (Nat×Nat)):Prop:=n=s.length/\n<=k/\k<=maxLen/\n<=100000/\(n≠0->∃b,a=some (Y b 0)/\b<w.heap.size/\∀i,i<n->w.cell? (Y b (i*2))=some (I (s.getD i (0,0)).1)/\w.cell? (Y b (i*2+1))=some (.int .u32 (s.getD i (0,0)).2))
def zr7.below{a:Option Addr}(h:zr7 w a n k l)(hb:E w w'):zr7 w' a n k l:=
 ⟨h.1,h.2.1,h.2.2.1,λhn=>by
  obtain⟨b,e,hz,hc⟩:=h.2.2.2 hn
  exact⟨b,e,Qj hz hb.size,λi hi=>cT hb hz (hc i hi)⟩⟩
def zz0.below{a:Option Addr}{s:List (Nat×Nat)}(h:zz0 w a n k s)(hb:E w w'):zz0 w' a n k s:=
 ⟨h.1,h.2.1,h.2.2.1,h.2.2.2.1,λhn=>by
  obtain⟨b,e,hz,hc⟩:=h.2.2.2.2 hn
  exact⟨b,e,Qj hz hb.size,λi hi=>⟨cT hb hz (hc i hi).1,cT hb hz (hc i hi).2⟩⟩⟩
def ygv(s:List (Nat×Nat))(i:Nat)(hi:i<s.length):(Vh s)[i*2]?=some (I (s.getD i (0,0)).1)/\(Vh s)[i*2+1]?=some (.int .u32 (s.getD i (0,0)).2):=by
 induction s generalizing i with
 |nil=>simp at hi
 |cons x s ih=>
  have e:Vh (x::s)=I x.1:: .int .u32 x.2::Vh s:=rfl;rw[e]
  cases i with
  |zero=>exact⟨rfl,rfl⟩
  |succ i=>
   have:=ih i (by simpa using hi);rw[show (i+1)*2=i*2+1+1 by omega];simp only[getElem?_cons_succ,getD_cons_succ];exact this
def zz0.own{a:Option Addr}{s:List (Nat×Nat)}(h:w.ownsRow base 47 2 (J a n k) s.length (Vh s))(hs:s.length<=100000):zz0 w a n k s:=by
 rcases h.2 with⟨h1,h2⟩|⟨g,cap,cur,h1,h2,h3,h4,h5,h6,h7⟩
 ·simp only[slice.injEq]at h1
  obtain⟨rfl,rfl,rfl⟩:=h1;exact⟨h2.symm,lE,by simp[maxLen],by omega,λhh=>absurd rfl hh⟩
 have hc:=h.cells (g:=g) (by rw[h1];rfl);simp only[slice.injEq]at h1;obtain⟨rfl,rfl,rfl⟩:=h1
 have a0:g<w.heap.size:=Classical.byContradiction λhn=>by rw[Array.getElem?_eq_none (by omega)]at h3;cases h3
 refine⟨rfl,h4,h5,by omega,λ_=>⟨g,rfl,a0,λi hi=>?_⟩⟩;obtain⟨q1,q2⟩:=ygv s i hi;have a1:=hc _ _ q1;have a2:=hc _ _ q2
 have e1:((Y g 0):Addr).add (i*2)=(Y g (i*2)):=by unfold Addr.add;split<;>simp_all
 have e2:((Y g 0):Addr).add (i*2+1)=(Y g (i*2+1)):=by unfold Addr.add;split<;>simp_all
 rw[e1]at a1;rw[e2]at a2;exact⟨a1,a2⟩
def zw6.cells{q:Bool×Fl.MS}(h:zw6 base w n q Lb sv)(hn:n<=100000):zr7 w (some (Y Lb 0)) n n q.2.vars:=by
 refine⟨lE,by simp[maxLen];omega,hn,λ_=>⟨Lb,rfl,h.lt,λi hi=>?_⟩⟩;have hl:=h.len;rw[cR i h.row,getElem?_toArray,zq1 _ _ (by omega)];rw[Qa,Qa,getElem?_take,G hi]
def zyv.dD{xs:List Nat}(h:w.ownsRow base 38 1 v xs.length (Vr xs))(hb:∀x∈xs,x<4294967296):zyv w v xs:=by
 rcases h.2 with⟨h1,h2⟩|⟨g,cap,cur,h1,hb',hg,hc,hm,hs,ht⟩
 ·exact⟨none,0,by rw[h1,h2],by omega,by unfold maxLen;omega,hb,λa0=>absurd (Qi h2) a0⟩
 refine⟨_,cap,h1,hc,hm,hb,λ_=>⟨g,0,rfl,(h.lt g (by rw[h1];rfl)).2,λi hi=>?_⟩⟩;have h5:=h.cells (g:=g) (by rw[h1];rfl) i _ (zq1 xs i hi)
 have h6:((Y g 0):Addr).add i=(Y g (0+i)):=by unfold Addr.add;split<;>simp_all
 rw[h6]at h5;exact h5
end Go.Proofs.YtjmcibbdedlcoaaGreatDoor
namespace Go.Proofs.YtjmcibbdedlcoaaGreatDoor
open Go.Proofs.Tryz List World Region Value Act Fl
variable{lo base Mb Vb Ob nc f k n Lb:Nat}{w0 w w' W3:World}{sv v cv:Value}{l cs:List Nat}{S:Nat->Prop}{P:Program}{Q:Exit->Act->World->Prop}{ops:Array Oper}{o:Oper}{a:Act}{b c:Int}
namespace Fl
def fj{p:aV}(lv:p.Lv){a:Int}(ha:0<=a/\a<p.n)(hb:0<=b/\b<p.n)(hc:0<=c/\c<p.n)(h1:aR p a c=true)(h2:aR p b c=true):aR p (jn p a b) c=true:=by
 obtain⟨k,h3,h4,-,-,h5⟩:=lv.fA.lu a.toNat b.toNat (by omega) (by omega)
 have e:(jn p a b).toNat=k:=by unfold jn;rw[h4];simp
 unfold aR;rw[e];exact h5 _ (by omega) h1 h2
def gg{p:aV}(lv:p.Lv)(hc:0<=c/\c<p.n):aR p (aI p) c=true:=by
 unfold aR aI;rw[Qm];exact(iI lv.fA).2 _ (by omega)
def pt(p:aV)(a b:Is):Prop:=∀i,i<p.cells.length+p.ak->aR p (a.getD i 0) (b.getD i 0)=true
section
variable{p:aV}{va vb:Is}
def jW(lv:p.Lv)(hl:pt p va vb)(oa:di p va){a:dI}(ho:zt8 va a):aR p (bZ p va a) (bZ p vb a)=true:=by
 unfold bZ
 cases hv:a.var
 ·exact eV lv lv.aI
 exact hl a.v (by rw[<-oa.1];exact ho hv)
def nW(lv:p.Lv)(hl:pt p va vb)(oa:di p va)(ob:di p vb){e:da}(ha:bI va.length e)(hb:bI vb.length e):aR p (aB p va e) (aB p vb e)=true:=by
 have ia:=zu8 ha;have ib:=zu8 hb;have h1:=jW lv hl oa ia.1;have r1:=cD lv oa ia.1;have r2:=cD lv ob ib.1;unfold aB
 split
 ·exact h1
 rename_i h0;have h2:=jW lv hl oa (ia.2 (by omega));have r3:=cD lv oa (ia.2 (by omega));have r4:=cD lv ob (ib.2 (by omega));have r5:=lv.jn r2 r4;have u:=eO lv r2 r4;exact fj lv r1 r3 r5 (aL lv r1 r2 r5 h1 u.1) (aL lv r3 r4 r5 h2 u.2)
def oY(lv:p.Lv){a d:Int}(ha:0<=a/\a<p.n)(hb:0<=b/\b<p.n)(hc:0<=c/\c<p.n)(hd:0<=d/\d<p.n)(h1:aR p a c=true)(h2:aR p b d=true):aR p (jn p a b) (jn p c d)=true:=by
 have r:=lv.jn hc hd;have u:=eO lv hc hd;exact fj lv ha hb r (aL lv ha hc r h1 u.1) (aL lv hb hd r h2 u.2)
def fF(lv:p.Lv)(hl:pt p va vb)(oa:di p va)(ob:di p vb):∀(d:Nat) (l:List aa) (u u':Int),aY va.length p.aj.length d l->(0<=u/\u<p.n)->(0<=u'/\u'<p.n)->aR p u u'=true->∀m∈bx p va d l u,∃m'∈bx p vb d l u',m'.1=m.1/\aR p m.2 m'.2=true/\(0<=m'.2/\m'.2<p.n)
 |0,_,_,_,_,_,_,_,m,hm=>by cases hm
 |d+1,l,u,u',hs,hu,hu',huu,m,hm=>by
  have bt:va.length=vb.length:=oa.1.trans ob.1.symm;obtain⟨s,b0,hm⟩:=mem_flatMap.1 (show m∈l.flatMap (aK (bx p va d) p va u) from hm);obtain⟨s1,s2,s3,s4⟩:=hs s b0;have s2':bI vb.length s.e:=(by rw[<-bt];exact s2);have hv:=nW lv hl oa ob s2 s2';have ra:=dW lv oa s2;have rb:=dW lv ob s2';have hj:=oY lv hu ra hu' rb huu hv;have ja:=lv.jn hu ra;have jb:=lv.jn hu' rb
  suffices h:∃m'∈aK (bx p vb d) p vb u' s,m'.1=m.1/\aR p m.2 m'.2=true/\(0<=m'.2/\m'.2<p.n) by
   obtain⟨m',h1,h2⟩:=h;exact⟨m',mem_flatMap.2 ⟨s,b0,h1⟩,h2⟩
  unfold aK at hm⊢
  split at hm
  ·rename_i a0
   rw[mem_singleton]at hm;rw[G a0];exact⟨_,mem_singleton.2 rfl,by rw[hm],by rw[hm];exact hj,jb⟩
  rename_i a0;rw[Z a0]
  split at hm
  ·rename_i c0
   rw[G c0];rcases mem_append.1 hm with hm|hm
   ·obtain⟨m',h1,h2⟩:=fF lv hl oa ob d _ _ _ s3 ja jb hj m hm
    exact⟨m',mem_append_left _ h1,h2⟩
   obtain⟨m',h1,h2⟩:=fF lv hl oa ob d _ _ _ s4 ja jb hj m hm;exact⟨m',mem_append_right _ h1,h2⟩
  cases hm
def jV(lv:p.Lv)(ho:p.Ok)(ob:di p vb)(hf:∀m∈bx p vb 4 p.aZ (aI p),bU p m.1=true->bp p vb m=true):∀(f:Nat) (vs:Is),di p vs->pt p vs vb->pt p (raise p f vs) vb
 |0,vs,_,h=>h
 |f+1,vs,oz,h=>by
  unfold raise
  split
  ·rename_i vs' hr
   unfold jR at hr
   split at hr
   ·rename_i m hm
    injection hr with hr;subst hr;have hp:=find?_some (p:=λm=>bU p m.1 && !bp p vs m) hm;have dK:=mem_of_find?_eq_some hm;rw[Qk]at hp;have a0:=lv.aI;have b0:=zx3 lv oz 4 p.aZ (aI p).toNat (by rw[oz.1];exact ho.aZ) (by omega) m (by rw[show (((aI p).toNat:Nat):Int)=aI p by omega];exact dK);have h1:=(iU lv oz b0 hp.1 (by simpa using hp.2)).1;refine jV lv ho ob hf f _ h1 (λi hi=>?_);obtain⟨m',g1,g2,g3,g4⟩:=fF lv h oz ob 4 p.aZ (aI p) (aI p) (by rw[oz.1];exact ho.aZ) a0 a0 (eV lv a0) m dK;have g5:=hf m' g1 (by rw[g2];exact hp.1);have hl:=hp.1;unfold bU at hl;rw[Qk,Qn,Qn]at hl;unfold bp at g5;rw[Z (by rw[g2];omega),g2]at g5;obtain⟨-,k,hk,ek⟩:=b0;have hi':i<vs.length:=(by rw[oz.1];exact hi);have e0:=oz.2 i hi';have c0:=ob.2 i (by rw[ob.1];exact hi);rw[Qa,getElem?_set]
    by_cases d0:m.1.x=i
    ·rw[d0]at g5⊢
     rw[G rfl,G hi'];exact fj lv e0 (by omega) c0 (h i hi) (aL lv (by omega) g4 c0 g3 g5)
    rw[Z d0,<-Qa];exact h i hi
   cases hr
  exact h
def js(lv:p.Lv)(ho:p.Ok):∀(f:Nat) (vs:Is),di p vs->iC p vs<f->jR p (raise p f vs)=none
 |0,vs,_,h=>absurd h (by omega)
 |f+1,vs,oz,h=>by
  unfold raise
  cases hr:jR p vs with
  |none=>exact hr
  |some vs'=>
   simp only;unfold jR at hr
   split at hr
   ·rename_i m hm
    injection hr with hr;subst hr;have hp:=find?_some (p:=λm=>bU p m.1 && !bp p vs m) hm;have dK:=mem_of_find?_eq_some hm;rw[Qk]at hp;have a0:=lv.aI;have b0:=zx3 lv oz 4 p.aZ (aI p).toNat (by rw[oz.1];exact ho.aZ) (by omega) m (by rw[show (((aI p).toNat:Nat):Int)=aI p by omega];exact dK);obtain⟨h1,h2⟩:=iU lv oz b0 hp.1 (by simpa using hp.2);exact js lv ho f _ h1 (by omega)
   cases hr
def mo(lv:p.Lv){ls:Is}(ob:di p (vars p ls)):pt p (start p) (vars p ls):=λi hi=>by
 have hb:=ob.2 i (by rw[ob.1];exact hi);unfold start
 by_cases hc:i<p.cells.length
 ·have e:(vars p (replicate p.ak (aI p))).getD i 0=(vars p ls).getD i 0:=by
   unfold vars;rw[Qa,Qa,getElem?_append_left (by simpa using hc),getElem?_append_left (by simpa using hc)]
  rw[e];exact eV lv hb
 have e:(vars p (replicate p.ak (aI p))).getD i 0=aI p:=by
  unfold vars;rw[Qa,getElem?_append_right (by simp;omega),getElem?_replicate,G (by simp;omega)];rfl
 rw[e];exact gg lv hb
end
end Fl
end Go.Proofs.YtjmcibbdedlcoaaGreatDoor
