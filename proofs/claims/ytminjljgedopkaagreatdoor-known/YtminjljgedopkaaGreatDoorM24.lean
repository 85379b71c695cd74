import Derived.Test.YtminjljgedopkaaGreatDoorM06
import Derived.Laws.EntriesVeiled
set_option linter.all false
set_option maxRecDepth 100000
set_option maxHeartbeats 40000000
namespace Go.Proofs.YtminjljgedopkaaGreatDoor
open Go.RowKit Go.Proofs.Tryz
def zf1(Tb:Nat):Array Value:=#[.func (.func 126) #[] #[],.func (.func 127) #[] #[],.func (.func 128) #[] #[],.func (.func 129) #[] #[.pointer (some ⟨Tb,0,none⟩)],.func (.func 130) #[] #[.pointer (some ⟨Tb,0,none⟩)]]
def opW(w:World):World:=(w.alloc (.cells #[.func (.func 125) #[] #[]] 238)).alloc (.cells (zf1 w.heap.size) 239)
def zt7(w:World):Calls prog 71 #[] w λe w'=>e=.returned (.slice (some ⟨w.heap.size+1,0,none⟩) 5 5)/\w'=opW w:=by
 have hmf:∀(fn:Fn) (first cap:Array Value) (w:World),(Instr.makeFunc fn first cap).run prog w=.ok (.func fn first cap) w:=λ_ _ _ _=>rfl
 go_enter func71,ntmps71
 go_wp2_with fail
 go_ret;exact⟨rfl,rfl⟩
def zt8(b:Bool):Int:=if b=true then 1 else 0
def zh8(b:Bool)(w:World):Calls prog 125 #[.bool b] w λe w'=>e=.returned (.int .u32 (zt8 b))/\w'=w:=by
 go_enter func125,ntmps125
 cases b
 ·go_wp2
  go_ret;exact⟨rfl,rfl⟩
 ·go_wp2
  go_ret;exact⟨rfl,rfl⟩
section
variable(x y:Nat)(hx:x<4294967296)(hy:y<4294967296)(w:World)
theorem op2_any:Calls prog 126 #[.int .u32 x,.int .u32 y] w λe w'=>e=.returned (.int .u32 ((Fl.opV 0 x y:Nat):Int))/\w'=w:=by
 go_enter func126,ntmps126
 go_wp2;go_ret;refine⟨?_,rfl⟩;show Ending.returned (.int .u32 (((x:Int)+y) % 4294967296))=_;simp[Fl.opV,Fl.u32]
theorem op3_any(x y:Nat)(hx:x<4294967296)(hy:y<4294967296)(w:World):Calls prog 127 #[.int .u32 x,.int .u32 y] w λe w'=>e=.returned (.int .u32 ((Fl.opV 1 x y:Nat):Int))/\w'=w:=by
 go_enter func127,ntmps127
 go_wp2;go_ret;refine⟨?_,rfl⟩;show Ending.returned (.int .u32 (((x:Int) - y) % 4294967296))=_
 have:((x:Int) - y) % 4294967296=((Fl.opV 1 x y:Nat):Int):=by simp only[Fl.opV,Fl.u32];simp;omega
 rw[this]
theorem op4_any:Calls prog 128 #[.int .u32 x,.int .u32 y] w λe w'=>e=.returned (.int .u32 ((Fl.opV 2 x y:Nat):Int))/\w'=w:=by
 go_enter func128,ntmps128
 go_wp2;go_ret;refine⟨?_,rfl⟩;show Ending.returned (.int .u32 (((x:Int)*y) % 4294967296))=_;simp[Fl.opV,Fl.u32]
theorem op5_any(Tb:Nat)(hT:w.cell? ⟨Tb,0,none⟩=some (.func (.func 125) #[] #[])):Calls prog 129 #[.int .u32 x,.int .u32 y,.pointer (some ⟨Tb,0,none⟩)] w λe w'=>e=.returned (.int .u32 ((Fl.opV 3 x y:Nat):Int))/\w'=w:=by
 have HT:Hid (∀b,Calls prog 125 #[.bool b] w λe w'=>e=.returned (.int .u32 (zt8 b))/\w'=w):=λb=>zh8 b w
 go_enter func129,ntmps129
 go_wp2_with fail
 refine(HT.out _).mono ?_;rintro e w1 ⟨rfl,hw1⟩;rw[hw1];clear hw1;go_wp2;go_ret;refine⟨?_,rfl⟩
 by_cases h:x<y<;>simp[Fl.opV,zt8,h]
theorem op6_any(Tb:Nat)(hT:w.cell? ⟨Tb,0,none⟩=some (.func (.func 125) #[] #[])):Calls prog 130 #[.int .u32 x,.int .u32 y,.pointer (some ⟨Tb,0,none⟩)] w λe w'=>e=.returned (.int .u32 ((Fl.opV 4 x y:Nat):Int))/\w'=w:=by
 have HT:Hid (∀b,Calls prog 125 #[.bool b] w λe w'=>e=.returned (.int .u32 (zt8 b))/\w'=w):=λb=>zh8 b w
 go_enter func130,ntmps130
 go_wp2_with fail
 refine(HT.out _).mono ?_;rintro e w1 ⟨rfl,hw1⟩;rw[hw1];clear hw1;go_wp2;go_ret;refine⟨?_,rfl⟩
 by_cases h:x=y
 ·simp[Fl.opV,zt8,h]
 ·have h2:¬(x:Int)=(y:Int):=by omega
  simp[Fl.opV,zt8,h,h2]
theorem op_at(Tb k:Nat)(hk:k<5)(hT:w.cell? ⟨Tb,0,none⟩=some (.func (.func 125) #[] #[])):∃fn cap,(zf1 Tb)[k]?=some (.func (.func fn) #[] cap)/\(∀args W,(callFunc fn args).run prog W=.ok (.enter fn args) W)/\
  ∀x y:Nat,x<4294967296->y<4294967296->∀W,W.cell? ⟨Tb,0,none⟩=some (.func (.func 125) #[] #[])->Calls prog fn (#[.int .u32 x,.int .u32 y]++cap) W λe w'=>e=.returned (.int .u32 ((Fl.opV (k:Int) x y:Nat):Int))/\w'=W:=by
 rcases(show k=0\/k=1\/k=2\/k=3\/k=4 by omega) with rfl|rfl|rfl|rfl|rfl
 ·exact⟨_,_,rfl,λargs W=>by kernel_rfl,λx y hx hy W hW=>op2_any x y W⟩
 ·exact⟨_,_,rfl,λargs W=>by kernel_rfl,λx y hx hy W hW=>op3_any x y hx hy W⟩
 ·exact⟨_,_,rfl,λargs W=>by kernel_rfl,λx y hx hy W hW=>op4_any x y W⟩
 ·exact⟨_,_,rfl,λargs W=>by kernel_rfl,λx y hx hy W hW=>op5_any x y W Tb hW⟩
 ·exact⟨_,_,rfl,λargs W=>by kernel_rfl,λx y hx hy W hW=>op6_any x y W Tb hW⟩
end
def Xn(l:List (Nat×Nat)):List Value:=l.flatMap λp=>[.int .i64 p.1,.int .u32 p.2]
structure MachIn(lo base Mb Vb Ob Tb nv:Nat)(w0:World):Prop where
 hlo:lo<=Mb/\lo<=Vb/\lo<=base
 hba:Mb<base/\Vb<base/\Ob<base/\Tb<base
 nd:Mb≠Vb/\Ob≠Mb/\Ob≠Vb/\Tb≠Mb/\Tb≠Vb
 nvm:nv<=10
 ob:w0.heap[Ob]?=some (.cells (zf1 Tb) 239 (0,0))
 tb:w0.heap[Tb]?=some (.cells #[.func (.func 125) #[] #[]] 238 (0,0))
structure Zm(lo base Mb Vb Ob Tb nv:Nat)(w0 w:World)(m:Fl.MS)(sv:Value):Prop where
 inn:MachIn lo base Mb Vb Ob Tb nv w0
 bel:Below lo w0 w
 fx:∀b,b<base->b≠Mb->b≠Vb->w.heap[b]?=w0.heap[b]?
 hbz:base<=w.heap.size
 cM:Zn w Mb 4 (rw_ [.slice (some ⟨Vb,0,none⟩) nv nv,sv,.int .i64 m.fuel,.slice (some ⟨Ob,0,none⟩) 5 5])
 hv:m.vars.length=nv
 cV:Zn w Vb nv (λi=> .int .u32 (m.vars.getD i 0))
 vb:∀x∈m.vars,x<4294967296
 sl:m.sent.length+m.fuel<=2000
 os:w.ownsRow base 60 2 sv m.sent.length (Xn m.sent)
section
variable{lo base Mb Vb Ob Tb nv:Nat}{w0 w w':World}{m:Fl.MS}{sv:Value}
def Zm.below(h:Zm lo base Mb Vb Ob Tb nv w0 w m sv)(hb:Below w.heap.size w w'):Zm lo base Mb Vb Ob Tb nv w0 w' m sv:=by
 obtain⟨b1,b2,b3,b4⟩:=h.inn.hba;obtain⟨l1,l2,l3⟩:=h.inn.hlo;have hbz:=h.hbz;have hz:=hb.size;have q:∀b,b<w.heap.size->w'.heap[b]?=w.heap[b]?:=λb hlt=>hb.block b hlt
 exact{
     inn:=h.inn,bel:=h.bel.trans (hb.mono (by omega)),fx:=λb f1 f2 f3=>(q b (by omega)).trans (h.fx b f1 f2 f3),hbz:=by omega,cM:=h.cM.block (q _ (by omega)),hv:=h.hv,cV:=h.cV.block (q _ (by omega)),vb:=h.vb,sl:=h.sl,os:=Zh h.os (λb hv=>q b (by
      rcases h.os.2 with⟨h1,_⟩|⟨g,cap,cur,h1,hg,hh,_⟩
      ·rw[h1]at hv;cases hv
      ·rw[h1]at hv;simp only[Value.ownBlock,Option.some.injEq]at hv;subst hv
       exact Classical.byContradiction λhn=>by rw[Array.getElem?_eq_none (by omega)]at hh;cases hh))}
def Zm.drew(h:Zm lo base Mb Vb Ob Tb nv w0 w m sv):Zm lo base Mb Vb Ob Tb nv w0 w.drew m sv:=h.below (Below.refl _ _).drew
def getD_lt{l:List Nat}{B:Nat}(h:∀x∈l,x<B)(hB:0<B)(i:Nat):l.getD i 0<B:=by
 rw[List.getD_eq_getElem?_getD]
 cases hi:l[i]? with
 |none=>exact hB
 |some x=>exact h x (List.mem_of_getElem? hi)
def zr3{vs:List Nat}(h:∀x∈vs,x<4294967296)(a:Fl.Atom):Fl.atomV vs a<4294967296:=by
 unfold Fl.atomV
 split
 ·exact getD_lt h (by decide) _
 ·exact Nat.mod_lt _ (by decide)
def zp5{S:Nat->Prop}(h:Zm lo base Mb Vb Ob Tb nv w0 w m sv)(p:Value)(a:Fl.Atom)(hp:Yj S w p a)(ha:Fl.AtomOk nv a):
  Calls prog 166 #[.pointer (some ⟨Mb,0,none⟩),p] w λe w'=>e=.returned (.int .u32 ((Fl.atomV m.vars a:Nat):Int))/\Below w.heap.size w w':=by
 obtain⟨vb,rfl,-,hc⟩:=hp;have c0:w.cell? ⟨vb,0,none⟩=some (.int .i64 (if a.var then 1 else 0)):=hc.c 0 (by omega);have c1:w.cell? ⟨vb,1,none⟩=some (.int .i64 a.v):=hc.c 1 (by omega);have m0:w.cell? ⟨Mb,0,none⟩=some (.slice (some ⟨Vb,0,none⟩) nv nv):=h.cM.c 0 (by omega);unfold ptr
 cases hv:a.var with
 |true=>
  have hlt:a.v<nv:=(by unfold Fl.AtomOk at ha;rw[if_pos hv]at ha;exact ha);have cv:w.cell? ⟨Vb,a.v,none⟩=some (.int .u32 ((m.vars.getD a.v 0:Nat):Int)):=h.cV.c a.v hlt;have hr:Fl.atomV m.vars a=m.vars.getD a.v 0:=(by unfold Fl.atomV;rw[if_pos hv]);rw[hr];rw[hv]at c0;simp only[if_true]at c0;generalize m.vars.getD a.v 0=x at*;have hnv:=h.inn.nvm;have hlt2:(a.v:Int)<(nv:Int):=(by omega);generalize a.v=k at*;clear hc h ha hr hv
  go_enter func166,ntmps166
  go_wp2_with fail
  go_quiet (fail)
  go_wp2;go_ret;exact⟨rfl,rfl,rfl,rfl,Nat.le_refl _,λ_ _=>rfl⟩
 |false=>
  have hr:Fl.atomV m.vars a=a.v % 4294967296:=(by unfold Fl.atomV;rw[hv];rfl);rw[hr];rw[hv]at c0;simp only[Bool.false_eq_true,if_false]at c0;generalize a.v=k at*;clear hc h ha hr hv
  go_enter func166,ntmps166
  go_wp2;go_ret;exact⟨by simp,Below.refl _ _⟩
end
section
variable{lo base Mb Vb Ob Tb nv:Nat}{w0 w w':World}{m:Fl.MS}{sv:Value}
def ywz{S:Nat->Prop}(h:Zm lo base Mb Vb Ob Tb nv w0 w m sv)(p:Value)(x:Fl.Expr)(hp:zz3 S w p x)(hx:Fl.ExprOk nv x):
  Calls prog 166 #[.pointer (some ⟨Mb,0,none⟩),p] w λe w'=>e=.returned (.int .u32 ((Fl.exprV m.vars x:Nat):Int))/\Below w.heap.size w w':=by
 rcases hp with⟨ho,hp⟩|⟨ho,vb,pa,pb,rfl,-,hc,hpa,hpb⟩
 ·have hr:Fl.exprV m.vars x=Fl.atomV m.vars x.a:=by unfold Fl.exprV;rw[if_pos ho]
  rw[hr];exact zp5 h p x.a hp hx.2.2.1
 ·have hr:Fl.exprV m.vars x=Fl.opV x.op (Fl.atomV m.vars x.a) (Fl.atomV m.vars x.b):=by unfold Fl.exprV;rw[if_neg (by omega)]
  rw[hr];have hba:=h.inn.hba;have hnd:=h.inn.nd;have hbz:=h.hbz;obtain⟨xa,rfl,-,-⟩:=id hpa;obtain⟨xb,rfl,-,-⟩:=id hpb
  have tcell:∀W,Below w.heap.size w W->W.cell? ⟨Tb,0,none⟩=some (.func (.func 125) #[] #[]):=λW hW=>
   cell_of_row _ _ 0 _ _ (0,0) ((hW.block Tb (by omega)).trans ((h.fx Tb (by omega) hnd.2.2.2.1 hnd.2.2.2.2).trans h.inn.tb))
  obtain⟨k,hk⟩:∃k:Nat,x.op=(k:Int):=⟨x.op.toNat,by omega⟩;have hk5:k<5:=(by have:=hx.2.1;omega);obtain⟨fn,cap,hfa,hin,hop⟩:=op_at w Tb k hk5 (tcell w (Below.refl _ _));have oc:w.cell? ⟨Ob,k,none⟩=some (.func (.func fn) #[] cap):=(cell_of_row _ _ k _ _ (0,0) ((h.fx Ob (by omega) hnd.2.1 hnd.2.2.1).trans h.inn.ob)).trans hfa;have c0:w.cell? ⟨vb,0,none⟩=some (.int .i64 2):=hc.c 0 (by omega);have c1:w.cell? ⟨vb,1,none⟩=some (.int .i64 k):=(by rw[<-hk];exact hc.c 1 (by omega));have c2:w.cell? ⟨vb,2,none⟩=some (.pointer (some ⟨xa,0,none⟩)):=hc.c 2 (by omega);have c3:w.cell? ⟨vb,3,none⟩=some (.pointer (some ⟨xb,0,none⟩)):=hc.c 3 (by omega);have m3:w.cell? ⟨Mb,3,none⟩=some (.slice (some ⟨Ob,0,none⟩) 5 5):=h.cM.c 3 (by omega);rw[hk];have hv1:=zr3 h.vb x.a;have hv2:=zr3 h.vb x.b
  have HA:Hid (∀W,Below w.heap.size w W->Calls prog 166 #[.pointer (some ⟨Mb,0,none⟩),.pointer (some ⟨xa,0,none⟩)] W λe w'=>e=.returned (.int .u32 ((Fl.atomV m.vars x.a:Nat):Int))/\Below W.heap.size W w'):=λW hW=>zp5 (S:=λb=>b<w.heap.size) (h.below hW) _ x.a (by
   obtain⟨vb',e1,-,e3⟩:=hpa
   exact⟨vb',e1,e3.lt (by omega),e3.block (hW.block _ (e3.lt (by omega)))⟩) hx.2.2.1
  have HB:Hid (∀W,Below w.heap.size w W->Calls prog 166 #[.pointer (some ⟨Mb,0,none⟩),.pointer (some ⟨xb,0,none⟩)] W λe w'=>e=.returned (.int .u32 ((Fl.atomV m.vars x.b:Nat):Int))/\Below W.heap.size W w'):=λW hW=>zp5 (S:=λb=>b<w.heap.size) (h.below hW) _ x.b (by
   obtain⟨vb',e1,-,e3⟩:=hpb
   exact⟨vb',e1,e3.lt (by omega),e3.block (hW.block _ (e3.lt (by omega)))⟩) hx.2.2.2
  generalize Fl.atomV m.vars x.a=va at*;generalize Fl.atomV m.vars x.b=vb2 at*;have HOP:Hid (∀W,Below w.heap.size w W->Calls prog fn (#[.int .u32 va,.int .u32 vb2]++cap) W λe w'=>e=.returned (.int .u32 ((Fl.opV (k:Int) va vb2:Nat):Int))/\w'=W):=λW hW=>hop va vb2 hv1 hv2 W (tcell W hW);generalize Fl.opV (k:Int) va vb2=res at*;have hk5':(k:Int)<5:=(by omega)
  have KEEP:Hid (∀W,Below w.heap.size w W->W.cell? ⟨vb,1,none⟩=some (.int .i64 k)/\W.cell? ⟨vb,2,none⟩=some (.pointer (some ⟨xa,0,none⟩))/\W.cell? ⟨vb,3,none⟩=some (.pointer (some ⟨xb,0,none⟩))/\W.cell? ⟨Mb,3,none⟩=some (.slice (some ⟨Ob,0,none⟩) 5 5)/\W.cell? ⟨Ob,k,none⟩=some (.func (.func fn) #[] cap)):=λW hW=>by
   have hvb:vb<w.heap.size:=World.block_lt_of_cell? w _ c0;exact⟨(hW.cell (p:=⟨vb,1,none⟩) hvb).trans c1,(hW.cell (p:=⟨vb,2,none⟩) hvb).trans c2,(hW.cell (p:=⟨vb,3,none⟩) hvb).trans c3,(hW.cell (p:=⟨Mb,3,none⟩) (by show Mb<_;omega)).trans m3,(hW.cell (p:=⟨Ob,k,none⟩) (by show Ob<_;omega)).trans oc⟩
  clear h hx hc hpa hpb hr ho hk hop tcell hfa hv1 hv2 hba hnd hbz;unfold ptr
  go_enter func166,ntmps166
  go_wp2_with fail
  refine Vt (λW=>Below w.heap.size w W) [] [(0,0),(0,1),(0,2),(0,3),(0,4),(0,5),(0,6),(0,7),(0,8),(0,9),(0,10),(0,11),(0,12),(0,13),(0,14),(0,16),(0,17),(0,18),(0,19),(0,20),(1,15),(1,21),(1,22),(0,23)] [] (by kernel_rfl) (by kernel_rfl) rfl [(_,_),(_,_),(_,_),(_,_),(_,_),(_,_),(_,_),(_,_),(_,_),(_,_),(_,_),(_,_),(_,_),(_,_),(_,_),(_,_),(_,_),(_,_),(_,_),(_,_),(_,_),(_,_),(_,_),(_,_)] rfl (λc a d v w h=>by cases d<;>exact h) (Below.refl _ _).drew (λops hG=>?_);clear hG;simp only[List.getElem_toArray,List.getElem_cons_succ,List.getElem_cons_zero];clear c0 c1 c2 c3 m3 oc
  iterate 20
   refine Uq rfl (λK hK=>?_);apply Exists.intro
   refine⟨λw' hw'=>?_,?_⟩
   ·obtain⟨k1,k2,k3,k4,k5⟩:=KEEP.out w' hw'
    clear hw';go_simp
    try with_reducible rfl
   go_simp;refine hK _ ?_;clear hK K
  refine Zs ?_
  go_wp2_with fail
  refine(HA.out w.drew (Below.refl _ _).drew).mono ?_;rintro e W ⟨rfl,hb⟩;have HB1:Hid (Below w.heap.size w W):=(Below.refl w.heap.size w).drew.trans hb;clear hb
  go_wp2_with fail
  refine⟨HB1.out,?_⟩;refine Zs ?_
  go_wp2_with fail
  refine(HB.out W HB1.out).mono ?_;rintro e W2 ⟨rfl,hb⟩;have HB2:Hid (Below w.heap.size w W2):=HB1.out.trans (hb.mono HB1.out.size);clear hb
  go_wp2_with fail
  refine⟨HB2.out,?_⟩;refine Zs ?_
  go_wp2_with fail
  refine(HOP.out W2 HB2.out).mono ?_;rintro e W3 ⟨rfl,hw3⟩;rw[hw3];clear hw3
  go_wp2_with fail
  refine⟨HB2.out,?_⟩;refine Uq rfl (λK hK=>?_);apply Exists.intro
  refine⟨λw' hw'=>?_,?_⟩
  ·clear hw'
   go_simp
   try with_reducible rfl
  go_simp;refine hK _ ?_;clear hK K;refine Yt ?_;go_wp2;go_ret;exact⟨rfl,HB2.out⟩
end
namespace Fl
def go(l:List Stmt)(m:MS):Bool×MS:=run (m.fuel+1) l m
def go_nil(m:MS):go [] m=(true,m):=rfl
def go_zero(s:Stmt)(l:List Stmt)(m:MS)(h:m.fuel=0):go (s::l) m=(false,m):=by unfold go;rw[run,if_pos h]
def go_fuel(l:List Stmt)(m:MS):(go l m).2.fuel<=m.fuel:=run_fuel _ _ _
def go_of(l:List Stmt)(m:MS)(n:Nat)(h:m.fuel<n):run n l m=go l m:=run_same l m (m.fuel+1) n (by omega) h
def MS.tick(m:MS):MS:=⟨m.vars,m.sent,m.fuel - 1⟩
def go_one(s:Stmt)(m:MS)(h:m.fuel≠0):go [s] m=
  if s.kind=3 then(true,⟨m.vars.set s.x (exprV m.vars s.e),m.sent,m.fuel - 1⟩)
  else if s.kind=4 then(true,⟨m.vars,m.sent++[(s.x,exprV m.vars s.e)],m.fuel - 1⟩)
  else if s.kind=5 then go (if exprV m.vars s.e=0 then s.other else s.body) m.tick
  else if exprV m.vars s.e=0 then(true,m.tick)
  else if(go s.body m.tick).1=true then go [s] (go s.body m.tick).2 else go s.body m.tick:=by
 show run (m.fuel+1) [s] m=_;rw[run,if_neg h];have g:∀l (m':MS),m'.fuel<m.fuel->run m.fuel l m'=go l m':=λl m' hm=>go_of l m' _ hm
 have ht:m.tick.fuel<m.fuel:=by show m.fuel - 1<m.fuel;omega
 have gf:∀l,(go l m.tick).2.fuel<m.fuel:=λl=>Nat.lt_of_le_of_lt (go_fuel l _) ht;have em:(⟨m.vars,m.sent,m.fuel - 1⟩:MS)=m.tick:=rfl;simp only[em]
 by_cases h3:s.kind=3
 ·rw[if_pos h3,if_pos h3,g _ _ (by simp only;omega)];rfl
 rw[if_neg h3,if_neg h3]
 by_cases h4:s.kind=4
 ·rw[if_pos h4,if_pos h4,g _ _ (by simp only;omega)];rfl
 rw[if_neg h4,if_neg h4]
 by_cases h5:s.kind=5
 ·rw[if_pos h5,if_pos h5]
  generalize (if exprV m.vars s.e=0 then s.other else s.body)=part;rw[g part _ ht,g [] _ (gf _),go_nil]
  by_cases hq:(go part m.tick).1=true
  ·rw[if_pos hq];exact Prod.ext hq.symm rfl
  ·rw[if_neg hq]
 rw[if_neg h5,if_neg h5]
 by_cases hv:exprV m.vars s.e=0
 ·rw[if_pos hv,if_pos hv,g [] _ ht,go_nil]
 rw[if_neg hv,if_neg hv,g s.body _ ht,g [s] _ (gf _)]
def go_cons(s:Stmt)(rest:List Stmt)(m:MS):go (s::rest) m=if(go [s] m).1=true then go rest (go [s] m).2 else go [s] m:=by
 have e:go (s::rest) m=_:=run_cons (m.fuel+1) s rest m (by omega);rw[e];show (if(go [s] m).1=true then run (m.fuel+1) rest (go [s] m).2 else go [s] m)=_;rw[go_of rest _ (m.fuel+1) (by have:=go_fuel [s] m;omega)]
end Fl
def Tryz.infoSentP:(Tryz.prog.info? 60).map (λi=>(i.zero,i.size,i.bytes))=some (some (.agg #[.int .i64 0,.int .u32 0]),2,16):=by kernel_rfl
def ywy(l:List (Nat×Nat))(c v:Nat):Xn (l++[(c,v)])=Xn l++[.int .i64 c,.int .u32 v]:=by simp[Xn]
def ys2(l:List Nat)(x v i:Nat)(hx:x<l.length):(l.set x v).getD i 0=if i=x then v else l.getD i 0:=by
 rw[List.getD_eq_getElem?_getD,List.getD_eq_getElem?_getD,List.getElem?_set]
 by_cases h:x=i
 ·subst h;simp[hx]
 ·rw[if_neg h,if_neg (Ne.symm h)]
section
variable{lo base Mb Vb Ob Tb nv:Nat}{w0 w w':World}{m:Fl.MS}{sv:Value}
def Zm.setFuel(h:Zm lo base Mb Vb Ob Tb nv w0 w m sv)(n:Nat)(hn:n<=m.fuel):Zm lo base Mb Vb Ob Tb nv w0 (w.setCell ⟨Mb,2,none⟩ (.int .i64 n)) ⟨m.vars,m.sent,n⟩ sv:=by
 obtain⟨b1,b2,b3,b4⟩:=h.inn.hba;obtain⟨l1,l2,l3⟩:=h.inn.hlo;obtain⟨n1,n2,n3,n4,n5⟩:=h.inn.nd;have hbz:=h.hbz;have q:∀k,k≠Mb->(w.setCell ⟨Mb,2,none⟩ (.int .i64 n)).heap[k]?=w.heap[k]?:=λk hk=>Zx _ _ _ _ _ hk;exact{inn:=h.inn,bel:=h.bel.setCell (by show lo<=Mb;omega) _,fx:=λb f1 f2 f3=>(q b f2).trans (h.fx b f1 f2 f3),hbz:=by rw[Zu];exact hbz,cM:=(h.cM.set (j:=2) (by omega) (.int .i64 n)).congr (λj hj=>by rcases(show j=0\/j=1\/j=2\/j=3 by omega) with rfl|rfl|rfl|rfl<;>rfl),hv:=h.hv,cV:=h.cV.block (q _ (Ne.symm n1)),vb:=h.vb,sl:=by have:=h.sl;simp only;omega,os:=ownsRow_setCell_below h.os (by show Mb<base;omega) _}
def Zm.setVar(h:Zm lo base Mb Vb Ob Tb nv w0 w m sv)(x v:Nat)(hx:x<nv)(hv:v<4294967296):Zm lo base Mb Vb Ob Tb nv w0 (w.setCell ⟨Vb,x,none⟩ (.int .u32 v)) ⟨m.vars.set x v,m.sent,m.fuel⟩ sv:=by
 obtain⟨b1,b2,b3,b4⟩:=h.inn.hba;obtain⟨l1,l2,l3⟩:=h.inn.hlo;obtain⟨n1,n2,n3,n4,n5⟩:=h.inn.nd;have hbz:=h.hbz;have q:∀k,k≠Vb->(w.setCell ⟨Vb,x,none⟩ (.int .u32 v)).heap[k]?=w.heap[k]?:=λk hk=>Zx _ _ _ _ _ hk;have hlen:=h.hv;refine{inn:=h.inn,bel:=h.bel.setCell (by show lo<=Vb;omega) _,fx:=λb f1 f2 f3=>(q b f3).trans (h.fx b f1 f2 f3),hbz:=by rw[Zu];exact hbz,cM:=h.cM.block (q _ n1),hv:=by simp[hlen],cV:= ?_,vb:=λy hy=>?_,sl:=h.sl,os:=ownsRow_setCell_below h.os (by show Vb<base;omega) _}
 ·refine(h.cV.set (j:=x) hx (.int .u32 v)).congr (λi hi=>?_)
  simp only[ys2 m.vars x v i (by omega)]
  split<;>rfl
 ·rcases List.mem_or_eq_of_mem_set hy with h1|h1
  ·exact h.vb y h1
  ·omega
def Zm.addSent(h:Zm lo base Mb Vb Ob Tb nv w0 w m sv){W3 W4:World}{sv':Value}(c v:Nat)(hf:m.sent.length+1+m.fuel<=2000)(hb3:Below w.heap.size w W3)(ho4:W4.ownsRow base 60 2 sv' (m.sent.length+1) (Xn m.sent++[.int .i64 c,.int .u32 v]))(hg4:W3.grownBy W4 sv.ownBlock):
  Zm lo base Mb Vb Ob Tb nv w0 (W4.setCell ⟨Mb,1,none⟩ sv') ⟨m.vars,m.sent++[(c,v)],m.fuel⟩ sv':=by
 have hw3:=h.below hb3;obtain⟨b1,b2,b3,b4⟩:=h.inn.hba;obtain⟨l1,l2,l3⟩:=h.inn.hlo;obtain⟨n1,n2,n3,n4,n5⟩:=h.inn.nd;have hbz:=hw3.hbz;have hz4:=hg4.size;have hlt:=h.os.lt;have q4:∀k,k<base->W4.heap[k]?=W3.heap[k]?:=λk hk=>hg4.block k (by omega) (λhh=>by have:=(hlt k hh.symm).1;omega);have q:∀k,k<base->k≠Mb->(W4.setCell ⟨Mb,1,none⟩ sv').heap[k]?=W3.heap[k]?:=λk hk hne=>(Zx _ _ _ _ _ hne).trans (q4 k hk);have hb4:Below lo w0 W4:=hw3.bel.grown hg4 (by have:=hw3.bel.size;omega) (λk hk=>by have:=(hlt k hk).1;omega);exact{inn:=h.inn,bel:=hb4.setCell (by show lo<=Mb;omega) _,fx:=λb f1 f2 f3=>(q b f1 f2).trans (hw3.fx b f1 f2 f3),hbz:=by rw[Zu];omega,cM:=((hw3.cM.block (q4 _ b1)).set (j:=1) (by omega) sv').congr (λj hj=>by rcases(show j=0\/j=1\/j=2\/j=3 by omega) with rfl|rfl|rfl|rfl<;>rfl),hv:=h.hv,cV:=hw3.cV.block (q _ b2 (Ne.symm n1)),vb:=h.vb,sl:=by simp;omega,os:=by rw[ywy,List.length_append];exact ownsRow_setCell_below ho4 (by show Mb<base;omega) _}
def yq8(h:Zm lo base Mb Vb Ob Tb nv w0 w m sv):Calls prog 165 #[.pointer (some ⟨Mb,0,none⟩)] w λe w'=>(m.fuel=0/\e=.returned (.bool false)/\w'=w)\/(m.fuel≠0/\e=.returned (.bool true)/\Zm lo base Mb Vb Ob Tb nv w0 w' m.tick sv):=by
 have c2:w.cell? ⟨Mb,2,none⟩=some (.int .i64 m.fuel):=h.cM.c 2 (by omega);have z2:=h.cM.z;have HT:Hid (Zm lo base Mb Vb Ob Tb nv w0 (w.setCell ⟨Mb,2,none⟩ (.int .i64 ((m.fuel - 1:Nat):Int))) m.tick sv):=h.setFuel (m.fuel - 1) (by omega);have hf:=h.sl;obtain⟨f,hF⟩:∃f,f=m.fuel:=⟨_,rfl⟩;rw[<-hF]at c2 HT hf⊢
 have hf2:(f:Int)<=2000:=by omega
 clear h hF hf
 by_cases h0:f=0
 ·have b0:((f:Int)==0)=true:=by simp[h0]
  have H0:Hid (f=0):=h0;clear h0 HT
  go_enter func165,ntmps165
  go_wp2;go_ret;exact .inl ⟨H0.out,rfl,rfl⟩
 ·have b0:((f:Int)==0)=false:=by simp;exact h0
  have e1:((f - 1:Nat):Int)=(f:Int) - 1:=(by omega);rw[e1]at HT;have H0:Hid (f≠0):=h0;have hf1:(1:Int)<=(f:Int):=(by omega);clear h0 e1
  go_enter func165,ntmps165
  go_wp2;go_ret;exact .inr ⟨H0.out,rfl,HT.out⟩
end
def Yz(lo base Mb Vb Ob Tb nv:Nat)(w0:World)(q:Bool×Fl.MS)(e:Ending)(w':World):Prop:=
 e=.returned (.bool q.1)/\∃sv',Zm lo base Mb Vb Ob Tb nv w0 w' q.2 sv'
def Firm(base Mb Vb b:Nat):Prop:=b<base/\b≠Mb/\b≠Vb
def zp6(lo base Mb Vb Ob Tb nv nc:Nat)(w0:World)(f:Nat):Prop:=
 ∀(w:World) (m:Fl.MS) (sv:Value) (d:Nat) (v:Value) (l:List Fl.Stmt),m.fuel<f->Zm lo base Mb Vb Ob Tb nv w0 w m sv->Zt d (Firm base Mb Vb) w0 v l->Fl.StmtsOk nv nc d l->
  Calls prog 72 #[.pointer (some ⟨Mb,0,none⟩),v] w (Yz lo base Mb Vb Ob Tb nv w0 (Fl.go l m))
def fuelIn(Mb:Nat)(w:World):Nat:=match w.cell? ⟨Mb,2,none⟩ with
 |some (.int _ n)=>n.toNat
 |_=>0
section
variable{lo base Mb Vb Ob Tb nv nc:Nat}{w0:World}
def Zm.fuelIn{w:World}{m:Fl.MS}{sv:Value}(h:Zm lo base Mb Vb Ob Tb nv w0 w m sv):fuelIn Mb w=m.fuel:=by
 unfold Go.Proofs.YtminjljgedopkaaGreatDoor.fuelIn;rw[show w.cell? ⟨Mb,2,none⟩=some (.int .i64 m.fuel) from h.cM.c 2 (by omega)];simp
def one_any{f d sb:Nat}(H:zp6 lo base Mb Vb Ob Tb nv nc w0 f){s:Fl.Stmt}{vp fv ev:Value}(hsb:Firm base Mb Vb sb)(hcs:Zn w0 sb 6 (rw_ [.int .i64 s.kind,.int .i64 s.line,.int .i64 s.x,vp,fv,ev]))(hvp:zz3 (Firm base Mb Vb) w0 vp s.e)(hfv:Zt d (Firm base Mb Vb) w0 fv s.body)(hev:Zt d (Firm base Mb Vb) w0 ev s.other)
  (hk:Fl.KindOk nv nc s) (he:Fl.ExprOk nv s.e) (hb:Fl.StmtsOk nv nc d s.body) (ho:Fl.StmtsOk nv nc d s.other) (w:World) (m:Fl.MS) (sv:Value) (hm:m.fuel<=f) (hw:Zm lo base Mb Vb Ob Tb nv w0 w m sv):
  Calls prog 131 #[.pointer (some ⟨Mb,0,none⟩),.pointer (some ⟨sb,0,none⟩)] w (Yz lo base Mb Vb Ob Tb nv w0 (Fl.go [s] m)):=by
 have hmf:Hid (m.fuel<=f):=hm;have HW:Hid (Zm lo base Mb Vb Ob Tb nv w0 w m sv):=hw;have HH:Hid (zp6 lo base Mb Vb Ob Tb nv nc w0 f):=H;have HCS:Hid (∀W m' sv',Zm lo base Mb Vb Ob Tb nv w0 W m' sv'->Zn W sb 6 (rw_ [.int .i64 s.kind,.int .i64 s.line,.int .i64 s.x,vp,fv,ev])):=λW m' sv' h=>hcs.block (h.fx sb hsb.1 hsb.2.1 hsb.2.2);have HVP:Hid (∀W m' sv',Zm lo base Mb Vb Ob Tb nv w0 W m' sv'->Calls prog 166 #[.pointer (some ⟨Mb,0,none⟩),vp] W λe w'=>e=.returned (.int .u32 ((Fl.exprV m'.vars s.e:Nat):Int))/\Below W.heap.size W w'):=λW m' sv' h=>ywz (S:=Firm base Mb Vb) h vp s.e (hvp.kept (λ_ h=>h) (λb hb=>h.fx b hb.1 hb.2.1 hb.2.2)) he;have HFV:Hid (∀W m' sv',m'.fuel<f->Zm lo base Mb Vb Ob Tb nv w0 W m' sv'->Calls prog 72 #[.pointer (some ⟨Mb,0,none⟩),fv] W (Yz lo base Mb Vb Ob Tb nv w0 (Fl.go s.body m'))):=λW m' sv' h1 h2=>H W m' sv' d fv s.body h1 h2 hfv hb;have HEV:Hid (∀W m' sv',m'.fuel<f->Zm lo base Mb Vb Ob Tb nv w0 W m' sv'->Calls prog 72 #[.pointer (some ⟨Mb,0,none⟩),ev] W (Yz lo base Mb Vb Ob Tb nv w0 (Fl.go s.other m'))):=λW m' sv' h1 h2=>H W m' sv' d ev s.other h1 h2 hev ho;have HK:Hid (Fl.KindOk nv nc s):=hk;have HE:Hid (Fl.ExprOk nv s.e):=he;obtain⟨va,rfl⟩:∃va,vp=.pointer (some ⟨va,0,none⟩):=by
  rcases hvp with⟨_,b,h1,_⟩|⟨_,b,_,_,h1,_⟩
  ·exact⟨b,h1⟩
  ·exact⟨b,h1⟩
 obtain⟨fa,fn,fc,rfl⟩:∃fa fn fc,fv=.slice fa fn fc:=by
  cases d with
  |zero=>exact⟨_,_,_,hfv.2⟩
  |succ d=>obtain⟨ao,c,h1,-⟩:=hfv;exact⟨_,_,_,h1⟩
 obtain⟨ea,en,ec,rfl⟩:∃fa fn fc,ev=.slice fa fn fc:=by
  cases d with
  |zero=>exact⟨_,_,_,hev.2⟩
  |succ d=>obtain⟨ao,c,h1,-⟩:=hev;exact⟨_,_,_,h1⟩
 have hsm:sb≠Mb/\sb≠Vb:=⟨hsb.2.1,hsb.2.2⟩;have HSB:Hid (sb<base):=hsb.1;clear H hm hw hcs hvp hfv hev hk he hb ho hsb
 go_enter func131,ntmps131
 go_wp2_with fail
 obtain⟨J,hJ⟩:∃J:Act->World->Prop,J=λa' w'=>∃(m':Fl.MS) (sv':Value),(∃(u2 u3 u4 u5 u6 u7 u8 u9 u10 u11 u12 u13 u14 u15 u16 u17 u18 u19 u20 u21 u22 u23 u24 u25 u26 u27 u28 u29 u30 u31 u32 u33 u34 u35 u36 u37 u38 u39 u40 u41 u42 u43 u44 u45 u46 u47 u48 u49 u50 u51 u52 u53 u54 u55 u56 u57 u58 u59 u60 u61 u62 u63 u64 u65 u66 u67 u68 u69 u70 u71 u72 u73 u74:Value),a'={tmps:=#[.pointer (some ⟨Mb,0,none⟩),.pointer (some ⟨sb,0,none⟩),u2,u3,u4,u5,u6,u7,u8,u9,u10,u11,u12,u13,u14,u15,u16,u17,u18,u19,u20,u21,u22,u23,u24,u25,u26,u27,u28,u29,u30,u31,u32,u33,u34,u35,u36,u37,u38,u39,u40,u41,u42,u43,u44,u45,u46,u47,u48,u49,u50,u51,u52,u53,u54,u55,u56,u57,u58,u59,u60,u61,u62,u63,u64,u65,u66,u67,u68,u69,u70,u71,u72,u73,u74],defers:=[]})/\Zm lo base Mb Vb Ob Tb nv w0 w' m' sv'/\m'.fuel<=m.fuel/\Fl.go [s] m'=Fl.go [s] m:=⟨_,rfl⟩;obtain⟨μ,hμ⟩:∃μ:Act->World->Nat,μ=λa' w'=>fuelIn Mb w':=⟨_,rfl⟩;have HJ:Hid (J=_):=hJ;have HMU:Hid (μ=_):=hμ;refine zyz 0 J μ ?_ ?_
 ·rw[hJ];exact⟨m,sv,⟨_,_,_,_,_,_,_,_,_,_,_,_,_,_,_,_,_,_,_,_,_,_,_,_,_,_,_,_,_,_,_,_,_,_,_,_,_,_,_,_,_,_,_,_,_,_,_,_,_,_,_,_,_,_,_,_,_,_,_,_,_,_,_,_,_,_,_,_,_,_,_,_,_,rfl⟩,HW.out,Nat.le_refl _,rfl⟩
 intro a' W hJW;rw[hJ]at hJW;obtain⟨m',sv',⟨u2,u3,u4,u5,u6,u7,u8,u9,u10,u11,u12,u13,u14,u15,u16,u17,u18,u19,u20,u21,u22,u23,u24,u25,u26,u27,u28,u29,u30,u31,u32,u33,u34,u35,u36,u37,u38,u39,u40,u41,u42,u43,u44,u45,u46,u47,u48,u49,u50,u51,u52,u53,u54,u55,u56,u57,u58,u59,u60,u61,u62,u63,u64,u65,u66,u67,u68,u69,u70,u71,u72,u73,u74,rfl⟩,hW,hle,hgo⟩:=hJW;have HM:Hid (Zm lo base Mb Vb Ob Tb nv w0 W m' sv'):=hW;have HGO:Hid (Fl.go [s] m=Fl.go [s] m'):=hgo.symm;have HF:Hid (m'.fuel<=m.fuel):=hle;have HST:Hid (Calls prog 165 #[.pointer (some ⟨Mb,0,none⟩)] W λe w'=>(m'.fuel=0/\e=.returned (.bool false)/\w'=W)\/(m'.fuel≠0/\e=.returned (.bool true)/\Zm lo base Mb Vb Ob Tb nv w0 w' m'.tick sv')):=yq8 hW;clear hW hle hgo hJ hμ HW
 by_cases hf0:m'.fuel=0
 ·have HEND:Hid (Yz lo base Mb Vb Ob Tb nv w0 (Fl.go [s] m) (.returned (.bool false)) W):=by
   show Yz _ _ _ _ _ _ _ _ _ _ _;rw[HGO.out,Fl.go_zero s [] m' hf0];exact⟨rfl,_,HM.out⟩
  have HF0:Hid (m'.fuel=0):=hf0;clear hf0
  go_wp2_with fail
  refine Calls.mono HST.out ?_;rintro e w1 (⟨-,rfl,hw1⟩|⟨hn,-⟩)
  ·rw[hw1]
   clear hw1
   go_wp2_with fail
   simp only[Exit.jump];go_ret;exact HEND.out
  ·exact absurd HF0.out hn
 ·have HF0:Hid (m'.fuel≠0):=hf0
  have HLT:Hid (m'.tick.fuel<f):=by
   show m'.fuel - 1<f;have:=hmf.out;have:=HF.out;omega
  have HON:Hid _:=Fl.go_one s m' hf0;clear hf0
  go_wp2_with fail
  refine Calls.mono HST.out ?_;rintro e W1 (⟨hn,-⟩|⟨-,rfl,hW1⟩)
  ·exact absurd hn HF0.out
  have HM1:Hid (Zm lo base Mb Vb Ob Tb nv w0 W1 m'.tick sv'):=hW1;have HC1:Hid (Zn W1 sb 6 (rw_ [.int .i64 s.kind,.int .i64 s.line,.int .i64 s.x,.pointer (some ⟨va,0,none⟩),.slice fa fn fc,.slice ea en ec])):=HCS.out _ _ _ hW1;have c3:W1.cell? ⟨sb,3,none⟩=some (.pointer (some ⟨va,0,none⟩)):=HC1.out.c 3 (by omega);clear hW1 HST
  go_wp2_with fail
  refine(HVP.out W1 m'.tick sv' HM1.out).mono ?_;rintro e W2 ⟨rfl,hb2⟩;have HM2:Hid (Zm lo base Mb Vb Ob Tb nv w0 W2 m'.tick sv'):=HM1.out.below hb2;have HC2:Hid (Zn W2 sb 6 (rw_ [.int .i64 s.kind,.int .i64 s.line,.int .i64 s.x,.pointer (some ⟨va,0,none⟩),.slice fa fn fc,.slice ea en ec])):=HCS.out _ _ _ HM2.out;have hvlt:Fl.exprV m'.vars s.e<4294967296:=by
   unfold Fl.exprV;have hb:=HM1.out.vb
   split
   ·exact zr3 hb _
   ·unfold Fl.opV Fl.u32
    have:=zr3 hb s.e.a
    (repeat' split)<;>first|exact Nat.mod_lt _ (by decide)|omega|exact this
  have hON:=HON.out;rw[show m'.tick.vars=m'.vars from rfl];obtain⟨v,hv⟩:∃v,v=Fl.exprV m'.vars s.e:=⟨_,rfl⟩;rw[<-hv]at hvlt hON⊢
  have HON2:Hid (Fl.go [s] m'=if s.kind=3 then(true,⟨m'.vars.set s.x v,m'.sent,m'.fuel - 1⟩)
   else if s.kind=4 then(true,⟨m'.vars,m'.sent++[(s.x,v)],m'.fuel - 1⟩)
   else if s.kind=5 then Fl.go (if v=0 then s.other else s.body) m'.tick
   else if v=0 then(true,m'.tick)
   else if(Fl.go s.body m'.tick).1=true then Fl.go [s] (Fl.go s.body m'.tick).2 else Fl.go s.body m'.tick):=hON
  have k0:W2.cell? ⟨sb,0,none⟩=some (.int .i64 s.kind):=HC2.out.c 0 (by omega);clear hb2 HM1 HC1 c3 hON HON hv;rcases HK.out with⟨hk,hx⟩|⟨hk,hx⟩|hk|⟨hk,-⟩
  ·rw[hk]at k0
   have HEND:Hid (Yz lo base Mb Vb Ob Tb nv w0 (Fl.go [s] m) (.returned (.bool true)) (W2.drew.setCell ⟨Vb,s.x,none⟩ (.int .u32 (v:Int)))):=by
    show Yz _ _ _ _ _ _ _ _ _ _ _;rw[HGO.out,HON2.out,if_pos hk];exact⟨rfl,_,HM2.out.drew.setVar s.x v hx hvlt⟩
   have m0:W2.cell? ⟨Mb,0,none⟩=some (.slice (some ⟨Vb,0,none⟩) nv nv):=HM2.out.cM.c 0 (by omega);have k2:W2.cell? ⟨sb,2,none⟩=some (.int .i64 s.x):=HC2.out.c 2 (by omega);have cv:W2.cell? ⟨Vb,s.x,none⟩=some (.int .u32 ((m'.tick.vars.getD s.x 0:Nat):Int)):=HM2.out.cV.c s.x hx;have zv:=HM2.out.cV.z;have hnv:=HM2.out.inn.nvm;obtain⟨ov,hov⟩:∃ov,ov=m'.tick.vars.getD s.x 0:=⟨_,rfl⟩;rw[<-hov]at cv;obtain⟨x,hxx⟩:∃x,x=s.x:=⟨_,rfl⟩;rw[<-hxx]at cv k2 hx HEND;have hxn:(x:Int)<(nv:Int):=(by omega);clear hov hxx HON2 HM2 HC2 HK HE hk HVP HFV HEV HCS HGO HLT
   go_wp2_with fail
   refine Vt (λW=>W.cell? ⟨Mb,0,none⟩=some (.slice (some ⟨Vb,0,none⟩) nv nv)/\W.cell? ⟨sb,2,none⟩=some (.int .i64 x)) [10] [(0,0),(0,1),(0,2),(0,3),(0,4),(0,5),(0,6),(0,7),(0,8),(0,9),(2,10)] [] (by kernel_rfl) (by kernel_rfl) rfl [(_,_),(_,_),(_,_),(_,_),(_,_),(_,_),(_,_),(_,_),(_,_),(_,_),(_,_)] rfl (λc a d v w h=>by cases d<;>exact h) ⟨m0,k2⟩ (λops hG=>?_);clear hG;simp only[List.getElem_toArray,List.getElem_cons_succ,List.getElem_cons_zero]
   iterate 10
    refine Uq rfl (λK hK=>?_);apply Exists.intro
    refine⟨λw' hw'=>?_,?_⟩
    ·obtain⟨k0,k1⟩:=hw'
     go_simp
     try with_reducible rfl
    go_simp;refine hK _ ?_;clear hK K
   refine Vl ?_
   go_wp2_with fail
   refine Yt ?_
   go_wp2_with fail
   simp only[Exit.jump];go_ret;exact HEND.out
  ·rw[hk]at k0
   obtain⟨sa,sc,hsv⟩:∃sa sc,sv'=.slice sa m'.sent.length sc:=by
    rcases HM2.out.os.2 with⟨h1,h2⟩|⟨g,cp,cur,h1,_⟩
    ·exact⟨none,0,by rw[h1,show m'.sent.length=0 from h2]⟩
    ·exact⟨_,cp,h1⟩
   subst hsv;have m1:W2.cell? ⟨Mb,1,none⟩=some (.slice sa m'.sent.length sc):=HM2.out.cM.c 1 (by omega);have k2:W2.cell? ⟨sb,2,none⟩=some (.int .i64 s.x):=HC2.out.c 2 (by omega);have zM:=HM2.out.cM.z;have hsl:m'.sent.length+1+m'.tick.fuel<=2000:=by
    have:=HM2.out.sl;have h1:m'.tick.fuel=m'.fuel - 1:=rfl;have h2:m'.tick.sent=m'.sent:=rfl;rw[h2]at this;have h3:=HM.out.sl;have:=HF0.out;omega
   have hba:=HM2.out.inn.hba;have hbz:=HM2.out.hbz;have hsbz:sb<W2.heap.size:=HC2.out.lt (by omega);obtain⟨x,hxx⟩:∃x,x=s.x:=⟨_,rfl⟩;rw[<-hxx]at k2
   have HFIN:Hid (∀sv2 W4,Zm lo base Mb Vb Ob Tb nv w0 W4 ⟨m'.vars,m'.sent++[(x,v)],m'.fuel - 1⟩ sv2->Yz lo base Mb Vb Ob Tb nv w0 (Fl.go [s] m) (.returned (.bool true)) W4):=λsv2 W4 h=>by
    rw[HGO.out,HON2.out,if_neg (by omega),if_pos hk,<-hxx];exact⟨rfl,_,h⟩
   have HOS:Hid (W2.ownsRow base 60 2 (.slice sa m'.sent.length sc) m'.sent.length (Xn m'.sent)):=HM2.out.os;have HSL:Hid (m'.sent.length+1+m'.tick.fuel<=2000):=hsl;have hsl2:m'.sent.length<=2000:=(by omega);clear hxx HON2 HC2 HK HE hk HVP HFV HEV HCS HGO HLT hsl
   go_wp2_with fail
   refine Vt (λW=>W.cell? ⟨Mb,1,none⟩=some (.slice sa m'.sent.length sc)/\W.cell? ⟨sb,2,none⟩=some (.int .i64 x)) [15] [(0,0),(0,1),(0,2),(0,3),(0,4),(0,5),(0,6),(0,7),(0,8),(0,9),(0,10),(1,11),(1,12),(1,13),(0,14),(2,15)] [] (by kernel_rfl) (by kernel_rfl) rfl [(_,_),(_,_),(_,_),(_,_),(_,_),(_,_),(_,_),(_,_),(_,_),(_,_),(_,_),(_,_),(_,_),(_,_),(_,_),(_,_)] rfl (λc a d v w h=>by cases d<;>exact h) ⟨m1,k2⟩ (λops hG=>?_);clear hG;simp only[List.getElem_toArray,List.getElem_cons_succ,List.getElem_cons_zero]
   iterate 11
    refine Uq rfl (λK hK=>?_);apply Exists.intro
    refine⟨λw' hw'=>?_,?_⟩
    ·obtain⟨k0,k1⟩:=hw'
     go_simp
     try with_reducible rfl
    go_simp;refine hK _ ?_;clear hK K
   refine Zs ?_
   go_wp2_with fail
   obtain⟨W3,hW3⟩:∃W3,W3=(W2.alloc (.cells #[.int .i64 (x:Int),.int .u32 (v:Int)] 60)).drew:=⟨_,rfl⟩;obtain⟨tb,htb⟩:∃tb,tb=W2.heap.size:=⟨_,rfl⟩;have hB3:Below W2.heap.size W2 W3:=(by rw[hW3];exact((Below.refl _ _).alloc (Nat.le_refl _) _).drew);have hz3:W2.heap.size+1=W3.heap.size:=(by rw[hW3];simp);have t0:∀i u,([.int .i64 (x:Int),.int .u32 (v:Int)]:List Value)[i]?=some u->W3.cell? ((⟨tb,0,none⟩:Addr).add i)=some u:=by
    intro i u hu
    have h2:(⟨tb,0,none⟩:Addr).add i=⟨tb,i,none⟩:=by unfold Addr.add;split<;>simp_all
    rw[h2,hW3,htb];show (W2.alloc _).cell? _=_;rw[World.cell?_alloc_new];simpa using hu
   have e0:W3.cell? ⟨Mb,1,none⟩=some (.slice sa m'.sent.length sc):=(hB3.cell (p:=⟨Mb,1,none⟩) (by show Mb<_;omega)).trans m1;have e1:W3.cell? ⟨sb,2,none⟩=some (.int .i64 x):=(hB3.cell (p:=⟨sb,2,none⟩) hsbz).trans k2;have HO3:Hid (W3.ownsRow base 60 2 (.slice sa m'.sent.length sc) m'.sent.length (Xn m'.sent)):=Zh HOS.out (λb hb=>hB3.block b (HOS.out.lt b hb).2);have HB3:Hid (Below W2.heap.size W2 W3):=hB3;rw[<-hW3,<-htb];clear hW3 htb hB3 HOS;refine⟨⟨e0,e1⟩,?_⟩;refine Zs ?_;obtain⟨i0,hi0,hz0,hzs,hzb⟩:=info_parts Tryz.infoSentP
   go_wp2_with (at_builtin;refine Zk _ rfl (.tmp 37) (.tmp 44) 51 rfl base 60 i0 (.agg #[.int .i64 0,.int .u32 0]) 2 16 underlying51 hi0 hz0 hzs hzb rfl (by decide) _ _ _ rfl HO3.out ⟨tb,0,none⟩ 1 1 [.int .i64 (x:Int),.int .u32 (v:Int)] rfl rfl (by decide) t0 ?c2 ?c3 ?c4 ?c5 ?_)
   case c2=>intro u hu;simp only[List.mem_cons,List.not_mem_nil,or_false]at hu;rcases hu with rfl|rfl<;>rfl
   case c3=>unfold maxLen;omega
   case c4=>omega
   case c5=>omega
   intro v' W4 hown4 hg4 hwh4;have HADD:Hid (Zm lo base Mb Vb Ob Tb nv w0 (W4.setCell ⟨Mb,1,none⟩ v') ⟨m'.vars,m'.sent++[(x,v)],m'.fuel - 1⟩ v'):=HM2.out.addSent x v HSL.out HB3.out hown4 hg4;obtain⟨va',vcap,rfl⟩:∃va vcap,v'=.slice va (m'.sent.length+1) vcap:=by
    rcases hown4.2 with⟨h1,h2⟩|⟨g,cp,cur,h1,_⟩
    ·omega
    ·exact⟨_,cp,h1⟩
   have hlt3:∀k,(Value.slice sa m'.sent.length sc).ownBlock=some k->base<=k/\k<W2.heap.size+1:=λk hk=>by have:=HO3.out.lt k hk;omega
   have hne3:∀k,k<base->some k≠(Value.slice sa m'.sent.length sc).ownBlock:=λk hk hh=>by have:=(hlt3 k hh.symm).1;omega
   have hq4:∀k,k<base->W4.heap[k]?=W3.heap[k]?:=λk hk=>hg4.block k (by omega) (hne3 k hk);have g0:W4.cell? ⟨Mb,1,none⟩=some (.slice sa m'.sent.length sc):=(World.cell?_of_block (a:=⟨Mb,1,none⟩) (hq4 Mb (by omega))).trans e0;have g1:W4.cell? ⟨sb,2,none⟩=some (.int .i64 x):=(World.cell?_of_block (a:=⟨sb,2,none⟩) (hq4 sb HSB.out)).trans e1;have gz:∀j,W4.frozen? ⟨Mb,j,none⟩=false:=λj=>(World.frozen?_of_block (a:=⟨Mb,j,none⟩) (hq4 Mb (by omega))).trans ((HB3.out.frozen (p:=⟨Mb,j,none⟩) (by show Mb<_;omega)).trans (zM j));have HEND:Hid (Yz lo base Mb Vb Ob Tb nv w0 (Fl.go [s] m) (.returned (.bool true)) (W4.setCell ⟨Mb,1,none⟩ (.slice va' (m'.sent.length+1) vcap))):=HFIN.out _ _ HADD.out;clear hown4 hg4 hwh4 hq4 e0 e1 t0 HO3 HB3 hlt3 hne3 HADD HFIN HM2
   go_wp2_with fail
   refine⟨⟨g0,g1⟩,?_⟩;refine Zs ?_
   go_wp2_with fail
   refine⟨⟨g0,g1⟩,?_⟩;refine Uq rfl (λK hK=>?_);apply Exists.intro
   refine⟨λw' hw'=>?_,?_⟩
   ·obtain⟨k0,k1⟩:=hw'
    go_simp
    try with_reducible rfl
   go_simp;refine hK _ ?_;clear hK K;refine Vl ?_
   go_wp2_with fail
   refine Yt ?_
   go_wp2_with fail
   simp only[Exit.jump];go_ret;exact HEND.out
  ·rw[hk]at k0
   have k4:W2.cell? ⟨sb,4,none⟩=some (.slice fa fn fc):=HC2.out.c 4 (by omega);have k5:W2.cell? ⟨sb,5,none⟩=some (.slice ea en ec):=HC2.out.c 5 (by omega)
   by_cases hv0:v=0
   ·have HG:Hid (Fl.go [s] m=Fl.go s.other m'.tick):=by show _=_;rw[HGO.out,HON2.out,if_neg (by omega),if_neg (by omega),if_pos hk,if_pos hv0]
    have b0:((v:Int)==0)=true:=(by simp[hv0]);clear HON2 HC2 HK HE hk HVP HFV HCS HGO hv0
    go_wp2_with fail
    refine(HEV.out W2 m'.tick sv' HLT.out HM2.out).mono ?_;obtain⟨qq,hqq⟩:∃qq,qq=Fl.go s.other m'.tick:=⟨_,rfl⟩;rw[<-hqq]at HG⊢;rintro e W3 ⟨rfl,hM3⟩;have HEND:Hid (Yz lo base Mb Vb Ob Tb nv w0 (Fl.go [s] m) (.returned (.bool qq.1)) W3):=by
     show Yz _ _ _ _ _ _ _ _ _ _ _;rw[HG.out];exact⟨rfl,hM3⟩
    clear hM3 hqq HG
    go_wp2_with fail
    simp only[Exit.jump];go_ret;exact HEND.out
   ·have HG:Hid (Fl.go [s] m=Fl.go s.body m'.tick):=by show _=_;rw[HGO.out,HON2.out,if_neg (by omega),if_neg (by omega),if_pos hk,if_neg hv0]
    have b0:((v:Int)==0)=false:=(by simp;exact hv0);clear HON2 HC2 HK HE hk HVP HEV HCS HGO hv0
    go_wp2_with fail
    refine(HFV.out W2 m'.tick sv' HLT.out HM2.out).mono ?_;obtain⟨qq,hqq⟩:∃qq,qq=Fl.go s.body m'.tick:=⟨_,rfl⟩;rw[<-hqq]at HG⊢;rintro e W3 ⟨rfl,hM3⟩;have HEND:Hid (Yz lo base Mb Vb Ob Tb nv w0 (Fl.go [s] m) (.returned (.bool qq.1)) W3):=by
     show Yz _ _ _ _ _ _ _ _ _ _ _;rw[HG.out];exact⟨rfl,hM3⟩
    clear hM3 hqq HG
    go_wp2_with fail
    simp only[Exit.jump];go_ret;exact HEND.out
  ·rw[hk]at k0
   have k4:W2.cell? ⟨sb,4,none⟩=some (.slice fa fn fc):=HC2.out.c 4 (by omega)
   by_cases hv0:v=0
   ·have HEND:Hid (Yz lo base Mb Vb Ob Tb nv w0 (Fl.go [s] m) (.returned (.bool true)) W2):=by
     show Yz _ _ _ _ _ _ _ _ _ _ _;rw[HGO.out,HON2.out,if_neg (by omega),if_neg (by omega),if_neg (by omega),if_pos hv0];exact⟨rfl,_,HM2.out⟩
    have b0:((v:Int)==0)=true:=(by simp[hv0]);clear HON2 HC2 HK HE hk HVP HFV HEV HCS HGO hv0
    go_wp2_with fail
    simp only[Exit.jump];go_ret;exact HEND.out
   ·have HG:Hid (Fl.go [s] m=if(Fl.go s.body m'.tick).1=true then Fl.go [s] (Fl.go s.body m'.tick).2 else Fl.go s.body m'.tick):=by show _=_;rw[HGO.out,HON2.out,if_neg (by omega),if_neg (by omega),if_neg (by omega),if_neg hv0]
    have b0:((v:Int)==0)=false:=(by simp;exact hv0);have HFU:Hid ((Fl.go s.body m'.tick).2.fuel<m'.fuel):=by
     show _<_;have h1:=Fl.go_fuel s.body m'.tick;have h2:m'.tick.fuel=m'.fuel - 1:=rfl;have h3:=HF0.out;omega
    clear HON2 HC2 HK HE hk HVP HEV HCS HGO hv0
    go_wp2_with fail
    refine(HFV.out W2 m'.tick sv' HLT.out HM2.out).mono ?_;obtain⟨qq,hqq⟩:∃qq,qq=Fl.go s.body m'.tick:=⟨_,rfl⟩;rw[<-hqq]at HG HFU⊢;obtain⟨qb,qm⟩:=qq;rintro e W3 ⟨rfl,sv3,hM3⟩;have HM3:Hid (Zm lo base Mb Vb Ob Tb nv w0 W3 qm sv3):=hM3;clear hM3 hqq
    cases qb with
    |false=>
     have HEND:Hid (Yz lo base Mb Vb Ob Tb nv w0 (Fl.go [s] m) (.returned (.bool false)) W3):=by
      show Yz _ _ _ _ _ _ _ _ _ _ _;rw[HG.out];exact⟨rfl,_,HM3.out⟩
     clear HG HFU
     go_wp2_with fail
     simp only[Exit.jump];go_ret;exact HEND.out
    |true=>
     have HJN:Hid (∀a',(∃(u2 u3 u4 u5 u6 u7 u8 u9 u10 u11 u12 u13 u14 u15 u16 u17 u18 u19 u20 u21 u22 u23 u24 u25 u26 u27 u28 u29 u30 u31 u32 u33 u34 u35 u36 u37 u38 u39 u40 u41 u42 u43 u44 u45 u46 u47 u48 u49 u50 u51 u52 u53 u54 u55 u56 u57 u58 u59 u60 u61 u62 u63 u64 u65 u66 u67 u68 u69 u70 u71 u72 u73 u74:Value),a'={tmps:=#[.pointer (some ⟨Mb,0,none⟩),.pointer (some ⟨sb,0,none⟩),u2,u3,u4,u5,u6,u7,u8,u9,u10,u11,u12,u13,u14,u15,u16,u17,u18,u19,u20,u21,u22,u23,u24,u25,u26,u27,u28,u29,u30,u31,u32,u33,u34,u35,u36,u37,u38,u39,u40,u41,u42,u43,u44,u45,u46,u47,u48,u49,u50,u51,u52,u53,u54,u55,u56,u57,u58,u59,u60,u61,u62,u63,u64,u65,u66,u67,u68,u69,u70,u71,u72,u73,u74],defers:=[]})->∀a2,J a' W3/\μ a' W3<μ a2 W):=λa' ha' a2=>by
      refine⟨?_,?_⟩
      ·rw[HJ.out]
       refine⟨qm,sv3,ha',HM3.out,?_,?_⟩
       ·have h1:=HFU.out;have h2:=HF.out;simp only at h1;omega
       ·rw[HG.out];rfl
      ·rw[HMU.out]
       show fuelIn Mb W3<fuelIn Mb W;rw[HM3.out.fuelIn,HM.out.fuelIn];exact HFU.out
     clear HG HFU
     go_wp2_with fail
     go_step3
     exact⟨rfl,HJN.out _ ⟨_,_,_,_,_,_,_,_,_,_,_,_,_,_,_,_,_,_,_,_,_,_,_,_,_,_,_,_,_,_,_,_,_,_,_,_,_,_,_,_,_,_,_,_,_,_,_,_,_,_,_,_,_,_,_,_,_,_,_,_,_,_,_,_,_,_,_,_,_,_,_,_,_,rfl⟩ _⟩
end
section
variable{lo base Mb Vb Ob Tb nv nc:Nat}{w0:World}
def yq9{f:Nat}(H:zp6 lo base Mb Vb Ob Tb nv nc w0 f):zp6 lo base Mb Vb Ob Tb nv nc w0 (f+1):=by
 intro w m sv d v l hm hw hv hl
 by_cases hnil:l=[]
 ·subst hnil
  obtain⟨ao,cp,rfl⟩:∃ao cp,v=.slice ao 0 cp:=by
   cases d with
   |zero=>exact⟨_,_,hv.2⟩
   |succ d=>obtain⟨ao,c,h1,-⟩:=hv;exact⟨_,_,h1⟩
  have HEND:Hid (Yz lo base Mb Vb Ob Tb nv w0 (Fl.go [] m) (.returned (.bool true)) w):=⟨rfl,_,hw⟩;clear hm hw hv hl H
  go_enter func72,ntmps72
  go_wp2_with fail
  go_loopw [9] (λi wr=>i=.int .i64 0/\wr=w) (λi _=>0)
  case atStart=>exact⟨rfl,rfl⟩
  case round=>
   obtain⟨rfl,hwr⟩:=hrel;rw[hwr];clear hwr;go_wp2;go_ret;exact HEND.out
 ·cases d with
  |zero=>exact absurd hv.1 hnil
  |succ d=>
   obtain⟨ao,cp,rfl,h2,h3,h4,h5⟩:=hv;obtain⟨b,off,rfl,hb,hc⟩:=h5 hnil
   have HONE:Hid (∀k,k<l.length->∃sb,w0.cell? ⟨b,off+k,none⟩=some (.pointer (some ⟨sb,0,none⟩))/\∀(W:World) (m':Fl.MS) (sv':Value),m'.fuel<=f->Zm lo base Mb Vb Ob Tb nv w0 W m' sv'->
     Calls prog 131 #[.pointer (some ⟨Mb,0,none⟩),.pointer (some ⟨sb,0,none⟩)] W (Yz lo base Mb Vb Ob Tb nv w0 (Fl.go [l.getD k noS] m'))):=λk hk=>by
    obtain⟨p,hp,sb,vp,fv,ev,rfl,g2,g3,g4,g5,g6⟩:=hc k hk;obtain⟨e1,e2,e3,e4⟩:=hl (l.getD k noS) (by rw[List.getD_eq_getElem?_getD,List.getElem?_eq_getElem hk];exact List.getElem_mem hk);exact⟨sb,hp,λW m' sv' hm' hW=>one_any H g2 g3 g4 g5 g6 e1 e2 e3 e4 W m' sv' hm' hW⟩
   have HW:Hid (Zm lo base Mb Vb Ob Tb nv w0 w m sv):=hw;have HM:Hid (m.fuel<=f):=(by show m.fuel<=f;omega);have HB:Hid (Firm base Mb Vb b):=hb;obtain⟨n,hn⟩:∃n,n=l.length:=⟨_,rfl⟩;have hn16:(n:Int)<=16:=(by omega);have hncp:(n:Int)<=(cp:Int):=(by omega);have HN:Hid (n=l.length):=hn;obtain⟨q,hq⟩:∃q,q=Fl.go l m:=⟨_,rfl⟩;have HQ:Hid (q=Fl.go l m):=hq;rw[<-hn,<-hq];clear hm hw hl H h5 hc hb hn hq h3 h2 h4
   go_enter func72,ntmps72
   go_wp2_with fail
   go_loopw [9] (λi wr=>∃(k:Nat) (m':Fl.MS) (sv':Value),i=.int .i64 k/\k<=n/\Zm lo base Mb Vb Ob Tb nv w0 wr m' sv'/\m'.fuel<=f/\q=Fl.go (l.drop k) m') (λi _=>n - (intOf i).toNat)
   case atStart=>exact⟨0,m,sv,rfl,Nat.zero_le _,HW.out,HM.out,by rw[HQ.out];rfl⟩
   case round=>
    obtain⟨k,m',sv',rfl,hk,hM,hF,hG⟩:=hrel;have HM1:Hid (Zm lo base Mb Vb Ob Tb nv w0 wr m' sv'):=hM;have HF1:Hid (m'.fuel<=f):=hF;have HG1:Hid (q=Fl.go (l.drop k) m'):=hG;clear hM hF hG
    by_cases hlt:k<n
    ·have hltI:(k:Int)<(n:Int):=by omega
     obtain⟨sb,hsb,hone⟩:=HONE.out k (by rw[<-HN.out];exact hlt);have cb:wr.cell? ⟨b,off+k,none⟩=some (.pointer (some ⟨sb,0,none⟩)):=(World.cell?_of_block (a:=⟨b,off+k,none⟩) (HM1.out.fx b HB.out.1 HB.out.2.1 HB.out.2.2)).trans hsb;have hdr:l.drop k=l.getD k noS::l.drop (k+1):=by
      have hkl:k<l.length:=(by rw[<-HN.out];exact hlt);rw[List.drop_eq_getElem_cons hkl,List.getD_eq_getElem?_getD,List.getElem?_eq_getElem hkl];rfl
     have hgc:=Fl.go_cons (l.getD k noS) (l.drop (k+1)) m';rw[<-hdr,<-HG1.out]at hgc;have hfu:=Fl.go_fuel [l.getD k noS] m';have hcall:=hone wr m' sv' HF1.out HM1.out;obtain⟨qq,hqq⟩:∃qq,qq=Fl.go [l.getD k noS] m':=⟨_,rfl⟩;rw[<-hqq]at hgc hfu hcall;have HGC:Hid (q=if qq.1=true then Fl.go (l.drop (k+1)) qq.2 else qq):=hgc;have HFU:Hid (qq.2.fuel<=m'.fuel):=hfu;have HC:Hid (Calls prog 131 #[.pointer (some ⟨Mb,0,none⟩),.pointer (some ⟨sb,0,none⟩)] wr (Yz lo base Mb Vb Ob Tb nv w0 qq)):=hcall;clear hqq hgc hfu hcall hone hsb hdr
     go_wp2_with fail
     refine Calls.mono HC.out ?_;rintro e W2 ⟨rfl,sv2,hM2⟩;have HM2:Hid (Zm lo base Mb Vb Ob Tb nv w0 W2 qq.2 sv2):=hM2;clear hM2 HC cb;obtain⟨qb,qm⟩:=qq
     cases qb with
     |false=>
      have HEND:Hid (Yz lo base Mb Vb Ob Tb nv w0 q (.returned (.bool false)) W2):=by
       show Yz _ _ _ _ _ _ _ _ _ _ _;rw[HGC.out];exact⟨rfl,_,HM2.out⟩
      go_wp2;go_ret;exact HEND.out
     |true=>
      go_wp2
      go_roundw
      case rel=>exact⟨k+1,qm,sv2,by go_num,by omega,HM2.out,Nat.le_trans HFU.out HF1.out,by rw[HGC.out];rfl⟩
      case measure=>simp[intOf];omega
    ·have hge:¬(k:Int)<(n:Int):=by omega
     have HEND:Hid (Yz lo base Mb Vb Ob Tb nv w0 q (.returned (.bool true)) wr):=by
      show Yz _ _ _ _ _ _ _ _ _ _ _;rw[HG1.out,List.drop_of_length_le (by rw[<-HN.out];omega)];exact⟨rfl,_,HM1.out⟩
     go_wp2;go_ret;exact HEND.out
def all_any(f:Nat):zp6 lo base Mb Vb Ob Tb nv nc w0 f:=by
 induction f with
 |zero=>exact λw m sv d v l hm=>absurd hm (Nat.not_lt_zero _)
 |succ f ih=>exact yq9 ih
end
def zp7(P:Program)(ops:Array Oper)(S:World->Prop)(Q:Exit->Act->World->Prop):List Oper->Act->World->Prop
 |[],a,w=>Q .normal a w
 |o::l,a,w=>wpList P ops (Exit.then (λa1 w1=>S w1/\zp7 P ops S Q l a1 w1) Q) [o] a w
section
variable{P:Program}{Q:Exit->Act->World->Prop}{S:World->Prop}
def zx2{ops:Array Oper}{o:Oper}{l:List Oper}{a:Act}{w:World}(h:wpList P ops (Exit.then (λa1 w1=>S w1/\zp7 P ops S Q l a1 w1) Q) [o] a w):zp7 P ops S Q (o::l) a w:=h
def st_end{ops:Array Oper}{a:Act}{w:World}(h:Q .normal a w):zp7 P ops S Q [] a w:=h
def zh9{ops:Array Oper}:∀(τ:List Nat) (tq:List Oper) (pre:List Nat) (a:Act) (w:World),τ.map (λi=>ops[i]?)=tq.map some->Xf ops pre τ=true->
  zp7 P ops S Q tq a w->wpAnyH P .any ops Q S τ.length (Zr ops.size pre) a w
 |[],tq,pre,a,w,hto,hB,h=>by
  have:tq=[]:=by cases tq with|nil=>rfl|cons o tq=>simp at hto
  subst this;simp only[Xf,decide_eq_true_eq]at hB;exact wpAnyH_done hB h 0
 |i::τ,tq,pre,a,w,hto,hB,h=>by
  cases tq with
  |nil=>simp at hto
  |cons o tq=>
   simp only[List.map_cons,List.cons.injEq]at hto;simp only[Xf,Bool.and_eq_true,decide_eq_true_eq]at hB;refine wpAnyH_all hB.1 (by simp) (λj hj=>?_);simp only[List.mem_singleton]at hj;subst hj;refine wpOp_mono (λa' w' h'=>⟨h'.1,?_⟩) (Uf hto.1 h);have:=zh9 τ tq (pre++[j]) a' w' hto.2 hB.2 h'.2
   rwa [Yu]at this
def zjz{id:Nat}{a:Act}{w:World}{l:List Oper}(S:World->Prop)(σ:List Nat)(i j:Nat)(τ τ':List Nat)(hm:P.follows .mixedOrders=true)
  (hB:(Region.noSelect l.toArray && (zzy l.toArray [] σ && (decide (Region.ready .any l.toArray (Zr l.toArray.size σ)=[i,j]) && (Xf l.toArray (σ++[i]) τ && Xf l.toArray (σ++[j]) τ'))))=true) (hlen:l.length=τ.length+1+σ.length) (hlen':τ'.length=τ.length)
  (so:List Oper) (oi oj:Oper) (tq tq':List Oper) (hso:σ.map (λi=>l.toArray[i]?)=so.map some) (hi:l.toArray[i]?=some oi) (hj:l.toArray[j]?=some oj) (hto:τ.map (λi=>l.toArray[i]?)=tq.map some) (hto':τ'.map (λi=>l.toArray[i]?)=tq'.map some) (hQ:∀c a d v w,Q (.panic c) (Act.put a d v) w->Q (.panic c) a w) (hS:S w.drew)
  (h:∀ops:Array Oper,Ue P ops S (λa'=>zp7 P ops S Q (oi::tq) a' w.drew/\zp7 P ops S Q (oj::tq') a' w.drew) so a):(Code.region id l.toArray true).wp P Q a w:=by
 simp only[Bool.and_eq_true,decide_eq_true_eq]at hB;refine wp_region_held (S:=S) hm ?_;have key:=zu4 (P:=P) (Q:=Q) (S:=S) (ops:=l.toArray) (f:=τ.length+1) (w:=w.drew) hB.1 hQ hS σ so [] a hso hB.2.1 ?_
 ·rw[<-hlen]at key;simpa [Zr] using key
 ·refine ztw (λa' h'=>?_) _ _ (h l.toArray)
  have step:∀(x:Nat) (ox:Oper) (tx:List Nat) (tox:List Oper),l.toArray[x]?=some ox->tx.map (λi=>l.toArray[i]?)=tox.map some->Xf l.toArray (σ++[x]) tx=true->tx.length=τ.length->zp7 P l.toArray S Q (ox::tox) a' w.drew->wpOp P l.toArray Q x (λa'' w''=>S w''/\wpAnyH P .any l.toArray Q S τ.length ((Zr l.toArray.size ([]++σ)).setIfInBounds x true) a'' w'') a' w.drew:=by
   intro x ox tx tox hx htx hf hl hw;refine wpOp_mono (λa'' w'' h''=>⟨h''.1,?_⟩) (Uf hx hw);have:=zh9 tx tox (σ++[x]) a'' w'' htx hf h''.2;rw[Yu,hl]at this;simpa using this
  refine wpAnyH_all (rs:=[i,j]) (by simpa using hB.2.2.1) (by simp) (λx hx=>?_);simp only[List.mem_cons,List.not_mem_nil,or_false]at hx;rcases hx with rfl|rfl
  ·exact step _ oi τ tq hi hto hB.2.2.2.1 rfl h'.1
  ·exact step _ oj τ' tq' hj hto' hB.2.2.2.2 hlen' h'.2
end
end Go.Proofs.YtminjljgedopkaaGreatDoor
