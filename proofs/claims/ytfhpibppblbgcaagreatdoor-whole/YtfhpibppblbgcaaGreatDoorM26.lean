import Derived.Test.YtfhpibppblbgcaaGreatDoorM09
import Derived.Test.YtfhpibppblbgcaaGreatDoorM25
set_option linter.all false
set_option maxRecDepth 100000
set_option maxHeartbeats 40000000
namespace Go.Proofs.YtfhpibppblbgcaaGreatDoor
open Go.RowKit Go.Proofs.Tryz
variable{P:Program}{ops:Array Oper}{Q:Exit->Act->World->Prop}{a:Act}{w w' w0:World}{Rb lo base Pb t:Nat}{r:Fl.RS}{rest:List Oper}
def yuv(m:Nat):∀(l:List Nat),(Zo m l).size=m:=by
 have key:∀(l:List Nat) (d:Array Bool),(l.foldl (λd i=>d.setIfInBounds i true) d).size=d.size:=by
  intro l
  induction l with
  |nil=>intro d;rfl
  |cons i l ih=>intro d;rw[List.foldl_cons,ih];simp
 intro l;unfold Zo;rw[key];simp
def zp3(ops:Array Oper)(late:List Nat):List Nat->List (Nat×Nat)->Bool
 |_,[]=>true
 |pre,(0,i)::l=>Region.free .any ops (Zo ops.size pre) i && ((Region.ready .any ops (Zo ops.size pre)).contains i && (late.all (λk=>zp5 ops k i) && zp3 ops late (pre++[i]) l))
 |pre,(_+1,i)::l=>decide (Region.ready .any ops (Zo ops.size pre)=[i]) && zp3 ops late (pre++[i]) l
section
variable{S S':World->Prop}{E:Act->World->Prop}{late:List Nat}
def zn3:∀(fuel:Nat) (listed:Array Bool) (a:Act) (w:World),(∀i,listed.getD i true=false->i∈late)->Ub P ops Q S' [] fuel listed a w->Ub P ops Q S late fuel listed a w
 |0,_,_,_,_,h=>h
 |fuel+1,listed,a,w,hl,h=>⟨h.1,λi hi=>wpOp_mono (λa' w' h'=>⟨λhn=>absurd (hl i (mem_ready.1 hi).1) hn,zn3 fuel _ a' w' (λk hk=>hl k (by
   by_cases a0:i=k
   ·subst a0;exact(mem_ready.1 hi).1
   rw[getD_set_ne true a0]at hk;exact hk)) h'.2⟩) (h.2 i hi)⟩
def zl0(f:Nat)(hs:Region.noSelect ops=true)(hQ:∀c a d v w,Q (.panic c) (Act.put a d v) w->Q (.panic c) a w):
  ∀(st:List (Nat×Nat)) (so:List (Nat×Oper)) (pre:List Nat) (a:Act) (w:World),S w->st.map (λp=>(p.1,ops[p.2]?))=so.map (λp=>(p.1,some p.2))->zp3 ops late pre st=true->
  (∀a w,E a w->S w->Ub P ops Q S late f (Zo ops.size (pre++st.map (·.2))) a w)->
  Xj P ops S Q E so a w->Ub P ops Q S late (f+st.length) (Zo ops.size pre) a w
 |[],so,pre,a,w,hS,a0,hB,hE,h=>by
  have:so=[]:=by cases so with|nil=>rfl|cons o so=>simp at a0
  subst this;have:=hE a w h.2 h.1;simpa using this
 |(0,i)::st,so,pre,a,w,hS,a0,hB,hE,h=>by
  cases so with
  |nil=>simp at a0
  |cons p so=>
   obtain⟨c,o⟩:=p;simp only[List.map_cons,List.cons.injEq,Prod.mk.injEq]at a0;obtain⟨⟨rfl,ho⟩,a0⟩:=a0;simp only[zp3,Bool.and_eq_true,List.all_eq_true]at hB;obtain⟨v,h1,h2⟩:=h;have ih:=zl0 f hs hQ st so (pre++[i]) (a.put o.dst v) w hS a0 hB.2.2.2 (λa w hE' hS'=>by have:=hE a w hE' hS';simpa using this) h2;rw[Yp]at ih;have:=zs2 ho (Region.noSelect_spec hs) (λc a w h=>hQ c a _ _ w h) hB.2.2.1 (f+st.length) _ a w (Region.free_spec ho hB.1) (by simpa using hB.2.1) h1 hS ih;simpa [Nat.add_assoc] using this
 |(k+1,i)::st,so,pre,a,w,hS,a0,hB,hE,h=>by
  cases so with
  |nil=>simp at a0
  |cons p so=>
   obtain⟨c,o⟩:=p;simp only[List.map_cons,List.cons.injEq,Prod.mk.injEq]at a0;obtain⟨⟨rfl,ho⟩,a0⟩:=a0;simp only[zp3,Bool.and_eq_true,decide_eq_true_eq]at hB;rw[List.length_cons,<-Nat.add_assoc];refine⟨λh0=>(by rw[hB.1]at h0;cases h0),λx hx=>?_⟩;rw[hB.1]at hx;simp only[List.mem_singleton]at hx;subst hx;refine wpOp_mono (λa1 w1 hk=>⟨λ_=>hk.1,?_⟩) (Uk ho h);have ih:=zl0 f hs hQ st so (pre++[x]) a1 w1 hk.1 a0 hB.2 (λa w hE' hS'=>by have:=hE a w hE' hS';simpa using this) hk.2
   rwa [Yp]at ih
def zzx{id:Nat}{l:List Oper}(S:World->Prop)(late:List Nat)(st st2:List (Nat×Nat))(i j:Nat)(hm:P.follows .mixedOrders=true)
  (hB:(Region.noSelect l.toArray && (zp3 l.toArray late [] st && (((List.range l.length).all λk=>(Zo l.toArray.size (st.map (·.2))).getD k true||late.contains k) && (zzv l.toArray (st.map (·.2)) st2 && (decide (Region.ready .any l.toArray (Zo l.toArray.size (st.map (·.2)++st2.map (·.2)))=[i,j]) && (decide (Region.ready .any l.toArray (Zo l.toArray.size (st.map (·.2)++st2.map (·.2)++[i]))=[j]) && (decide (Region.ready .any l.toArray (Zo l.toArray.size (st.map (·.2)++st2.map (·.2)++[j]))=[i]) && (decide (Region.ready .any l.toArray (Zo l.toArray.size (st.map (·.2)++st2.map (·.2)++[i]++[j]))=[]) && decide (Region.ready .any l.toArray (Zo l.toArray.size (st.map (·.2)++st2.map (·.2)++[j]++[i]))=[])))))))))=true)
  (bj:l.length=2+st2.length+st.length) (so so2:List (Nat×Oper)) (oi oj:Oper) (d0:st.map (λp=>(p.1,l.toArray[p.2]?))=so.map (λp=>(p.1,some p.2))) (b0:st2.map (λp=>(p.1,l.toArray[p.2]?))=so2.map (λp=>(p.1,some p.2))) (hi:l.toArray[i]?=some oi) (hj:l.toArray[j]?=some oj)
  (hQ:∀c a d v w,Q (.panic c) (Act.put a d v) w->Q (.panic c) a w) (hS:S w.drew)
  (h:∀ops:Array Oper,Xj P ops S Q (Xj P ops (λ_=>True) Q (λa' w'=>wpList P ops (Exit.then (λa1 w1=>wpList P ops (Exit.then (λa2 w2=>Q .normal a2 w2) Q) [oj] a1 w1) Q) [oi] a' w'/\wpList P ops (Exit.then (λa1 w1=>wpList P ops (Exit.then (λa2 w2=>Q .normal a2 w2) Q) [oi] a1 w1) Q) [oj] a' w') so2) so a w.drew):(Code.region id l.toArray true).wp P Q a w:=by
 simp only[Bool.and_eq_true,decide_eq_true_eq]at hB;obtain⟨hs,hh,c0,e0,r0,ri,rj,rij,rji⟩:=hB;have key:=zl0 (P:=P) (Q:=Q) (S:=S) (late:=late) (ops:=l.toArray) (2+st2.length) hs hQ st so [] a w.drew hS d0 hh ?_ (h l.toArray)
 ·refine wp_region_any hm (zz4 (S:=S) (late:=late) _ _ _ _ ?_)
  have e:l.toArray.size=2+st2.length+st.length:=(by simp[bj]);rw[<-e]at key;simpa [Zo] using key
 intro a0 w0 f0 _;refine zn3 (S':=λ_=>True) _ _ _ _ (λk hk=>?_) ?_
 ·simp only[List.nil_append]at hk
  by_cases g0:k<l.length
  ·have:=List.all_eq_true.1 c0 k (List.mem_range.2 g0)
   rw[hk,Bool.false_or]at this;simpa using this
  have cF:(Zo l.toArray.size (st.map (·.2))).size<=k:=(by rw[yuv];simp;omega);rw[Array.getD_eq_getD_getElem?,Array.getElem?_eq_none cF]at hk
  cases hk
 refine zw4 (S:=λ_=>True) 2 hs hQ st2 so2 ([]++st.map (·.2)) a0 w0 trivial b0 (by simpa using e0) ?_ f0;intro a' w' hE _
 have step:∀(x y:Nat) (ox oy:Oper),l.toArray[x]?=some ox->l.toArray[y]?=some oy->Region.ready .any l.toArray (Zo l.toArray.size (st.map (·.2)++st2.map (·.2)++[x]))=[y]->Region.ready .any l.toArray (Zo l.toArray.size (st.map (·.2)++st2.map (·.2)++[x]++[y]))=[]->
   wpList P l.toArray (Exit.then (λa1 w1=>wpList P l.toArray (Exit.then (λa2 w2=>Q .normal a2 w2) Q) [oy] a1 w1) Q) [ox] a' w'->wpOp P l.toArray Q x (λa1 w1=>(x ∉ ([]:List Nat)->True)/\Ub P l.toArray Q (λ_=>True) [] 1 ((Zo l.toArray.size ([]++st.map (·.2)++st2.map (·.2))).setIfInBounds x true) a1 w1) a' w':=by
  intro x y ox oy hx hy h1 h2 hw;refine wpOp_mono (λa1 w1 hk=>⟨λ_=>trivial,?_⟩) (Uk hx hw);have e1:(Zo l.toArray.size ([]++st.map (·.2)++st2.map (·.2))).setIfInBounds x true=Zo l.toArray.size (st.map (·.2)++st2.map (·.2)++[x]):=(by rw[Yp];rfl);rw[e1];refine⟨λh0=>(by rw[h1]at h0;cases h0),λz hz=>?_⟩;rw[h1]at hz;simp only[List.mem_singleton]at hz;subst hz;refine wpOp_mono (λa2 w2 i0=>⟨λ_=>trivial,?_⟩) (Uk hy hk);have e2:(Zo l.toArray.size (st.map (·.2)++st2.map (·.2)++[x])).setIfInBounds z true=Zo l.toArray.size (st.map (·.2)++st2.map (·.2)++[x]++[z]):=(Yp _ _ _).symm;rw[e2];exact⟨h2,i0⟩
 refine⟨λh0=>?_,λz hz=>?_⟩
 ·simp only[List.nil_append]at h0;rw[r0]at h0;cases h0
 simp only[List.nil_append]at hz;rw[r0]at hz;simp only[List.mem_cons,List.not_mem_nil,or_false]at hz;rcases hz with rfl|rfl
 ·exact step _ j oi oj hi hj ri rij hE.1
 exact step _ i oj oi hj hi rj rji hE.2
end
def zrz(Rb:Nat)(w:World)(m:Yl)(w':World)(m':Yl):Prop:=∀b,b<w.heap.size->b≠Rb->(∀j,Zr j->(m.v j).ownBlock≠some b)->w'.heap[b]?=w.heap[b]?/\∀j,Zr j->(m'.v j).ownBlock≠some b
def zrz.below{m:Yl}(h:Bq w w'):zrz Rb w m w' m:=λb hb _ du=>⟨h.block b hb,du⟩
def zv5(lo base Rb Pb:Nat)(w0 w:World)(m:Yl)(fl:List FlS)(t:Nat)(aV:Nat×Fl.aa×Fl.RS)(e:Ending)(w':World):Prop:=
 (aV.1=0->e=.returned (.tuple #[.agg (Zm aV.2.1.kind aV.2.1.x aV.2.1.e.op aV.2.1.e.a.var aV.2.1.e.a.v aV.2.1.e.b.var aV.2.1.e.b.v),Iq 0])/\∃m',Zs lo base Rb Pb w0 w' m'/\Zg aV.2.2 fl t m'/\zrz Rb w m w' m')/\
 (aV.1≠0->(∃(k x op:Int) (av:Bool) (an:Int) (bv:Bool) (bn:Int),e=.returned (.tuple #[.agg (Zm k x op av an bv bn),Iq aV.1]))/\Below lo w0 w')
def zzw(r:Fl.RS)(kind:Nat)(a:List UInt8):Nat×Fl.aa×Fl.RS:=match r.value [a] with
 |none=>(4,noS,r)
 |some e=>(0,⟨kind,0,0,e,[],[]⟩,r)
section
variable{m:Yl}{fl:List FlS}
def st_if(h:Zs lo base Rb Pb w0 w m)(hr:Zg r fl t m)(b off cap:Nat)(a:List UInt8)(ha:a.length<=100000)(hb:b<w.heap.size)(k0:2<=cap/\cap<=maxLen)(c0:w.cell? (Aq b off)=some (.string ⟨#[105,102]⟩))(c1:w.cell? (Aq b (off+1))=some (.string ⟨a.toArray⟩)):
  Cq 19 #[Pq Rb,.slice (some (Aq b off)) 2 cap] w (zv5 lo base Rb Pb w0 w m fl t (zzw r 5 a)):=by
 have bL:=h.bL;have HH:=Zz h;have HO:=Zz hr;have h0:Hid (∀W,Bq w W->Cq 28 #[Pq Rb,.string ⟨a.toArray⟩] W (zsz (r.atom a) W)):=λW hW=>zwy (h.below hW) hr a ha;have e0:Hid (zzw r 5 a=match r.atom a with|none=>(4,noS,r)|some x=>(0,⟨5,0,0,⟨-1,x,Fl.ju⟩,[],[]⟩,r)):=by
  show _=_;have hv:r.value [a]=(r.atom a).map λx=>⟨-1,x,Fl.ju⟩:=rfl;unfold zzw;rw[hv];generalize r.atom a=o
  cases o<;>rfl
 obtain⟨aV,b0⟩:=nmE (zzw r 5 a);rw[<-b0]at e0⊢;obtain⟨oa,i0⟩:=nmE (r.atom a);rw[<-i0]at h0 e0
 have j0:(2:Int)<=(cap:Int):=by omega
 have HB:Hid (∀o o',Bq w ((w.alloc o).alloc o')):=λo o'=>(bA).alloc (by simp) _;clear h hr b0 i0
 go_enter func19,ntmps19
 go_wp2_with fail
 refine(h0 _ (HB _ _)).mono ?_;rintro e W1 ⟨d0,aQ,a0⟩;have rE:W1.heap[w.heap.size]?=some (.cells Yy 61 (0,0)):=by
  rw[d0.block _ (by simp;omega),Below.heap_alloc _ _ _ (by simp)];exact Jm _ _ _ rfl
 have rS:W1.heap[w.heap.size+1]?=some (.cells (Zm 5 0 (-1) false 0 false 0) 61 (0,0)):=by
  rw[d0.block _ (by simp)];exact Jm _ _ _ (by simp)
 have l0:Hid (Bq w W1):=(HB _ _).trans (d0.mono (by simp;omega))
 have n0:w.heap.size+2<=W1.heap.size:=by have:=d0.size;simp at this;omega
 have o0:w.heap.size+1<W1.heap.size:=by omega
 have m0:w.heap.size<W1.heap.size:=by omega
 have s0:Cl W1 (w.heap.size+1) 0 (Iq 5):=cell_of_row _ _ 0 _ _ (0,0) rS;have s1:Cl W1 (w.heap.size+1) 1 (Iq 0):=cell_of_row _ _ 1 _ _ (0,0) rS;have s2:Cl W1 (w.heap.size+1) 2 (Iq 0):=cell_of_row _ _ 2 _ _ (0,0) rS;have s3:Cl W1 (w.heap.size+1) 3 (Iq (-1)):=cell_of_row _ _ 3 _ _ (0,0) rS;have s4:Cl W1 (w.heap.size+1) 4 (.bool false):=cell_of_row _ _ 4 _ _ (0,0) rS;have s5:Cl W1 (w.heap.size+1) 5 (Iq 0):=cell_of_row _ _ 5 _ _ (0,0) rS;have s6:Cl W1 (w.heap.size+1) 6 (.bool false):=cell_of_row _ _ 6 _ _ (0,0) rS;have s7:Cl W1 (w.heap.size+1) 7 (Iq 0):=cell_of_row _ _ 7 _ _ (0,0) rS;have s8:Cl W1 (w.heap.size+1) 8 Zq:=cell_of_row _ _ 8 _ _ (0,0) rS;have s9:Cl W1 (w.heap.size+1) 9 Zq:=cell_of_row _ _ 9 _ _ (0,0) rS
 have sz:∀j,W1.frozen? (Aq (w.heap.size+1) j)=false:=λj=>by simp[World.frozen?,rS]
 have RE:=Zz rE;clear rE rS d0
 have f0:Hid (∀u v a,(((W1.setCell (Aq (w.heap.size+1) 4) u).setCell (Aq (w.heap.size+1) 5) v).alloc a).heap[w.heap.size]?=some (.cells Yy 61 (0,0))):=λu v a=>by
  rw[Below.heap_alloc _ _ _ (by rw[Zy,Zy];exact m0),Zx _ _ _ _ _ (by omega),Zx _ _ _ _ _ (by omega)];exact RE
 have g0:Hid (∀u v a c,Bq w ((((W1.setCell (Aq (w.heap.size+1) 4) u).setCell (Aq (w.heap.size+1) 5) v).alloc a).setRow w.heap.size c)):=λu v a c=>by
  refine below_setRow ((((l0.setCell (by show w.heap.size<=w.heap.size+1;omega) _).setCell (by show w.heap.size<=w.heap.size+1;omega) _)).alloc (by rw[Zy,Zy];omega) _) (Nat.le_refl _) _
 cases oa with
 |none=>
  obtain⟨v,rfl⟩:=a0 rfl;have HR:=Zz e0.out;clear aQ a0
  go_wp2_with (refine Xn rfl (.tmp 4) (.tmp 141) 61 rfl w.heap.size rfl Yy (Zm 5 0 (-1) true v false 0) rfl 61 (f0 _ _ _) Tryz.infoStmt10 rfl (by simp[Zm,Value.oneCell']) ?_)
  refine bodyPost_ret (v:=.tuple #[.agg (Zm 5 0 (-1) true v false 0),Iq 4]) ?_ rfl ?_
  ·exact Yx (p:=4) (q:=5) (ty:=61) results19 _ _ (Aq w.heap.size 0) _ rfl (run_loadVar_row _ _ _ _ _ _ _ (setRow_heap _ _ _ _ _ _ (f0 _ _ _)) underlying61 rfl Tryz.infoStmt10)
  rw[HR.out];exact⟨λh=>(by cases h),λ_=>⟨⟨_,_,_,_,_,_,_,rfl⟩,(HH.below (g0 _ _ _ _)).bel⟩⟩
 |some x=>
  obtain rfl:=aQ x rfl;have HR:=Zz e0.out;clear aQ a0
  go_wp2_with (refine Xn rfl (.tmp 4) (.tmp 142) 61 rfl w.heap.size rfl Yy (Zm 5 0 (-1) x.var x.v false 0) rfl 61 (f0 _ _ _) Tryz.infoStmt10 rfl (by simp[Zm,Value.oneCell']) ?_)
  refine bodyPost_ret (v:=.tuple #[.agg (Zm 5 0 (-1) x.var x.v false 0),Iq 0]) ?_ rfl ?_
  ·exact Yx (p:=4) (q:=5) (ty:=61) results19 _ _ (Aq w.heap.size 0) _ rfl (run_loadVar_row _ _ _ _ _ _ _ (setRow_heap _ _ _ _ _ _ (f0 _ _ _)) underlying61 rfl Tryz.infoStmt10)
  rw[HR.out];exact⟨λ_=>⟨rfl,m,HH.below (g0 _ _ _ _),HO,zrz.below (g0 _ _ _ _)⟩,λh=>absurd rfl h⟩
def yhz(h:Zs lo base Rb Pb w0 w m)(hr:Zg r fl t m)(b off cap:Nat)(a:List UInt8)(ha:a.length<=100000)(hb:b<w.heap.size)(k0:2<=cap/\cap<=maxLen)(c0:w.cell? (Aq b off)=some (.string ⟨#[119,104,105,108,101]⟩))(c1:w.cell? (Aq b (off+1))=some (.string ⟨a.toArray⟩)):
  Cq 19 #[Pq Rb,.slice (some (Aq b off)) 2 cap] w (zv5 lo base Rb Pb w0 w m fl t (zzw r 6 a)):=by
 have bL:=h.bL;have HH:=Zz h;have HO:=Zz hr;have h0:Hid (∀W,Bq w W->Cq 28 #[Pq Rb,.string ⟨a.toArray⟩] W (zsz (r.atom a) W)):=λW hW=>zwy (h.below hW) hr a ha;have e0:Hid (zzw r 6 a=match r.atom a with|none=>(4,noS,r)|some x=>(0,⟨6,0,0,⟨-1,x,Fl.ju⟩,[],[]⟩,r)):=by
  show _=_;have hv:r.value [a]=(r.atom a).map λx=>⟨-1,x,Fl.ju⟩:=rfl;unfold zzw;rw[hv];generalize r.atom a=o
  cases o<;>rfl
 obtain⟨aV,b0⟩:=nmE (zzw r 6 a);rw[<-b0]at e0⊢;obtain⟨oa,i0⟩:=nmE (r.atom a);rw[<-i0]at h0 e0
 have j0:(2:Int)<=(cap:Int):=by omega
 have HB:Hid (∀o o',Bq w ((w.alloc o).alloc o')):=λo o'=>(bA).alloc (by simp) _;clear h hr b0 i0
 go_enter func19,ntmps19
 go_wp2_with fail
 refine(h0 _ (HB _ _)).mono ?_;rintro e W1 ⟨d0,aQ,a0⟩;have rE:W1.heap[w.heap.size]?=some (.cells Yy 61 (0,0)):=by
  rw[d0.block _ (by simp;omega),Below.heap_alloc _ _ _ (by simp)];exact Jm _ _ _ rfl
 have rS:W1.heap[w.heap.size+1]?=some (.cells (Zm 6 0 (-1) false 0 false 0) 61 (0,0)):=by
  rw[d0.block _ (by simp)];exact Jm _ _ _ (by simp)
 have l0:Hid (Bq w W1):=(HB _ _).trans (d0.mono (by simp;omega))
 have n0:w.heap.size+2<=W1.heap.size:=by have:=d0.size;simp at this;omega
 have o0:w.heap.size+1<W1.heap.size:=by omega
 have m0:w.heap.size<W1.heap.size:=by omega
 have s0:Cl W1 (w.heap.size+1) 0 (Iq 6):=cell_of_row _ _ 0 _ _ (0,0) rS;have s1:Cl W1 (w.heap.size+1) 1 (Iq 0):=cell_of_row _ _ 1 _ _ (0,0) rS;have s2:Cl W1 (w.heap.size+1) 2 (Iq 0):=cell_of_row _ _ 2 _ _ (0,0) rS;have s3:Cl W1 (w.heap.size+1) 3 (Iq (-1)):=cell_of_row _ _ 3 _ _ (0,0) rS;have s4:Cl W1 (w.heap.size+1) 4 (.bool false):=cell_of_row _ _ 4 _ _ (0,0) rS;have s5:Cl W1 (w.heap.size+1) 5 (Iq 0):=cell_of_row _ _ 5 _ _ (0,0) rS;have s6:Cl W1 (w.heap.size+1) 6 (.bool false):=cell_of_row _ _ 6 _ _ (0,0) rS;have s7:Cl W1 (w.heap.size+1) 7 (Iq 0):=cell_of_row _ _ 7 _ _ (0,0) rS;have s8:Cl W1 (w.heap.size+1) 8 Zq:=cell_of_row _ _ 8 _ _ (0,0) rS;have s9:Cl W1 (w.heap.size+1) 9 Zq:=cell_of_row _ _ 9 _ _ (0,0) rS
 have sz:∀j,W1.frozen? (Aq (w.heap.size+1) j)=false:=λj=>by simp[World.frozen?,rS]
 have RE:=Zz rE;clear rE rS d0
 have f0:Hid (∀u v a,(((W1.setCell (Aq (w.heap.size+1) 4) u).setCell (Aq (w.heap.size+1) 5) v).alloc a).heap[w.heap.size]?=some (.cells Yy 61 (0,0))):=λu v a=>by
  rw[Below.heap_alloc _ _ _ (by rw[Zy,Zy];exact m0),Zx _ _ _ _ _ (by omega),Zx _ _ _ _ _ (by omega)];exact RE
 have g0:Hid (∀u v a c,Bq w ((((W1.setCell (Aq (w.heap.size+1) 4) u).setCell (Aq (w.heap.size+1) 5) v).alloc a).setRow w.heap.size c)):=λu v a c=>by
  refine below_setRow ((((l0.setCell (by show w.heap.size<=w.heap.size+1;omega) _).setCell (by show w.heap.size<=w.heap.size+1;omega) _)).alloc (by rw[Zy,Zy];omega) _) (Nat.le_refl _) _
 cases oa with
 |none=>
  obtain⟨v,rfl⟩:=a0 rfl;have HR:=Zz e0.out;clear aQ a0
  go_wp2_with (refine Xn rfl (.tmp 4) (.tmp 141) 61 rfl w.heap.size rfl Yy (Zm 6 0 (-1) true v false 0) rfl 61 (f0 _ _ _) Tryz.infoStmt10 rfl (by simp[Zm,Value.oneCell']) ?_)
  refine bodyPost_ret (v:=.tuple #[.agg (Zm 6 0 (-1) true v false 0),Iq 4]) ?_ rfl ?_
  ·exact Yx (p:=4) (q:=5) (ty:=61) results19 _ _ (Aq w.heap.size 0) _ rfl (run_loadVar_row _ _ _ _ _ _ _ (setRow_heap _ _ _ _ _ _ (f0 _ _ _)) underlying61 rfl Tryz.infoStmt10)
  rw[HR.out];exact⟨λh=>(by cases h),λ_=>⟨⟨_,_,_,_,_,_,_,rfl⟩,(HH.below (g0 _ _ _ _)).bel⟩⟩
 |some x=>
  obtain rfl:=aQ x rfl;have HR:=Zz e0.out;clear aQ a0
  go_wp2_with (refine Xn rfl (.tmp 4) (.tmp 142) 61 rfl w.heap.size rfl Yy (Zm 6 0 (-1) x.var x.v false 0) rfl 61 (f0 _ _ _) Tryz.infoStmt10 rfl (by simp[Zm,Value.oneCell']) ?_)
  refine bodyPost_ret (v:=.tuple #[.agg (Zm 6 0 (-1) x.var x.v false 0),Iq 0]) ?_ rfl ?_
  ·exact Yx (p:=4) (q:=5) (ty:=61) results19 _ _ (Aq w.heap.size 0) _ rfl (run_loadVar_row _ _ _ _ _ _ _ (setRow_heap _ _ _ _ _ _ (f0 _ _ _)) underlying61 rfl Tryz.infoStmt10)
  rw[HR.out];exact⟨λ_=>⟨rfl,m,HH.below (g0 _ _ _ _),HO,zrz.below (g0 _ _ _ _)⟩,λh=>absurd rfl h⟩
end
section
variable{ty:TypeId}{ps:String}{af:Array Edge}{p d:Nat}{y:Operand}
def Xl(g:Nat)(arr:Array Value)(hg:w.heap[g]?=some (.cells arr 61 (0,0)))(cF:arr.size=10)(hx:a.eval (.tmp p)=Pq g)(h:wpList prog ops Q rest (a.put (some d) (.agg arr)) w):
  wpList prog ops Q ({dst:=some d,op:=.load 61 (.tmp p),type:=ty,pos:=ps,after:=af,guard:=none}::rest) a w:=
 zr2 rfl (.tmp p) 61 rfl g hx arr 61 (0,0) hg _ underlying61 rfl (by rw[cF];exact Tryz.infoStmt10) h
def Yo(g:Nat)(c c':Array Value)(hg:w.heap[g]?=some (.cells c 61 (0,0)))(cF:c.size=10)(hsz':c'.size=10)(h1:c'.all (·.oneCell')=true)(hx:a.eval (.tmp p)=Pq g)(hy:a.eval y=.agg c')(h:wpList prog ops Q rest (a.put none undef) (w.setRow g c')):
  wpList prog ops Q ({dst:=none,op:=.store 61 (.tmp p) y,type:=ty,pos:=ps,after:=af,guard:=none}::rest) a w:=
 Xn rfl (.tmp p) y 61 rfl g hx c c' hy 61 hg (by rw[hsz'];exact Tryz.infoStmt10) (by rw[cF,hsz']) h1 h
def zx7(p:Nat)(h:wpList P ops Q ({dst:=some d,op:=.load 61 (.tmp p),type:=ty,pos:=ps,after:=af,guard:=none}::rest) a w):wpList P ops Q ({dst:=some d,op:=.load 61 (.tmp p),type:=ty,pos:=ps,after:=af,guard:=none}::rest) a w:=h
def Xx(p:Nat)(h:wpList P ops Q ({dst:=none,op:=.store 61 (.tmp p) y,type:=ty,pos:=ps,after:=af,guard:=none}::rest) a w):wpList P ops Q ({dst:=none,op:=.store 61 (.tmp p) y,type:=ty,pos:=ps,after:=af,guard:=none}::rest) a w:=h
end
def Xk(k x op:Int)(av:Bool)(an:Int)(bv:Bool)(bn:Int):(Zm k x op av an bv bn).all (·.oneCell')=true:=by simp[Zm,Value.oneCell']
def zz9{b:Nat}{arr:Array Value}{t:TypeId}(h:w.heap[b]?=some (.cells arr t (0,0)))(i:Nat)(v:Value)(arr':Array Value)(he:arr.setIfInBounds i v=arr'):(w.setCell (Aq b i) v).heap[b]?=some (.cells arr' t (0,0)):=by
 rw[heap_setCell_same w b i arr t v h,he]
def zf1(W:World):(Instr.build 61 #[(0,Iq (-1))]).run prog W=.ok (.agg (Zk Vt).toArray) W:=by kernel_rfl
def zb1(W:World):(Instr.build 61 #[(0,Iq (-2))]).run prog W=.ok (.agg (Zk Xd).toArray) W:=by kernel_rfl
def Vc{op:Oper}{W':World}(a0:op.guard=none)(ty:TypeId)(x y:Operand)(ho:op.op=.store ty x y)
  (b o:Nat) (cells:Array Value) (hx:a.eval x=.pointer (some (Aq b o))) (hy:a.eval y=.agg cells)
  (ht:w.there b o cells.size) (hi:(P.info? ty).map (·.size)=some cells.size) (h1:cells.all (·.oneCell')=true) (hW:w.setCells b o cells.toList=W')
  (h:wpList P ops Q rest (a.put op.dst undef) W'):wpList P ops Q (op::rest) a w:=wpList_store_mid a0 ty x y ho b o cells hx hy ht hi h1 (by rw[hW];exact h)
def zl1:∀u∈Yy,u.oneCell'=true:=Array.all_eq_true_iff_forall_mem.1 (show Yy.all (·.oneCell')=true by kernel_rfl)
section
variable{m:Yl}{fl:List FlS}
def Zs.deep(h:Zs lo base Rb Pb w0 w m)(hr:Zg r fl t m){f:Fl.aB}{fs:List Fl.aB}(hf:r.fr=f::fs):∃g cap,m.v 8=.slice (some (Aq g 0)) (fs.length+1) cap/\m.n 8=fs.length+1/\m.xs 8=Vx fs++[.int .u8 (zz1 f:Nat)]/\base<=g/\g<w.heap.size/\w.cell? (Aq g fs.length)=some (.int .u8 (zz1 f:Nat))/\w.frozen? (Aq g fs.length)=false:=by
 have h8:Zr 8:=by unfold Zr;omega
 have ho:=h.own 8 h8
 have h1:m.n 8=fs.length+1:=by rw[hr.r8.1,hf];rfl
 have h2:m.xs 8=Vx fs++[.int .u8 (zz1 f:Nat)]:=by rw[hr.r8.2,hf,zz2]
 rcases ho.2 with⟨h3,h4⟩|⟨g,cap,cur,h3,hb,hg,hc,hm,hs,ht⟩
 ·omega
 have h5:m.v 8=.slice (some (Aq g 0)) (fs.length+1) cap:=by rw[h3,h1]
 refine⟨g,cap,h5,h1,h2,hb,(ho.lt g (by rw[h5];rfl)).2,?_,by simp[World.frozen?,hg]⟩;have h6:=ho.cells (g:=g) (by rw[h5];rfl) fs.length (.int .u8 (zz1 f:Nat)) (by rw[h2,List.getElem?_append_right (by rw[zcv];omega),zcv];simp)
 have h7:((Aq g 0):Addr).add fs.length=(Aq g fs.length):=by unfold Addr.add;split<;>simp_all
 rw[h7]at h6;exact h6
def yhy(h:Zs lo base Rb Pb w0 w m)(hr:Zg r fl t m)(s0:Vw fl r)(u0:cE fl=r.ap)(v0:∀f∈r.fr,(f.kind=5\/(f.kind=6/\f.cI=false))/\(f.cI=false->f.fm=[]))(ht:t<=100000)(b off cap:Nat)(at_:Int)(c0:w.cell? (Aq b off)=some (.string ⟨#[101,108,115,101]⟩))(hb:r.ae=true)(i:Nat):
  Cq 9 #[Pq Rb,.slice (some (Aq b off)) 1 cap,Iq at_] w (Xr lo base Rb Pb w0 t (r.bQ i [Fl.dL])):=by
 obtain⟨b1,b2,b3,b4,b5,b6,b7⟩:=h.bL
 have i1:Rb<w.heap.size:=by omega
 have x7:w.cell? (Aq Rb 7)=some (.bool true):=by rw[<-hb,<-hr.bg];exact h.cR.c 7 (by omega)
 have x8:Cl w Rb 8 (m.v 8):=h.cR.c 8 (by omega);obtain⟨d10,k10,b0⟩:=h.shape 10 (by unfold Zr;omega);rw[hr.fO.1]at b0
 have x10:w.cell? (Aq Rb 10)=some (.slice d10 fl.length k10):=by rw[<-b0];exact h.cR.c 10 (by omega)
 have j1:=hr.ft
 have W0:fl.length<=100000:=by omega
 have O0:(fl.length:Int)<=100000:=by omega
 have H3:Hid (Xr lo base Rb Pb w0 t (3,r) (.returned (Iq 3)) w):=⟨rfl,λh=>(by cases h),λ_=>h.bel⟩
 cases hf:r.fr with
 |nil=>
  have e:r.bQ i [Fl.dL]=(3,r):=(by simp[Fl.RS.bQ,hf]);obtain⟨d8,k8,f0⟩:=h.shape 8 (by unfold Zr;omega);rw[hr.r8.1,hf]at f0;rw[f0]at x8;rw[e];clear h hr e hf s0 u0 v0 hb f0 b0;simp only[List.length_nil]at x8
  go_enter func9,ntmps9
  go_wp2;go_ret;exact H3
 |cons f fs=>
  obtain⟨g8,k8,f0,B0,x0,k1,X0,c8,z8⟩:=h.deep hr hf;rw[f0]at x8;have C0:=hr.fr;rw[hf,List.length_cons]at C0;obtain⟨kd,m0⟩:=nmE (fs.length);have l1:(kd:Int)<=2:=(by omega);obtain⟨D0,du⟩:=v0 f (by rw[hf];simp)
  by_cases aQ:f.kind=5/\f.cI=false
  ·have h0:zz1 f=105:=by simp[zz1,aQ.1,aQ.2]
   rw[h0]at c8 x0;have e:r.bQ i [Fl.dL]=(0,r.cd):=(by simp[Fl.RS.bQ,hf,aQ.1,aQ.2]);rw[e];obtain⟨m1,l0⟩:=nmE (zyy m (m.v 8) (m.n 8) (Vx fs++[.int .u8 101]));obtain⟨W1,y0⟩:=nmE (w.setCell (Aq g8 kd) (.int .u8 101));have n0:Hid (Zs lo base Rb Pb w0 W1 m1):=(by show Zs _ _ _ _ _ _ _;rw[l0,y0,m0];exact h.nx f0 B0 x0)
   have j0:Hid (∀v',Zg r.cd (fl++[Vt]) (t+1) (m1.app 10 v' (Zk Vt))):=λv'=>by rw[l0];exact hr.cd hf aQ.1 _ _
   have E0:Hid (Vw (fl++[Vt]) r.cd/\cE (fl++[Vt])=r.cd.ap):=⟨yux s0 hf aQ.2 (du aQ.2),by rw[Um,u0];unfold Fl.RS.cd;rw[hf];rfl⟩;have d0:Hid (m1.v 10=.slice d10 fl.length k10):=(by show _=_;rw[l0,(Uf _ _ _ _ (by decide)).1];exact b0);have e0:Hid (m1.n 10=fl.length):=(by show _=_;rw[l0,(Uf _ _ _ _ (by decide)).2.1];exact hr.fO.1);have k0:Hid (m1.xs 10=Jt fl):=(by show _=_;rw[l0,(Uf _ _ _ _ (by decide)).2.2];exact hr.fO.2);have y10:W1.cell? (Aq Rb 10)=some (.slice d10 fl.length k10):=(by rw[<-d0.out];exact n0.cR.c 10 (by omega));have Y0:W1.heap.size=w.heap.size:=(by rw[y0,Zy]);have Z0:base<=W1.heap.size:=(by omega);have a1:Rb<W1.heap.size:=(by omega);have P0:=Zz y0;have c1:Hid (∀W:World,_):=zf1;rw[<-m0]at x8 c8 z8;clear h hr s0 u0 v0 hb hf l0 y0 m0 f0 B0 x0 du D0 e b0 C0 Y0 aQ h0
   go_enter func9,ntmps9
   go_wp2_with fail
   rw[<-P0.out];clear P0 x7 x8 x10 c8 z8;refine zzx (λW=>Cl W Rb 10 (.slice d10 fl.length k10)) [8,9,10,11,12] [(0,0),(0,1),(0,2),(0,3),(0,4),(0,5),(1,6),(1,7)] [(0,8),(0,10),(0,11)] 9 12 (by kernel_rfl) (by kernel_rfl) rfl [(_,_),(_,_),(_,_),(_,_),(_,_),(_,_),(_,_),(_,_)] [(_,_),(_,_),(_,_)] _ _ rfl rfl rfl rfl (λc a d v w h=>by cases d<;>exact h) y10 (λops=>?_);simp only[List.getElem_toArray,List.getElem_cons_succ,List.getElem_cons_zero]
   iterate 4 refine Yq rfl (kE (by intro w' hw';have q1:=hw';go_simp<;>rfl) (by go_simp<;>rfl) ?_)
   refine Yq rfl (λK hK=>?_);refine⟨.agg (Zk Vt).toArray,λw' hw'=>zo3 61 _ rfl _ _ (by kernel_rfl) (zf1 _),hK _ ?_⟩;clear hK K
   iterate 1 refine Yq rfl (kE (by intro w' hw';have q1:=hw';go_simp<;>rfl) (by go_simp<;>rfl) ?_)
   refine Ve ?_
   go_wp2_with fail
   obtain⟨W3,o0⟩:=nmE ((W1.alloc (.cells Yy 61)).drew);obtain⟨tb,F0⟩:=nmE (W1.heap.size);have G0:Bq W1 W3:=(by rw[o0];exact(bA).drew);have n1:W1.heap.size+1=W3.heap.size:=(by rw[o0];simp);have t0:∀i u,(Yy.toList)[i]?=some u->W3.cell? (((Aq tb 0):Addr).add i)=some u:=(by rw[o0,F0];exact zwx (l:=Yy.toList) rfl);have z0:=Zz G0;have H0:Hid (W3.ownsRow base 61 10 (.slice d10 fl.length k10) fl.length (Jt fl)):=by
    have h1:=(n0.below G0).own 10 (by unfold Zr;omega);rw[d0.out,e0.out,k0.out]at h1;exact h1
   have I0:(λW=>Cl W Rb 10 (.slice d10 fl.length k10)) W3:=(z0.cell (p:=(Aq Rb 10)) (by show Rb<_;omega)).trans y10
   try rw[show ∀o,(W1.drew.alloc o)=(W1.alloc o).drew from λ_=>rfl]
   have eW3:(W1.alloc (.cells #[Iq 0,Iq 0,Iq 0,Iq 0,.bool false,Iq 0,.bool false,Iq 0,Zq,Zq] 61)).drew=W3:=o0.symm;rw[eW3,<-F0];clear o0 F0 eW3 G0;refine⟨I0,?_⟩;refine Ve ?_;obtain⟨i0,Q0,R0,S0,T0⟩:=info_parts Tryz.infoStmtP
   go_wp2_with (at_builtin;refine Zj _ rfl (.tmp 81) (.tmp 84) 37 rfl base 61 i0 (.agg Yy) 10 112 underlying37 Q0 R0 S0 T0 rfl (by decide) _ _ _ rfl H0 (Aq tb 0) 1 1 Yy.toList rfl rfl (by decide) t0 ?c2 ?c3 ?c4 ?c5 ?_)
   case c2=>exact zl1
   case c3=>unfold maxLen;omega
   case c4=>omega
   case c5=>omega
   intro v' W4 a0 J0 p0;obtain⟨g,gc,rfl⟩:∃g gc,v'=.slice (some (Aq g 0)) (fl.length+1) gc:=by
    rcases a0.2 with⟨h1,h2⟩|⟨g,cp,cur,h1,_⟩
    ·omega
    exact⟨g,cp,h1⟩
   have q0:∀k,(Value.slice d10 fl.length k10).ownBlock=some k->base<=k/\k<W1.heap.size+1:=λk hk=>by have:=H0.lt k hk;omega
   have o1:base<=g:=(a0.lt g rfl).1;have K0:W4.heap[Rb]?=W3.heap[Rb]?:=J0.block Rb (by omega) (λhh=>by have:=(q0 Rb hh.symm).1;omega);have A0:(λW=>Cl W Rb 10 (.slice d10 fl.length k10)) W4:=(Qc (a:=(Aq Rb 10)) K0).trans I0;have gz:∀j,W4.frozen? (Aq Rb j)=false:=λj=>(Qd (a:=(Aq Rb j)) K0).trans ((z0.frozen (p:=(Aq Rb j)) (by show Rb<_;omega)).trans (n0.cR.z j));have g0:Cl W4 Rb 10 (.slice d10 fl.length k10):=A0;have L0:Hid (W4.there g (fl.length*10) 10):=zmv a0;have H5:Hid (Zs lo base Rb Pb w0 ((W4.setCells g (fl.length*10) (Zk Vt)).setCell (Aq Rb 10) (.slice (some (Aq g 0)) (fl.length+1) gc)) (m1.app 10 (.slice (some (Aq g 0)) (fl.length+1) gc) (Zk Vt))):=by
    have h1:=n0.flat (W3:=W3) (W4:=W4) (g:=g) (cap:=gc) (z:=Yy.toList) (cs:=(Zk Vt)) z0 (by rw[e0.out,k0.out];exact a0) rfl rfl (by rw[d0.out];exact J0) (by rw[d0.out];exact p0);rw[e0.out]at h1;exact h1
   have U0:Hid ((W4.setCell (Aq Rb 10) (.slice (some (Aq g 0)) (fl.length+1) gc)).setCells g (fl.length*10) (Zk Vt)=(W4.setCells g (fl.length*10) (Zk Vt)).setCell (Aq Rb 10) (.slice (some (Aq g 0)) (fl.length+1) gc)):=zw1 g Rb 10 _ (by omega) _ _ _;obtain⟨W5,r0⟩:=nmE (W4.setCells g (fl.length*10) (Zk Vt));have d1:=Zz r0.symm;obtain⟨W6,M0⟩:=nmE (W5.setCell (Aq Rb 10) (.slice (some (Aq g 0)) (fl.length+1) gc));have e1:Hid ((W4.setCell (Aq Rb 10) (.slice (some (Aq g 0)) (fl.length+1) gc)).setCells g (fl.length*10) ((Zk Vt)).toArray.toList=W6):=(by show _=_;rw[M0,r0];exact U0);have V0:=Zz M0;rw[<-r0]at H5;have g0':Cl (W4.setCells g (fl.length*10) (Zk Vt)) Rb 10 (.slice d10 fl.length k10):=(Qc (a:=(Aq Rb 10)) (Ui g _ W4 _ Rb (by omega))).trans g0;have gz':(W4.setCells g (fl.length*10) (Zk Vt)).frozen? (Aq Rb 10)=false:=(World.frozen?_setCells g _ _ _ _).trans (gz 10);have N0:Hid (∀v,(W4.setCell (Aq Rb 10) v).there g (fl.length*10) 10):=λv j hj=>⟨by rw[Qc (a:=(Aq g (fl.length*10+j))) (Zx _ _ _ _ _ (by show g≠Rb;omega))];exact(L0 j hj).1,by rw[World.frozen?_setCell];exact(L0 j hj).2⟩;rw[<-r0]at g0' gz';clear r0 M0 U0;have HE:Hid (Xr lo base Rb Pb w0 t (0,r.cd) (.returned (Iq 0)) (W5.setCell (Aq Rb 10) (.slice (some (Aq g 0)) (fl.length+1) gc))):=⟨rfl,λ_=>⟨_,_,H5,j0 _,E0.1,E0.2⟩,λhh=>absurd rfl hh⟩;have f1:Hid (Xr lo base Rb Pb w0 t (0,r.cd) (.returned (Iq 0)) W6):=(by show Xr _ _ _ _ _ _ _ _ _;rw[V0.out];exact HE);clear H5 j0 E0 V0;clear a0 J0 p0 K0 t0 H0 z0 q0 n0 d0 e0 k0 I0 Q0 R0 S0 T0 i0
   go_wp2_with fail
   refine⟨A0,?_⟩
   try (refine Xe ?_;refine⟨A0,?_⟩)
   clear A0;have g1:(fl.length:Int)<(fl.length:Int)+1:=(by omega)
   try simp only[List.getElem_toArray,List.getElem_cons_succ,List.getElem_cons_zero]
   iterate 3 refine Yq rfl (kE (by rintro _ -;go_simp<;>rfl) (by go_simp<;>rfl) ?_)
   refine Xe ?_;refine⟨trivial,?_,?_⟩
   ·go_wp2_with (refine Xx 86 ?_;refine Vc rfl 61 (.tmp 86) (.tmp 82) rfl g (fl.length*10) ((Zk Vt)).toArray rfl rfl L0.out Tryz.infoStmt10 (by kernel_rfl) d1 ?_)
    go_wp2;go_ret;exact HE
   go_wp2_with (refine Xx 86 ?_;refine Vc rfl 61 (.tmp 86) (.tmp 82) rfl g (fl.length*10) ((Zk Vt)).toArray rfl rfl (N0 _) Tryz.infoStmt10 (by kernel_rfl) e1 ?_)
   go_wp2;go_ret;exact f1
  have e:r.bQ i [Fl.dL]=(3,r):=by
   simp only[Fl.RS.bQ,hf];rw[if_pos (by decide),if_neg aQ]
  rw[e];have h0:zz1 f=119\/zz1 f=101:=by
   unfold zz1;rcases D0 with h1|h1
   ·have h2:f.cI=true:=by
     cases h3:f.cI with
     |true=>rfl
     |false=>exact absurd ⟨h1,h3⟩ aQ
    right;simp[h1,h2]
   left;simp[h1.1]
  rw[<-m0]at x8 c8 z8;clear h hr s0 u0 v0 hb hf m0 f0 B0 x0 du D0 e aQ b0 C0 x10;rcases h0 with h0|h0
  all_goals
   rw[h0]at c8;clear h0
   go_enter func9,ntmps9
   go_wp2;go_ret;exact H3
def row_end(h:Zs lo base Rb Pb w0 w m)(hr:Zg r fl t m)(u0:Vw fl r)(v0:cE fl=r.ap)(x0:∀f∈r.fr,(f.kind=5\/(f.kind=6/\f.cI=false))/\(f.cI=false->f.fm=[]))(ht:t<=100000)(b off cap:Nat)(at_:Int)(c0:w.cell? (Aq b off)=some (.string ⟨#[101,110,100]⟩))(hb:r.ae=true)(i:Nat):
  Cq 9 #[Pq Rb,.slice (some (Aq b off)) 1 cap,Iq at_] w (Xr lo base Rb Pb w0 t (r.bQ i [Fl.gy])):=by
 obtain⟨b1,b2,b3,b4,b5,b6,b7⟩:=h.bL
 have j1:Rb<w.heap.size:=by omega
 have x7:w.cell? (Aq Rb 7)=some (.bool true):=by rw[<-hb,<-hr.bg];exact h.cR.c 7 (by omega)
 have x8:Cl w Rb 8 (m.v 8):=h.cR.c 8 (by omega);obtain⟨d10,k10,b0⟩:=h.shape 10 (by unfold Zr;omega);rw[hr.fO.1]at b0
 have x10:w.cell? (Aq Rb 10)=some (.slice d10 fl.length k10):=by rw[<-b0];exact h.cR.c 10 (by omega)
 have k1:=hr.ft
 have X0:fl.length<=100000:=by omega
 have K0:(fl.length:Int)<=100000:=by omega
 have H3:Hid (Xr lo base Rb Pb w0 t (3,r) (.returned (Iq 3)) w):=⟨rfl,λh=>(by cases h),λ_=>h.bel⟩
 cases hf:r.fr with
 |nil=>
  have e:r.bQ i [Fl.gy]=(3,r):=(by simp[Fl.RS.bQ,hf]);obtain⟨d8,k8,f0⟩:=h.shape 8 (by unfold Zr;omega);rw[hr.r8.1,hf]at f0;rw[f0]at x8;rw[e];clear h hr e hf u0 v0 x0 hb f0 b0;simp only[List.length_nil]at x8
  go_enter func9,ntmps9
  go_wp2;go_ret;exact H3
 |cons f fs=>
  obtain⟨g8,k8,f0,L0,M0,l1,Y0,c8,z8⟩:=h.deep hr hf;rw[f0]at x8;have N0:=hr.fr;rw[hf,List.length_cons]at N0;obtain⟨kd,y0⟩:=nmE (fs.length);have n1:(kd:Int)<=2:=(by omega);obtain⟨O0,du⟩:=x0 f (by rw[hf];simp);have e:r.bQ i [Fl.gy]=(0,r.bE):=(by simp[Fl.RS.bQ,hf,Fl.gy,Fl.dL]);rw[e];obtain⟨m1,k0⟩:=nmE (zyy m (.slice (some (Aq g8 0)) kd k8) fs.length (Vx fs));obtain⟨W1,q0⟩:=nmE (w.setCell (Aq Rb 8) (.slice (some (Aq g8 0)) kd k8));have l0:Hid (Zs lo base Rb Pb w0 W1 m1):=(by show Zs _ _ _ _ _ _ _;rw[k0,q0,y0];exact h.ny f0 L0 M0)
  have h0:Hid (∀v',Zg r.bE (fl++[Xd]) (t+1) (m1.app 10 v' (Zk Xd))):=λv'=>by rw[k0];exact hr.bE hf _ _
  have z0:Hid (Vw (fl++[Xd]) r.bE/\cE (fl++[Xd])=r.bE.ap):=⟨yo6 u0 hf (by rcases O0 with h1|h1;exact .inl h1;exact .inr h1.1) du hr.fr,by rw[Um,v0,(zb0 hf).2.2.2.2.2.2.2.2.2];rfl⟩;have z8R:w.frozen? (Aq Rb 8)=false:=h.cR.z 8;have P0:kd+1<=k8:=by
   rcases(h.own 8 (by unfold Zr;omega)).2 with⟨h3,h4⟩|⟨g,cp,cur,h3,o1,p1,r1,s1,t1,u1⟩
   ·omega
   rw[f0]at h3;simp only[Value.slice.injEq]at h3;omega
  have A0:(kd:Int)+1<=(k8:Int):=(by omega);have d0:Hid (m1.v 10=.slice d10 fl.length k10):=(by show _=_;rw[k0,(Uf _ _ _ _ (by decide)).1];exact b0);have e0:Hid (m1.n 10=fl.length):=(by show _=_;rw[k0,(Uf _ _ _ _ (by decide)).2.1];exact hr.fO.1);have j0:Hid (m1.xs 10=Jt fl):=(by show _=_;rw[k0,(Uf _ _ _ _ (by decide)).2.2];exact hr.fO.2);have y10:W1.cell? (Aq Rb 10)=some (.slice d10 fl.length k10):=(by rw[<-d0.out];exact l0.cR.c 10 (by omega));have Z0:W1.heap.size=w.heap.size:=(by rw[q0,Zy]);have a1:base<=W1.heap.size:=(by omega);have c1:Rb<W1.heap.size:=(by omega);have Q0:=Zz q0;have d1:Hid (∀W:World,_):=zb1;rw[<-y0]at x8 c8 z8;clear h hr u0 v0 x0 hb hf k0 q0 y0 f0 L0 M0 du O0 e b0 N0 Z0
  go_enter func9,ntmps9
  go_wp2_with fail
  rw[<-Q0.out];clear Q0 x7 x8 x10 c8 z8;refine zzx (λW=>Cl W Rb 10 (.slice d10 fl.length k10)) [8,9,10,11,12] [(0,0),(0,1),(0,2),(0,3),(0,4),(0,5),(1,6),(1,7)] [(0,8),(0,10),(0,11)] 9 12 (by kernel_rfl) (by kernel_rfl) rfl [(_,_),(_,_),(_,_),(_,_),(_,_),(_,_),(_,_),(_,_)] [(_,_),(_,_),(_,_)] _ _ rfl rfl rfl rfl (λc a d v w h=>by cases d<;>exact h) y10 (λops=>?_);simp only[List.getElem_toArray,List.getElem_cons_succ,List.getElem_cons_zero]
  iterate 4 refine Yq rfl (kE (by intro w' hw';have q1:=hw';go_simp<;>rfl) (by go_simp<;>rfl) ?_)
  refine Yq rfl (λK hK=>?_);refine⟨.agg (Zk Xd).toArray,λw' hw'=>zo3 61 _ rfl _ _ (by kernel_rfl) (zb1 _),hK _ ?_⟩;clear hK K
  iterate 1 refine Yq rfl (kE (by intro w' hw';have q1:=hw';go_simp<;>rfl) (by go_simp<;>rfl) ?_)
  refine Ve ?_
  go_wp2_with fail
  obtain⟨W3,m0⟩:=nmE ((W1.alloc (.cells Yy 61)).drew);obtain⟨tb,B0⟩:=nmE (W1.heap.size);have C0:Bq W1 W3:=(by rw[m0];exact(bA).drew);have v1:W1.heap.size+1=W3.heap.size:=(by rw[m0];simp);have t0:∀i u,(Yy.toList)[i]?=some u->W3.cell? (((Aq tb 0):Addr).add i)=some u:=(by rw[m0,B0];exact zwx (l:=Yy.toList) rfl);have r0:=Zz C0;have D0:Hid (W3.ownsRow base 61 10 (.slice d10 fl.length k10) fl.length (Jt fl)):=by
   have h1:=(l0.below C0).own 10 (by unfold Zr;omega);rw[d0.out,e0.out,j0.out]at h1;exact h1
  have E0:(λW=>Cl W Rb 10 (.slice d10 fl.length k10)) W3:=(r0.cell (p:=(Aq Rb 10)) (by show Rb<_;omega)).trans y10
  try rw[show ∀o,(W1.drew.alloc o)=(W1.alloc o).drew from λ_=>rfl]
  have eW3:(W1.alloc (.cells #[Iq 0,Iq 0,Iq 0,Iq 0,.bool false,Iq 0,.bool false,Iq 0,Zq,Zq] 61)).drew=W3:=m0.symm;rw[eW3,<-B0];clear m0 B0 eW3 C0;refine⟨E0,?_⟩;refine Ve ?_;obtain⟨i0,R0,S0,T0,U0⟩:=info_parts Tryz.infoStmtP
  go_wp2_with (at_builtin;refine Zj _ rfl (.tmp 105) (.tmp 108) 37 rfl base 61 i0 (.agg Yy) 10 112 underlying37 R0 S0 T0 U0 rfl (by decide) _ _ _ rfl D0 (Aq tb 0) 1 1 Yy.toList rfl rfl (by decide) t0 ?c2 ?c3 ?c4 ?c5 ?_)
  case c2=>exact zl1
  case c3=>unfold maxLen;omega
  case c4=>omega
  case c5=>omega
  intro v' W4 a0 F0 n0;obtain⟨g,gc,rfl⟩:∃g gc,v'=.slice (some (Aq g 0)) (fl.length+1) gc:=by
   rcases a0.2 with⟨h1,h2⟩|⟨g,cp,cur,h1,_⟩
   ·omega
   exact⟨g,cp,h1⟩
  have o0:∀k,(Value.slice d10 fl.length k10).ownBlock=some k->base<=k/\k<W1.heap.size+1:=λk hk=>by have:=D0.lt k hk;omega
  have x1:base<=g:=(a0.lt g rfl).1;have G0:W4.heap[Rb]?=W3.heap[Rb]?:=F0.block Rb (by omega) (λhh=>by have:=(o0 Rb hh.symm).1;omega);have s0:(λW=>Cl W Rb 10 (.slice d10 fl.length k10)) W4:=(Qc (a:=(Aq Rb 10)) G0).trans E0;have gz:∀j,W4.frozen? (Aq Rb j)=false:=λj=>(Qd (a:=(Aq Rb j)) G0).trans ((r0.frozen (p:=(Aq Rb j)) (by show Rb<_;omega)).trans (l0.cR.z j));have g0:Cl W4 Rb 10 (.slice d10 fl.length k10):=s0;have H0:Hid (W4.there g (fl.length*10) 10):=zmv a0;have H5:Hid (Zs lo base Rb Pb w0 ((W4.setCells g (fl.length*10) (Zk Xd)).setCell (Aq Rb 10) (.slice (some (Aq g 0)) (fl.length+1) gc)) (m1.app 10 (.slice (some (Aq g 0)) (fl.length+1) gc) (Zk Xd))):=by
   have h1:=l0.flat (W3:=W3) (W4:=W4) (g:=g) (cap:=gc) (z:=Yy.toList) (cs:=(Zk Xd)) r0 (by rw[e0.out,j0.out];exact a0) rfl rfl (by rw[d0.out];exact F0) (by rw[d0.out];exact n0);rw[e0.out]at h1;exact h1
  have V0:Hid ((W4.setCell (Aq Rb 10) (.slice (some (Aq g 0)) (fl.length+1) gc)).setCells g (fl.length*10) (Zk Xd)=(W4.setCells g (fl.length*10) (Zk Xd)).setCell (Aq Rb 10) (.slice (some (Aq g 0)) (fl.length+1) gc)):=zw1 g Rb 10 _ (by omega) _ _ _;obtain⟨W5,p0⟩:=nmE (W4.setCells g (fl.length*10) (Zk Xd));have e1:=Zz p0.symm;obtain⟨W6,I0⟩:=nmE (W5.setCell (Aq Rb 10) (.slice (some (Aq g 0)) (fl.length+1) gc));have f1:Hid ((W4.setCell (Aq Rb 10) (.slice (some (Aq g 0)) (fl.length+1) gc)).setCells g (fl.length*10) ((Zk Xd)).toArray.toList=W6):=(by show _=_;rw[I0,p0];exact V0);have W0:=Zz I0;rw[<-p0]at H5;have g0':Cl (W4.setCells g (fl.length*10) (Zk Xd)) Rb 10 (.slice d10 fl.length k10):=(Qc (a:=(Aq Rb 10)) (Ui g _ W4 _ Rb (by omega))).trans g0;have gz':(W4.setCells g (fl.length*10) (Zk Xd)).frozen? (Aq Rb 10)=false:=(World.frozen?_setCells g _ _ _ _).trans (gz 10);have J0:Hid (∀v,(W4.setCell (Aq Rb 10) v).there g (fl.length*10) 10):=λv j hj=>⟨by rw[Qc (a:=(Aq g (fl.length*10+j))) (Zx _ _ _ _ _ (by show g≠Rb;omega))];exact(H0 j hj).1,by rw[World.frozen?_setCell];exact(H0 j hj).2⟩;rw[<-p0]at g0' gz';clear p0 I0 V0;have HE:Hid (Xr lo base Rb Pb w0 t (0,r.bE) (.returned (Iq 0)) (W5.setCell (Aq Rb 10) (.slice (some (Aq g 0)) (fl.length+1) gc))):=⟨rfl,λ_=>⟨_,_,H5,h0 _,z0.1,z0.2⟩,λhh=>absurd rfl hh⟩;have g1:Hid (Xr lo base Rb Pb w0 t (0,r.bE) (.returned (Iq 0)) W6):=(by show Xr _ _ _ _ _ _ _ _ _;rw[W0.out];exact HE);clear H5 h0 z0 W0;clear a0 F0 n0 G0 t0 D0 r0 o0 l0 d0 e0 j0 E0 R0 S0 T0 U0 i0
  go_wp2_with fail
  refine⟨s0,?_⟩
  try (refine Xe ?_;refine⟨s0,?_⟩)
  clear s0;have i1:(fl.length:Int)<(fl.length:Int)+1:=(by omega)
  try simp only[List.getElem_toArray,List.getElem_cons_succ,List.getElem_cons_zero]
  iterate 3 refine Yq rfl (kE (by rintro _ -;go_simp<;>rfl) (by go_simp<;>rfl) ?_)
  refine Xe ?_;refine⟨trivial,?_,?_⟩
  ·go_wp2_with (refine Xx 110 ?_;refine Vc rfl 61 (.tmp 110) (.tmp 106) rfl g (fl.length*10) ((Zk Xd)).toArray rfl rfl H0.out Tryz.infoStmt10 (by kernel_rfl) e1 ?_)
   go_wp2;go_ret;exact HE
  go_wp2_with (refine Xx 110 ?_;refine Vc rfl 61 (.tmp 110) (.tmp 106) rfl g (fl.length*10) ((Zk Xd)).toArray rfl rfl (J0 _) Tryz.infoStmt10 (by kernel_rfl) f1 ?_)
  go_wp2;go_ret;exact g1
end
section
variable{m:Yl}{fl:List FlS}
def ze8(lo base Rb Pb:Nat)(w0 w:World)(ow:Nat->Option Nat)(kp:Nat->Prop)(fl:List FlS)(t:Nat)(aV:Option (Nat×Fl.RS))(op:Int)(av:Bool)(an:Int)(bv:Bool)(bn:Int)(e:Ending)(w':World):Prop:=
 (∀b,b<w.heap.size->b≠Rb->ow 4≠some b->w'.heap[b]?=w.heap[b]?)/\
 (∀x r',aV=some (x,r')->e=.returned (.tuple #[.agg (Zm 3 x op av an bv bn),Iq 0])/\∃m',Zs lo base Rb Pb w0 w' m'/\Zg r' fl t m'/\m'.fQ=kp/\∀j,Zr j->∀b,(m'.v j).ownBlock=some b->ow j=some b\/w.heap.size<=b)/\(aV=none->(∃x:Int,e=.returned (.tuple #[.agg (Zm 3 x op av an bv bn),Iq 5]))/\Below lo w0 w')
def zkz(h:Zs lo base Rb Pb w0 w m)(hr:Zg r fl t m)(x:List UInt8)(hx:x.length<=100000)(op:Int)(av:Bool)(an:Int)(bv:Bool)(bn:Int):
  Cq 29 #[Pq Rb,.agg #[Iq 3,Iq 0,Iq 0,Iq op,.bool av,Iq an,.bool bv,Iq bn,Zq,Zq],.string ⟨x.toArray⟩] w (ze8 lo base Rb Pb w0 w (λj=>(m.v j).ownBlock) m.fQ fl t (r.bm x) op av an bv bn):=by
 have bL:=h.bL
 have u0:Rb<w.heap.size:=by omega
 have v0:Hid (∀W,Bq w W->Cq 17 #[m.v 2,.string ⟨x.toArray⟩] W λe w'=>e=.returned (Iq (Fl.ai r.cells x))/\w'=W):=λW hW=>Yc ((h.below hW).cells hr) x;have x0:Hid (∀W,Bq w W->Cq 17 #[m.v 4,.string ⟨x.toArray⟩] W λe w'=>e=.returned (Iq (Fl.ai r.am x))/\w'=W):=λW hW=>Yc ((h.below hW).am hr) x;obtain⟨c2,k2,m0⟩:=h.shape 2 (by unfold Zr;omega);obtain⟨c4,k4,e0⟩:=h.shape 4 (by unfold Zr;omega);rw[hr.r2.1]at m0;rw[hr.r4.1]at e0;have f0:=Zz e0;rw[m0]at v0;rw[e0]at x0;have HH:=Zz h;have HO:=Zz hr;have Q2:Hid (∀W,Bq w W->W.cell? (Aq Rb 2)=some (.slice c2 r.cells.length k2)):=λW hW=>(hW.cell (p:=(Aq Rb 2)) u0).trans (by rw[<-m0];exact h.cR.c 2 (by omega));have Q4:Hid (∀W,Bq w W->W.cell? (Aq Rb 4)=some (.slice c4 r.am.length k4)):=λW hW=>(hW.cell (p:=(Aq Rb 4)) u0).trans (by rw[<-e0];exact h.cR.c 4 (by omega));have HB:Hid (∀o o',Bq w ((w.alloc o).alloc o')):=λo o'=>(bA).alloc (by simp) _;have q2:∀o o',((w.alloc o).alloc o').cell? (Aq Rb 2)=some (.slice c2 r.cells.length k2):=λo o'=>Q2 _ (HB _ _);have q4:∀o o',((w.alloc o).alloc o').cell? (Aq Rb 4)=some (.slice c4 r.am.length k4):=λo o'=>Q4 _ (HB _ _);have g0:Hid (r.bm x=if 0<=Fl.ai r.cells x then some ((Fl.ai r.cells x).toNat,r) else if 0<=Fl.ai r.am x then some (r.cells.length+(Fl.ai r.am x).toNat,r) else if r.am.length=4 then none else some (r.cells.length+r.am.length,{r with am:=r.am++[x]})):=rfl;obtain⟨aV,h0⟩:=nmE (r.bm x);rw[<-h0]at g0⊢;have M0:=Fl.aR r.cells x;have N0:=Fl.aR r.am x;have O0:=hr.ce;have cV:=hr.lo;generalize Fl.ai r.cells x=pc at*;generalize Fl.ai r.am x=pl at*
 have A0:(r.cells.length:Int)<=6:=by omega
 have B0:(r.am.length:Int)<=4:=by omega
 have C0: -1<=pc/\pc<=6:=by omega
 have D0: -1<=pl/\pl<=4:=by omega
 clear h hr h0 m0 e0
 go_enter func29,ntmps29
 go_wp2_with fail
 refine(v0 _ (HB _ _)).mono ?_;rintro e w1 ⟨rfl,j0⟩;rw[j0];clear j0 w1
 by_cases hp:0<=pc
 ·have HR:Hid (aV=some (pc.toNat,r)):=by show _=_;rw[g0.out,if_pos hp]
  have E1:Hid (((pc.toNat:Nat):Int)=pc):=(by show _=_;omega);go_wp2;refine bodyPost_ret (v:=.tuple #[.agg (Zm 3 pc op av an bv bn),Iq 0]) (by simp[results,results29,go_sem,Zm]) rfl ?_;rw[HR.out];refine⟨λb hb _ _=>(HB _ _).block b hb,λy r' hy=>?_,λh=>by cases h⟩;simp only[Option.some.injEq,Prod.mk.injEq]at hy;obtain⟨rfl,rfl⟩:=hy;exact⟨by rw[E1.out],m,HH.below (HB _ _),HO,rfl,λj hj b hb=> .inl hb⟩
 have P0:pc<0:=by omega
 clear hp
 go_wp2_with fail
 refine(x0 _ (HB _ _)).mono ?_;rintro e w1 ⟨rfl,j0⟩;rw[j0];clear j0 w1
 by_cases hl:0<=pl
 ·have HR:Hid (aV=some (r.cells.length+pl.toNat,r)):=by show _=_;rw[g0.out,if_neg (show ¬0<=pc by omega),if_pos hl]
  have E1:Hid (((r.cells.length+pl.toNat:Nat):Int)=(r.cells.length:Int)+pl):=(by show _=_;omega);go_wp2;refine bodyPost_ret (v:=.tuple #[.agg (Zm 3 ((r.cells.length:Int)+pl) op av an bv bn),Iq 0]) (by simp[results,results29,go_sem,Zm]) rfl ?_;rw[HR.out];refine⟨λb hb _ _=>(HB _ _).block b hb,λy r' hy=>?_,λh=>by cases h⟩;simp only[Option.some.injEq,Prod.mk.injEq]at hy;obtain⟨rfl,rfl⟩:=hy;exact⟨by rw[E1.out],m,HH.below (HB _ _),HO,rfl,λj hj b hb=> .inl hb⟩
 have Q0:pl<0:=by omega
 clear hl
 by_cases h4:r.am.length=4
 ·have b4:((r.am.length:Int)==4)=true:=by simp[h4]
  have HR:Hid (aV=none):=(by show _=_;rw[g0.out,if_neg (show ¬0<=pc by omega),if_neg (show ¬0<=pl by omega),if_pos h4]);clear h4;go_wp2;refine bodyPost_ret (v:=.tuple #[.agg (Zm 3 pc op av an bv bn),Iq 5]) (by simp[results,results29,go_sem,Zm]) rfl ?_;rw[HR.out];exact⟨λb hb _ _=>(HB _ _).block b hb,λy r' hy=>(by cases hy),λ_=>⟨⟨_,rfl⟩,HH.bel.trans ((HB _ _).mono (by omega))⟩⟩
 have b4:((r.am.length:Int)==4)=false:=by simp;omega
 have HR:Hid (aV=some (r.cells.length+r.am.length,{r with am:=r.am++[x]})):=by show _=_;rw[g0.out,if_neg (show ¬0<=pc by omega),if_neg (show ¬0<=pl by omega),if_neg h4]
 have E0:r.am.length<4:=by omega
 clear h4;obtain⟨i0,F0,G0,H0,I0⟩:=info_parts Tryz.infoStr
 have n0:Hid (∀W,Bq w W->W.ownsRow base 9 1 (.slice c4 r.am.length k4) r.am.length (r.am.map strV)):=λW hW=>by
  have h1:=(HH.below hW).own 4 (by unfold Zr;omega);rw[HO.r4.1,HO.r4.2,f0.out]at h1;exact h1
 have y0:∀o o' o'',Bq w (((w.alloc o).alloc o').alloc o''):=λo o' o''=>(HB _ _).alloc (by simp;omega) _;have o0:=Zz y0;clear y0
 go_wp2_with (at_builtin;refine Zj _ rfl (.tmp 40) (.tmp 42) 32 rfl base 9 i0 (.string ⟨#[]⟩) 1 16 underlying32 F0 G0 H0 I0 rfl (by decide) _ _ _ rfl (n0 _ (o0 _ _ _)) (Aq (w.heap.size+1+1) 0) 1 1 [strV x] rfl rfl (by decide) (zk7 (by simp)) ?c2 ?c3 ?c4 ?c5 ?_)
 case c2=>intro u hu;simp at hu;subst hu;rfl
 case c3=>unfold maxLen;omega
 case c4=>omega
 case c5=>simp;omega
 intro v' W4 a0 k0 c0;have d0:∀k,(Value.slice c4 r.am.length k4).ownBlock=some k->k<w.heap.size:=λk hk=>((n0 w (Below.refl _ _)).lt k hk).2;have b0:Hid (Zs lo base Rb Pb w0 (W4.setCell (Aq Rb 4) v') (m.app 4 v' [strV x])):=by
  refine HH.jL 4 (by unfold Zr;omega) (by omega) (o0 _ _ _) ?_ (by rw[f0.out];exact k0) (by rw[f0.out];rcases c0 with h1|h1;exact .inl h1;exact .inr (by rw[h1];simp));rw[HO.r4.1,HO.r4.2];exact a0
 have J0:Hid (Zg {r with am:=r.am++[x]} fl t (m.app 4 v' [strV x])):=HO.ic x v' hx E0;obtain⟨va',vcap,rfl⟩:∃va vcap,v'=.slice va (r.am.length+1) vcap:=by
  rcases a0.2 with⟨h1,h2⟩|⟨g,cp,cur,h1,_⟩
  ·omega
  exact⟨_,cp,h1⟩
 have q4:∀b,b<w.heap.size+2->(Value.slice c4 r.am.length k4).ownBlock≠some b->W4.heap[b]?=_:=λb hb p0=>k0.block b (by simp;omega) (Ne.symm p0)
 have q0:∀b,w.heap.size<=b->(Value.slice c4 r.am.length k4).ownBlock≠some b:=λb hb hh=>by have:=d0 b hh;omega
 have rS:W4.heap[w.heap.size]?=some (.cells #[Iq 3,Iq pc,Iq 0,Iq op,.bool av,Iq an,.bool bv,Iq bn,Zq,Zq] 61 (0,0)):=by
  rw[q4 _ (by omega) (q0 _ (Nat.le_refl _)),Below.heap_alloc _ _ _ (by simp;omega),Below.heap_alloc _ _ _ (by simp)];exact heap_alloc_last _ _
 have rE:W4.heap[w.heap.size+1]?=some (.cells Yy 61 (0,0)):=by
  rw[q4 _ (by omega) (q0 _ (by omega)),Below.heap_alloc _ _ _ (by simp)];exact Jm _ _ _ (by simp)
 have z4:W4.cell? (Aq Rb 4)=some (.slice c4 r.am.length k4):=by
  have h1:=b0.cR;have h2:=(HH.own 4 (by unfold Zr;omega)).lt;refine(Qc (a:=(Aq Rb 4)) (q4 Rb (by omega) (λhh=>by have:=((n0 w (Below.refl _ _)).lt Rb hh).1;omega))).trans ?_;exact Q4 _ (o0 _ _ _)
 have fz:∀j,W4.frozen? (Aq Rb j)=false:=λj=>by
  have:=b0.cR.z j;rw[World.frozen?_setCell]at this;exact this
 have s0:W4.cell? (Aq w.heap.size 0)=some (Iq 3):=cell_of_row _ _ 0 _ _ (0,0) rS;have s1:W4.cell? (Aq w.heap.size 1)=some (Iq pc):=cell_of_row _ _ 1 _ _ (0,0) rS;have s2:W4.cell? (Aq w.heap.size 2)=some (Iq 0):=cell_of_row _ _ 2 _ _ (0,0) rS;have s3:W4.cell? (Aq w.heap.size 3)=some (Iq op):=cell_of_row _ _ 3 _ _ (0,0) rS;have s4:W4.cell? (Aq w.heap.size 4)=some (.bool av):=cell_of_row _ _ 4 _ _ (0,0) rS;have s5:W4.cell? (Aq w.heap.size 5)=some (Iq an):=cell_of_row _ _ 5 _ _ (0,0) rS;have s6:W4.cell? (Aq w.heap.size 6)=some (.bool bv):=cell_of_row _ _ 6 _ _ (0,0) rS;have s7:W4.cell? (Aq w.heap.size 7)=some (Iq bn):=cell_of_row _ _ 7 _ _ (0,0) rS;have s8:W4.cell? (Aq w.heap.size 8)=some Zq:=cell_of_row _ _ 8 _ _ (0,0) rS;have s9:W4.cell? (Aq w.heap.size 9)=some Zq:=cell_of_row _ _ 9 _ _ (0,0) rS
 have sz:∀j,W4.frozen? (Aq w.heap.size j)=false:=λj=>by simp[World.frozen?,rS]
 have p0:w.heap.size≠Rb:=by omega
 have c24:W4.cell? (Aq Rb 2)=some (.slice c2 r.cells.length k2):=by
  have h1:=b0.cR.c 2 (by omega);have h2:=Q2 w (Below.refl _ _);rw[HH.cR.c 2 (by omega)]at h2;have h4:(W4.setCell (Aq Rb 4) (.slice va' (r.am.length+1) vcap)).cell? (Aq Rb 2)=W4.cell? (Aq Rb 2):=Qg _ _ _ _ (by simp);rw[<-h4,h1];exact h2
 have z0:Hid (∀v,((W4.setCell (Aq Rb 4) (.slice va' (r.am.length+1) vcap)).setCell (Aq w.heap.size 1) v).heap[w.heap.size+1]?=some (.cells Yy 61 (0,0))):=λv=>(Zx _ _ _ _ _ (by omega)).trans ((Zx _ _ _ _ _ (by omega)).trans rE);have K0:Hid (w.heap.size+2<=W4.heap.size):=by
  show _<=_;have:=k0.size;simp at this;omega
 have L0:Hid (∀j,Zr j->∀b,((m.app 4 (.slice va' (r.am.length+1) vcap) [strV x]).v j).ownBlock=some b->b≠w.heap.size/\b≠w.heap.size+1):=λj hj b hb=>by
  have hv:(m.app 4 (.slice va' (r.am.length+1) vcap) [strV x]).v j=if j=4 then .slice va' (r.am.length+1) vcap else m.v j:=rfl;rw[hv]at hb
  by_cases h4:j=4
  ·rw[if_pos h4]at hb
   rcases c0 with h1|h1
   ·rw[h1]at hb;have:=d0 b hb;omega
   rw[h1]at hb;simp only[Option.some.injEq]at hb;omega
  rw[if_neg h4]at hb;have:=((HH.own j hj).lt b hb).2;omega
 have r0:Hid (∀j,Zr j->∀b,((m.app 4 (.slice va' (r.am.length+1) vcap) [strV x]).v j).ownBlock=some b->(m.v j).ownBlock=some b\/w.heap.size<=b):=λj hj b hb=>by
  have hv:(m.app 4 (.slice va' (r.am.length+1) vcap) [strV x]).v j=if j=4 then .slice va' (r.am.length+1) vcap else m.v j:=rfl;rw[hv]at hb
  by_cases h4:j=4
  ·rw[if_pos h4]at hb
   rcases c0 with h1|h1
   ·left;rw[h4,f0.out,<-h1];exact hb
   right;rw[h1]at hb;simp only[Option.some.injEq]at hb;omega
  rw[if_neg h4]at hb;exact .inl hb
 have t0:Hid (∀b,b<w.heap.size->(Value.slice c4 r.am.length k4).ownBlock≠some b->W4.heap[b]?=w.heap[b]?):=λb hb p0=>(k0.block b (by simp;omega) (Ne.symm p0)).trans ((o0 _ _ _).block b hb);clear a0 k0 c0 q4 q0 rS rE d0 n0
 go_wp2_with (refine Xn rfl (.tmp 6) (.tmp 54) 61 rfl (w.heap.size+1) rfl Yy (Zm 3 ((r.cells.length:Int)+(r.am.length:Int)) op av an bv bn) rfl 61 (z0 _) Tryz.infoStmt10 rfl (by simp[Zm,Value.oneCell']) ?_)
 refine bodyPost_ret (v:=.tuple #[.agg (Zm 3 ((r.cells.length:Int)+(r.am.length:Int)) op av an bv bn),Iq 0]) ?_ rfl ?_
 ·exact Yx (p:=6) (q:=7) (ty:=61) results29 _ _ (Aq (w.heap.size+1) 0) _ rfl (run_loadVar_row _ _ _ _ _ _ _ (setRow_heap _ _ _ _ _ _ (z0 _)) underlying61 rfl Tryz.infoStmt10)
 rw[HR.out];refine⟨λb hb h1 h2=>?_,λy r' hy=>?_,λh=>by cases h⟩
 ·rw[setRow_other _ _ _ _ (by omega),Zx _ _ _ _ _ (by omega),Zx _ _ _ _ _ h1]
  exact t0 b hb (by rw[<-f0.out];exact h2)
 simp only[Option.some.injEq,Prod.mk.injEq]at hy;obtain⟨rfl,rfl⟩:=hy;refine⟨by push_cast;rfl,_,?_,J0,rfl,r0⟩;have hz:=K0.out;refine b0.aside ?_ ?_ (λb hb=>?_) ?_
 ·exact below_setRow (b0.bel.setCell (show lo<=w.heap.size by omega) _) (by omega) _
 ·simp only[World.setRow,Array.size_modify,Zy];omega
 ·have l0:b≠w.heap.size/\b≠w.heap.size+1:=by
   rcases hb with rfl|rfl|⟨j,hj,hb⟩|hb
   ·omega
   ·omega
   ·exact L0 j hj b hb
   have:=(HH.kp b hb).2.1;omega
  rw[setRow_other _ _ _ _ l0.2,Zx _ _ _ _ _ l0.1]
 simp only[World.setRow,Array.size_modify,Zy];exact Nat.le_refl _
end
end Go.Proofs.YtfhpibppblbgcaaGreatDoor
