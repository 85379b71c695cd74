import Derived.Test.YtjekbnmnjeoagaaGreatDoorM00
import Derived.OrdersHeld
import Derived.Deep.Heap
set_option linter.all false
set_option maxRecDepth 100000
set_option maxHeartbeats 40000000
namespace Go.Proofs.YtjekbnmnjeoagaaGreatDoor
open Go.RowKit
variable{P:Program}{S R:World->Prop}{o:Oper}{l:List Oper}{a:Act}{Q:Exit->Act->World->Prop}{w:World}{id j:Nat}{ops:Array Oper}{v:Value}{b:Bool}
def zs3(m:Nat):Nat->Array Bool
 |0=>Array.replicate m false
 |k+1=>(zs3 m k).setIfInBounds k true
def zx1(P:Program)(S:World->Prop)(L:Act->Prop):List Oper->Act->Prop
 |[],a=>L a
 |o::l,a=>o.guard=none/\∃v,(∀w,S w->(execOp a.eval o).run P w=.ok (.value v) w)/\zx1 P S L l (a.put o.dst v)
def yz7{L:Act->Prop}(hg:o.guard=none)
  (h:∀K:Act->Prop,(∀a',zx1 P S L l a'->K a')->∃v,(∀w,S w->(execOp a.eval o).run P w=.ok (.value v) w)/\K (a.put o.dst v)):zx1 P S L (o::l) a:=by
 obtain⟨v,h1,h2⟩:=h (zx1 P S L l) (λ_ h=>h);exact⟨hg,v,h1,h2⟩
def yz8{L:Act->Prop}(h:∀L':Act->Prop,Hid (∀a,L a->L' a)->zx1 P S L' l a):zx1 P S L l a:=h L (λ_ h=>h)
def heldB(ops:Array Oper)(n:Nat):Bool:=
 Region.noSelect ops && ((List.range n).all (λk=>Region.free .any ops (zs3 ops.size k) k && (Region.ready .any ops (zs3 ops.size k)).contains k) &&
  (decide (Region.ready .any ops (zs3 ops.size n)=[n]) && (decide (Region.ready .any ops (zs3 ops.size (n+1))=[n+1]) && decide (Region.ready .any ops (zs3 ops.size (n+2))=[]))))
section
def zk2{ops:Array Oper}{n f:Nat}(hs:Region.noSelect ops=true)(hall:∀k,k<n->Region.free .any ops (zs3 ops.size k) k=true/\(Region.ready .any ops (zs3 ops.size k)).contains k=true)
  (hQ:∀c a d v w,Q (.panic c) (Act.put a d v) w->Q (.panic c) a w) (hS:S w):∀(l:List Oper) (k:Nat) (a:Act),(∀j,j<l.length->l[j]?=ops[k+j]?)->k+l.length=n->
  zx1 P S (λa'=>wpAnyH P .any ops Q S f (zs3 ops.size n) a' w) l a->wpAnyH P .any ops Q S (f+l.length) (zs3 ops.size k) a w
 |[],k,a,_,hk,h=>by simp only[List.length_nil,Nat.add_zero]at hk⊢;subst hk;exact h
 |o::l,k,a,hl,hk,h=>by
  obtain⟨hg,v,h1,h2⟩:=h;have h0:ops[k]?=some o:=(by have:=hl 0 (by simp);simpa using this.symm);have hk':k<n:=(by simp only[List.length_cons]at hk;omega);have ih:=zk2 hs hall hQ hS l (k+1) (a.put o.dst v) (λj hj=>by have:=hl (j+1) (by simp;omega);simpa [Nat.add_assoc,Nat.add_comm 1 j] using this) (by simp only[List.length_cons]at hk;omega) h2;have:=wpAnyH_take (fuel:=f+l.length) h0 hs (hall k hk').1 (hall k hk').2 (λc a w h=>hQ c a _ _ w h) (Or.inl ⟨by simp[Region.wanted,hg],h1⟩) hS ih;simpa [Nat.add_assoc] using this
def zk3(n:Nat)(hm:P.follows .mixedOrders=true)(hB:heldB l.toArray n=true)(hn:l.length=n+2)
  (hQ:∀c a d v w,Q (.panic c) (Act.put a d v) w->Q (.panic c) a w) (oA oS:Oper) (hA:l[n]?=some oA) (hS':l[n+1]?=some oS) (gA:oA.guard=none) (gS:oS.guard=none)
  (hS:S w.drew) (h:zx1 P S (λa'=>∃va w1 w2,(execOp a'.eval oA).run P w.drew=.ok (.value va) w1/\S w1/\(execOp (a'.put oA.dst va).eval oS).run P w1=.ok .skip w2/\S w2/\Q .normal ((a'.put oA.dst va).put oS.dst undef) w2) (l.take n) a):
  (Code.region id l.toArray true).wp P Q a w:=by
 simp only[heldB,Bool.and_eq_true,decide_eq_true_eq,List.all_eq_true,List.mem_range]at hB;obtain⟨hs,hall,r0,r1,r2⟩:=hB;refine wp_region_held (S:=S) hm ?_
 have hz:l.toArray.size=n+2:=by simp[hn]
 have a0:(l.take n).length=n:=by simp;omega
 have key:=zk2 (P:=P) (S:=S) (Q:=Q) (w:=w.drew) (ops:=l.toArray) (n:=n) (f:=2) hs hall hQ hS (l.take n) 0 a (λj hj=>by
  have hj':j<n:=(by rw[a0]at hj;exact hj)
  simp[hj']) (by rw[a0];simp) ?_
 ·rw[a0,Nat.add_comm,<-hz]at key;exact key
 have mono:∀(l':List Oper) (a:Act) (L L':Act->Prop),(∀a,L a->L' a)->zx1 P S L l' a->zx1 P S L' l' a:=by
  intro l'
  induction l' with
  |nil=>intro a L L' hL h;exact hL a h
  |cons o l' ih=>intro a L L' hL h;obtain⟨hg,v,h1,h2⟩:=h;exact⟨hg,v,h1,ih _ L L' hL h2⟩
 refine mono _ _ _ _ (λa' ⟨va,w1,w2,e1,s1,e2,s2,q⟩=>?_) h;refine wpAnyH_all r0 (by simp) (λi hi=>?_);simp only[List.mem_singleton]at hi;subst hi
 have b0:l.toArray[i]?=some oA:=by simpa using hA
 have c0:l.toArray[i+1]?=some oS:=by simpa using hS'
 unfold wpOp;simp only[b0,Region.wanted,gA,if_true,Oper.wp,e1,Oper.upon];refine .inl ⟨s1,wpAnyH_all r1 (by simp) (λj hj=>?_)⟩;simp only[List.mem_singleton]at hj;subst hj;unfold wpOp;simp only[c0,Region.wanted,gS,if_true,Oper.wp,e2,Oper.upon];exact .inl ⟨s2,wpAnyH_done r2 q 0⟩
end
def Zi(m:Nat)(l:List Nat):Array Bool:=l.foldl (λd i=>d.setIfInBounds i true) (Array.replicate m false)
def Yg(m:Nat)(l:List Nat)(i:Nat):Zi m (l++[i])=(Zi m l).setIfInBounds i true:=by simp[Zi]
def zk4(ops:Array Oper):List Nat->List Nat->Bool
 |_,[]=>true
 |pre,i::rest=>Region.free .any ops (Zi ops.size pre) i && ((Region.ready .any ops (Zi ops.size pre)).contains i && zk4 ops (pre++[i]) rest)
section
def Jg{y:Nat}{oy:Oper}{K:Act->World->Prop}(hy:ops[y]?=some oy)(h:wpList P ops (Exit.then K Q) [oy] a w):wpOp P ops Q y K a w:=by
 have hw:wpOp P ops (Exit.then K Q) y (wpList P ops (Exit.then K Q) []) a w:=by unfold wpOp;simp only[hy];exact h
 have hn:∀a w,wpList P ops (Exit.then K Q) [] a w->K a w:=λa w h=>h;unfold wpOp at hw⊢;simp only[hy]at hw⊢
 split
 ·rename_i a0
  rw[if_pos a0]at hw;refine hw.imp (λh1=>?_) (λh2=>h2);have h2:=Oper.wp_mono hn h1;unfold Oper.wp at h2⊢;generalize (execOp a.eval oy).run P w=r at*
  cases r with
  |ok n w'=>cases n<;>exact h2
  |halt x w'=>cases x<;>exact h2
 rename_i a0;rw[if_neg a0]at hw;exact hn _ _ hw
end
def zy3(P:Program)(ops:Array Oper)(S:World->Prop)(L:Act->Prop):List Oper->Act->Prop
 |[],a=>L a
 |o::l,a=>∃v,YieldsIf P ops S o v a/\zy3 P ops S L l (a.put o.dst v)
section
def yz9{L:Act->Prop}(hg:o.guard=none)
  (h:∀K:Act->Prop,(∀a',zy3 P ops S L l a'->K a')->∃v,(∀w,S w->(execOp a.eval o).run P w=.ok (.value v) w)/\K (a.put o.dst v)):zy3 P ops S L (o::l) a:=by
 obtain⟨v,h1,h2⟩:=h (zy3 P ops S L l) (λ_ h=>h);exact⟨v,.inl ⟨by simp[Region.wanted,hg],h1⟩,h2⟩
def yrz{L:Act->Prop}(h:L a):zy3 P ops S L [] a:=h
def zk5{ops:Array Oper}{L L':Act->Prop}(hL:∀a,L a->L' a):∀(l:List Oper) (a:Act),zy3 P ops S L l a->zy3 P ops S L' l a
 |[],a,h=>hL a h
 |o::l,a,⟨v,h1,h2⟩=>⟨v,h1,zk5 hL l _ h2⟩
def znv{ops:Array Oper}{f:Nat}{w:World}(hs:Region.noSelect ops=true)(hQ:∀c a d v w,Q (.panic c) (Act.put a d v) w->Q (.panic c) a w)(hS:S w):
  ∀(σ:List Nat) (so:List Oper) (pre:List Nat) (a:Act),σ.map (λi=>ops[i]?)=so.map some->zk4 ops pre σ=true->
  zy3 P ops S (λa'=>wpAnyH P .any ops Q S f (Zi ops.size (pre++σ)) a' w) so a->wpAnyH P .any ops Q S (f+σ.length) (Zi ops.size pre) a w
 |[],so,pre,a,hso,_,h=>by
  have:so=[]:=by cases so with|nil=>rfl|cons o so=>simp at hso
  subst this;simp only[List.append_nil]at h;exact h
 |i::σ,so,pre,a,hso,hB,h=>by
  cases so with
  |nil=>simp at hso
  |cons o so=>
   simp only[List.map_cons,List.cons.injEq]at hso;simp only[zk4,Bool.and_eq_true]at hB;obtain⟨v,h1,h2⟩:=h;have ih:=znv (f:=f) (w:=w) hs hQ hS σ so (pre++[i]) (a.put o.dst v) hso.2 hB.2.2 (by simpa using h2);rw[Yg]at ih;have:=wpAnyH_take (fuel:=f+σ.length) hso.1 hs hB.1 hB.2.1 (λc a w h=>hQ c a _ _ w h) h1 hS ih;simpa [Nat.add_assoc] using this
def zk6(S:World->Prop)(σ:List Nat)(t1 t2:Nat)(G:List (Nat×Nat))(hm:P.follows .mixedOrders=true)
  (hB:(Region.noSelect l.toArray && (zk4 l.toArray [] σ && (decide (Region.ready .any l.toArray (Zi l.toArray.size σ)=[t1]) && (decide (Region.ready .any l.toArray (Zi l.toArray.size (σ++[t1]))=[t2]) && (decide (Region.ready .any l.toArray (Zi l.toArray.size (σ++[t1]++[t2]))=[]) && G.all (λp=>decide (((l.toArray[p.1]?).bind λx=>x.dst)=some p.2)))))))=true)
  (hlen:l.length=2+σ.length) (so:List Oper) (o1 o2:Oper) (b0:σ.map (λi=>l.toArray[i]?)=so.map some) (h1:l.toArray[t1]?=some o1) (h2:l.toArray[t2]?=some o2)
  (hQ:∀c a d v w,Q (.panic c) (Act.put a d v) w->Q (.panic c) a w) (hS:S w.drew)
  (h:∀ops:Array Oper,(∀p∈G,((ops[p.1]?).bind λx=>x.dst)=some p.2)->zy3 P ops S (λa'=>wpList P ops (Exit.then (λa1 w1=>S w1/\wpList P ops (Exit.then (λa2 w2=>S w2/\Q .normal a2 w2) Q) [o2] a1 w1) Q) [o1] a' w.drew) so a):(Code.region id l.toArray true).wp P Q a w:=by
 simp only[Bool.and_eq_true,decide_eq_true_eq,List.all_eq_true]at hB;obtain⟨hs,hh,r1,r2,r3,hG⟩:=hB;refine wp_region_held (S:=S) hm ?_;have key:=znv (P:=P) (Q:=Q) (S:=S) (ops:=l.toArray) (f:=2) (w:=w.drew) hs hQ hS σ so [] a b0 hh ?_
 ·have e:l.toArray.size=2+σ.length:=by simp[hlen]
  rw[<-e]at key;simpa [Zi] using key
 refine zk5 (λa' h'=>?_) _ _ (h l.toArray hG);refine wpAnyH_all (rs:=[t1]) (by simpa using r1) (by simp) (λx hx=>?_);simp only[List.mem_singleton]at hx;subst hx;refine wpOp_mono (λa1 w1 hk=>⟨hk.1,?_⟩) (Jg h1 h')
 have e:(Zi l.toArray.size ([]++σ)).setIfInBounds x true=Zi l.toArray.size (σ++[x]):=by rw[Yg];rfl
 rw[e];refine wpAnyH_all (rs:=[t2]) r2 (by simp) (λy hy=>?_);simp only[List.mem_singleton]at hy;subst hy;refine wpOp_mono (λa2 w2 a0=>⟨a0.1,?_⟩) (Jg h2 hk.2);have e2:(Zi l.toArray.size (σ++[x])).setIfInBounds y true=Zi l.toArray.size (σ++[x]++[y]):=(Yg _ _ _).symm;rw[e2];exact wpAnyH_done r3 a0.2 0
end
def Jf(P:Program)(ops:Array Oper)(S:World->Prop)(Q:Exit->Act->World->Prop):List (Bool×Oper)->Act->World->Prop
 |[],a,w=>Q .normal a w
 |(true,o)::l,a,w=>∃v,YieldsIf P ops S o v a/\Jf P ops S Q l (a.put o.dst v) w
 |(false,o)::l,a,w=>wpList P ops (Exit.then (λa1 w1=>S w1/\Jf P ops S Q l a1 w1) Q) [o] a w
def zuw(ops:Array Oper):List Nat->List (Bool×Nat)->Bool
 |pre,[]=>decide (Region.ready .any ops (Zi ops.size pre)=[])
 |pre,(true,i)::l=>Region.free .any ops (Zi ops.size pre) i && ((Region.ready .any ops (Zi ops.size pre)).contains i && zuw ops (pre++[i]) l)
 |pre,(false,i)::l=>decide (Region.ready .any ops (Zi ops.size pre)=[i]) && zuw ops (pre++[i]) l
section
def yww{l:List (Bool×Oper)}(hg:o.guard=none)
  (h:∀K:Act->Prop,(∀a',Jf P ops S Q l a' w->K a')->∃v,(∀w,S w->(execOp a.eval o).run P w=.ok (.value v) w)/\K (a.put o.dst v)):Jf P ops S Q ((true,o)::l) a w:=by
 obtain⟨v,h1,h2⟩:=h (λa'=>Jf P ops S Q l a' w) (λ_ h=>h);exact⟨v,.inl ⟨by simp[Region.wanted,hg],h1⟩,h2⟩
def zm9{l:List (Bool×Oper)}(h:wpList P ops (Exit.then (λa1 w1=>S w1/\Jf P ops S Q l a1 w1) Q) [o] a w):Jf P ops S Q ((false,o)::l) a w:=h
def yry(h:Q .normal a w):Jf P ops S Q [] a w:=h
def zp9{ops:Array Oper}(hs:Region.noSelect ops=true)(hQ:∀c a d v w,Q (.panic c) (Act.put a d v) w->Q (.panic c) a w):
  ∀(st:List (Bool×Nat)) (so:List (Bool×Oper)) (pre:List Nat) (a:Act) (w:World),S w->st.map (λp=>(p.1,ops[p.2]?))=so.map (λp=>(p.1,some p.2))->zuw ops pre st=true->
  Jf P ops S Q so a w->wpAnyH P .any ops Q S st.length (Zi ops.size pre) a w
 |[],so,pre,a,w,hS,a0,hB,h=>by
  have:so=[]:=by cases so with|nil=>rfl|cons o so=>simp at a0
  subst this;simp only[zuw,decide_eq_true_eq]at hB;exact wpAnyH_done hB h 0
 |(true,i)::st,so,pre,a,w,hS,a0,hB,h=>by
  cases so with
  |nil=>simp at a0
  |cons p so=>
   obtain⟨c,o⟩:=p;simp only[List.map_cons,List.cons.injEq,Prod.mk.injEq]at a0;obtain⟨⟨rfl,ho⟩,a0⟩:=a0;simp only[zuw,Bool.and_eq_true]at hB;obtain⟨v,h1,h2⟩:=h;have ih:=zp9 hs hQ st so (pre++[i]) (a.put o.dst v) w hS a0 hB.2.2 h2;rw[Yg]at ih;exact wpAnyH_take (fuel:=st.length) ho hs hB.1 hB.2.1 (λc a w h=>hQ c a _ _ w h) h1 hS ih
 |(false,i)::st,so,pre,a,w,hS,a0,hB,h=>by
  cases so with
  |nil=>simp at a0
  |cons p so=>
   obtain⟨c,o⟩:=p;simp only[List.map_cons,List.cons.injEq,Prod.mk.injEq]at a0;obtain⟨⟨rfl,ho⟩,a0⟩:=a0;simp only[zuw,Bool.and_eq_true,decide_eq_true_eq]at hB;refine wpAnyH_all (rs:=[i]) hB.1 (by simp) (λx hx=>?_);simp only[List.mem_singleton]at hx;subst hx;refine wpOp_mono (λa1 w1 hk=>⟨hk.1,?_⟩) (Jg ho h);have ih:=zp9 hs hQ st so (pre++[x]) a1 w1 hk.1 a0 hB.2 hk.2
   rwa [Yg]at ih
def zk7(S:World->Prop)(st:List (Bool×Nat))(hm:P.follows .mixedOrders=true)
  (hB:(Region.noSelect l.toArray && zuw l.toArray [] st)=true) (hlen:l.length=st.length) (so:List (Bool×Oper)) (a0:st.map (λp=>(p.1,l.toArray[p.2]?))=so.map (λp=>(p.1,some p.2)))
  (hQ:∀c a d v w,Q (.panic c) (Act.put a d v) w->Q (.panic c) a w) (hS:S w.drew) (h:∀ops:Array Oper,Jf P ops S Q so a w.drew):(Code.region id l.toArray true).wp P Q a w:=by
 simp only[Bool.and_eq_true]at hB;refine wp_region_held (S:=S) hm ?_;have key:=zp9 (P:=P) (Q:=Q) (S:=S) hB.1 hQ st so [] a w.drew hS a0 hB.2 (h l.toArray)
 have e:l.toArray.size=st.length:=by simp[hlen]
 rw[<-e]at key;simpa [Zi] using key
end
def zr9(ops:Array Oper)(k i:Nat):Bool:=match ops[k]? with
 |some o=>o.after.any λe=>Region.binds .any e && decide (e.on=i)
 |none=>true
def Ud(P:Program)(ops:Array Oper)(Q:Exit->Act->World->Prop)(S:World->Prop)(late:List Nat):Nat->Array Bool->Act->World->Prop
 |0,listed,a,w=>Region.ready .any ops listed=[]/\Q .normal a w
 |fuel+1,listed,a,w=>
  (Region.ready .any ops listed=[]->Q .normal a w)/\
  ∀i∈Region.ready .any ops listed,wpOp P ops Q i (λa' w'=>(i ∉ late->S w')/\Ud P ops Q S late fuel (listed.setIfInBounds i true) a' w') a w
section
variable{late:List Nat}
def zx5:∀(fuel:Nat) (listed:Array Bool) (a:Act) (w:World),Ud P ops Q S late fuel listed a w->wpAny P .any ops Q fuel listed a w
 |0,_,_,_,h=>h
 |fuel+1,_,_,_,h=>⟨h.1,λi hi=>wpOp_mono (λa' w' h'=>zx5 fuel _ a' w' h'.2) (h.2 i hi)⟩
def zuv{i:Nat}{oi:Oper}(hi:ops[i]?=some oi)(c0:∀(j:Nat) (o:Oper) cs b,ops[j]?=some o->o.op≠ .select cs b)
  (hQ:∀c a w,Q (.panic c) (a.put oi.dst v) w->Q (.panic c) a w) (d0:∀k∈late,zr9 ops k i=true):
  ∀(fuel:Nat) (listed:Array Bool) (a:Act) (w:World),
   (∀j oj,ops[j]?=some oj->j≠i->listed.getD j true=false->(∀e∈oj.after,Region.binds .any e=true->e.on≠i)->oi.apart ops oj=true)->
   i∈Region.ready .any ops listed->YieldsIf P ops S oi v a->S w->
   Ud P ops Q S late fuel (listed.setIfInBounds i true) (a.put oi.dst v) w->Ud P ops Q S late (fuel+1) listed a w:=by
 intro fuel
 induction fuel with
 |zero=>
  intro listed a w _ hr hy hS H;refine⟨λh=>(by rw[h]at hr;cases hr),λj hj=>?_⟩
  by_cases a0:j=i
  ·subst a0;exact hy.wpOp hi hS ⟨λ_=>hS,H⟩
  have:=ready_mono hj a0;rw[H.1]at this
  cases this
 |succ fuel ih=>
  intro listed a w b0 hr hy hS H;refine⟨λh=>(by rw[h]at hr;cases hr),λj hj=>?_⟩
  by_cases a0:j=i
  ·subst a0;exact hy.wpOp hi hS ⟨λ_=>hS,H⟩
  have h1:=H.2 j (ready_mono hj a0);obtain⟨e0,oj,g0,hall⟩:=mem_ready.1 hj
  have f0:∀e∈oj.after,Region.binds .any e=true->e.on≠i:=λe he hb l0=>by
   have h1:=hall e he hb;have h0:=(mem_ready.1 hr).1;rw[l0]at h1;rcases Nat.lt_or_ge i listed.size with h'|h'
   ·simp[h']at h0 h1;rw[h0]at h1;cases h1
   simp[Array.getElem?_eq_none h']at h1
  have i0:j ∉ late:=λhl=>by
   have hw:=d0 j hl;simp only[zr9,g0,Array.any_eq_true']at hw;obtain⟨e,he,hb⟩:=hw;simp only[Bool.and_eq_true,decide_eq_true_eq]at hb;exact f0 e he hb.1 hb.2
  have h2:=wpOp_putIf g0 (b0 j oj g0 a0 e0 f0) (λcs b=>c0 i oi cs b hi) (λcs b=>c0 j oj cs b g0) hQ hy h1
  have hfree':∀k ok,ops[k]?=some ok->k≠i->(listed.setIfInBounds j true).getD k true=false->
    (∀e∈ok.after,Region.binds .any e=true->e.on≠i)->oi.apart ops ok=true:=λk ok hk m0 j0 hno=>by
   refine b0 k ok hk m0 ?_ hno
   by_cases k0:j=k
   ·subst k0;exact e0
   rw[getD_set_ne true k0]at j0;exact j0
  refine wpOp_mono (λa' w' h3=>⟨λ_=>h3.2.1 i0,ih (listed.setIfInBounds j true) a' w' hfree' (ready_mono hr (Ne.symm a0)) h3.1 (h3.2.1 i0) ?_⟩) h2;rw[Array.setIfInBounds_comm _ _ a0];exact h3.2.2
def Xu(P:Program)(ops:Array Oper)(S:World->Prop)(Q:Exit->Act->World->Prop):List (Nat×Oper)->Act->World->Prop
 |[],a,w=>Q .normal a w
 |(0,o)::l,a,w=>∃v,YieldsIf P ops S o v a/\Xu P ops S Q l (a.put o.dst v) w
 |(1,o)::l,a,w=>wpList P ops (Exit.then (λa1 w1=>S w1/\Xu P ops S Q l a1 w1) Q) [o] a w
 |(_+2,o)::l,a,w=>wpList P ops (Exit.then (λa1 w1=>Xu P ops S Q l a1 w1) Q) [o] a w
def zx6(ops:Array Oper)(late:List Nat):List Nat->List (Nat×Nat)->Bool
 |pre,[]=>decide (Region.ready .any ops (Zi ops.size pre)=[])
 |pre,(0,i)::l=>Region.free .any ops (Zi ops.size pre) i && ((Region.ready .any ops (Zi ops.size pre)).contains i && (late.all (λk=>zr9 ops k i) && (decide (∀k∈late,k ∉ pre) && zx6 ops late (pre++[i]) l)))
 |pre,(1,i)::l=>decide (Region.ready .any ops (Zi ops.size pre)=[i]) && zx6 ops late (pre++[i]) l
 |pre,(_+2,i)::l=>decide (Region.ready .any ops (Zi ops.size pre)=[i]) && (late.contains i && (l.all (λp=>decide (2<=p.1)) && zx6 ops late (pre++[i]) l))
def Xp{l:List (Nat×Oper)}(hg:o.guard=none)
  (h:∀K:Act->Prop,(∀a',Xu P ops S Q l a' w->K a')->∃v,(∀w,S w->(execOp a.eval o).run P w=.ok (.value v) w)/\K (a.put o.dst v)):Xu P ops S Q ((0,o)::l) a w:=by
 obtain⟨v,h1,h2⟩:=h (λa'=>Xu P ops S Q l a' w) (λ_ h=>h);exact⟨v,.inl ⟨by simp[Region.wanted,hg],h1⟩,h2⟩
def late_go{l:List (Nat×Oper)}(hg:o.guard=some (j,b))(hy:yielded ops a.tmps j=some b)
  (h:∀K:Act->Prop,(∀a',Xu P ops S Q l a' w->K a')->∃v,(∀w,S w->(execOp a.eval o).run P w=.ok (.value v) w)/\K (a.put o.dst v)):Xu P ops S Q ((0,o)::l) a w:=by
 obtain⟨v,h1,h2⟩:=h (λa'=>Xu P ops S Q l a' w) (λ_ h=>h);exact⟨v,.inl ⟨by simp[Region.wanted,hg,hy],h1⟩,h2⟩
def zpz{l:List (Nat×Oper)}{c:Bool}(hg:o.guard=some (j,b))(hy:yielded ops a.tmps j=some c)(a0:(some c==some b)=false)
  (h:Xu P ops S Q l (a.put o.dst undef) w):Xu P ops S Q ((0,o)::l) a w:=⟨undef,.inr ⟨by simpa [Region.wanted,hg,hy] using a0,rfl⟩,h⟩
def Zu{l:List (Nat×Oper)}(h:wpList P ops (Exit.then (λa1 w1=>S w1/\Xu P ops S Q l a1 w1) Q) [o] a w):Xu P ops S Q ((1,o)::l) a w:=h
def Ye{l:List (Nat×Oper)}(h:wpList P ops (Exit.then (λa1 w1=>Xu P ops S Q l a1 w1) Q) [o] a w):Xu P ops S Q ((2,o)::l) a w:=h
def Zl(h:Q .normal a w):Xu P ops S Q [] a w:=h
def zrz(hs:Region.noSelect ops=true)(hQ:∀c a d v w,Q (.panic c) (Act.put a d v) w->Q (.panic c) a w):
  ∀(st:List (Nat×Nat)) (so:List (Nat×Oper)) (pre:List Nat) (a:Act) (w:World),((∃p∈st,p.1<2)->S w)->st.map (λp=>(p.1,ops[p.2]?))=so.map (λp=>(p.1,some p.2))->zx6 ops late pre st=true->
  Xu P ops S Q so a w->Ud P ops Q S late st.length (Zi ops.size pre) a w
 |[],so,pre,a,w,hS,a0,hB,h=>by
  have:so=[]:=by cases so with|nil=>rfl|cons o so=>simp at a0
  subst this;simp only[zx6,decide_eq_true_eq]at hB;exact⟨hB,h⟩
 |(0,i)::st,so,pre,a,w,hS,a0,hB,h=>by
  cases so with
  |nil=>simp at a0
  |cons p so=>
   obtain⟨c,o⟩:=p;simp only[List.map_cons,List.cons.injEq,Prod.mk.injEq]at a0;obtain⟨⟨rfl,ho⟩,a0⟩:=a0;simp only[zx6,Bool.and_eq_true,List.all_eq_true]at hB;obtain⟨v,h1,h2⟩:=h;have b0:S w:=hS ⟨(0,i),by simp,by simp⟩;have ih:=zrz hs hQ st so (pre++[i]) (a.put o.dst v) w (λ_=>b0) a0 hB.2.2.2.2 h2;rw[Yg]at ih;exact zuv ho (Region.noSelect_spec hs) (λc a w h=>hQ c a _ _ w h) hB.2.2.1 st.length _ a w (Region.free_spec ho hB.1) (by simpa using hB.2.1) h1 b0 ih
 |(1,i)::st,so,pre,a,w,hS,a0,hB,h=>by
  cases so with
  |nil=>simp at a0
  |cons p so=>
   obtain⟨c,o⟩:=p;simp only[List.map_cons,List.cons.injEq,Prod.mk.injEq]at a0;obtain⟨⟨rfl,ho⟩,a0⟩:=a0;simp only[zx6,Bool.and_eq_true,decide_eq_true_eq]at hB;refine⟨λh0=>(by rw[hB.1]at h0;cases h0),λx hx=>?_⟩;rw[hB.1]at hx;simp only[List.mem_singleton]at hx;subst hx;refine wpOp_mono (λa1 w1 hk=>⟨λ_=>hk.1,?_⟩) (Jg ho h);have ih:=zrz hs hQ st so (pre++[x]) a1 w1 (λ_=>hk.1) a0 hB.2 hk.2
   rwa [Yg]at ih
 |(k+2,i)::st,so,pre,a,w,hS,a0,hB,h=>by
  cases so with
  |nil=>simp at a0
  |cons p so=>
   obtain⟨c,o⟩:=p;simp only[List.map_cons,List.cons.injEq,Prod.mk.injEq]at a0;obtain⟨⟨rfl,ho⟩,a0⟩:=a0;simp only[zx6,Bool.and_eq_true,decide_eq_true_eq,List.all_eq_true]at hB;refine⟨λh0=>(by rw[hB.1]at h0;cases h0),λx hx=>?_⟩;rw[hB.1]at hx;simp only[List.mem_singleton]at hx;subst hx;refine wpOp_mono (λa1 w1 hk=>⟨λhnl=>absurd (by simpa using hB.2.1) hnl,?_⟩) (Jg ho h);have ih:=zrz hs hQ st so (pre++[x]) a1 w1 (λ⟨p,hp,c0⟩=>by have:=hB.2.2.1 p hp;omega) a0 hB.2.2.2 hk
   rwa [Yg]at ih
def zy4(S:World->Prop)(late:List Nat)(st:List (Nat×Nat))(G:List (Nat×Nat))(hm:P.follows .mixedOrders=true)
  (hB:(Region.noSelect l.toArray && (zx6 l.toArray late [] st && G.all (λp=>decide (((l.toArray[p.1]?).bind λx=>x.dst)=some p.2))))=true) (hlen:l.length=st.length) (so:List (Nat×Oper)) (a0:st.map (λp=>(p.1,l.toArray[p.2]?))=so.map (λp=>(p.1,some p.2)))
  (hQ:∀c a d v w,Q (.panic c) (Act.put a d v) w->Q (.panic c) a w) (hS:S w.drew) (h:∀ops:Array Oper,(∀p∈G,((ops[p.1]?).bind λx=>x.dst)=some p.2)->Xu P ops S Q so a w.drew):(Code.region id l.toArray true).wp P Q a w:=by
 simp only[Bool.and_eq_true,List.all_eq_true,decide_eq_true_eq]at hB;have key:=zrz (P:=P) (Q:=Q) (S:=S) (late:=late) hB.1 hQ st so [] a w.drew (λ_=>hS) a0 hB.2.1 (h l.toArray hB.2.2)
 have e:l.toArray.size=st.length:=by simp[hlen]
 refine wp_region_any hm (zx5 (S:=S) (late:=late) _ _ _ _ ?_);rw[<-e]at key;simpa [Zi] using key
end
def lateK(W late:List Nat)(i:Nat):Nat:=if late.contains i then 2 else if W.contains i then 1 else 0
def zk8(W late:List Nat):Nat->List Oper->List (Nat×Oper)
 |_,[]=>[]
 |i,o::l=>(lateK W late i,o)::zk8 W late (i+1) l
def zt8(W late:List Nat):Nat->Nat->List (Nat×Nat)
 |_,0=>[]
 |i,n+1=>(lateK W late i,i)::zt8 W late (i+1) n
def zd7(l:List Oper):List (Nat×Nat)->List (Nat×Oper)
 |[]=>[]
 |p::st=>match l[p.2]? with
  |some o=>(p.1,o)::zd7 l st
  |none=>[]
def GsP(ops:Array Oper):List (Nat×Nat)->Prop
 |[]=>True
 |(i,d)::G=>((ops[i]?).bind λx=>x.dst)=some d/\GsP ops G
def GsP.of{ops:Array Oper}:∀{G:List (Nat×Nat)},(∀p∈G,((ops[p.1]?).bind λx=>x.dst)=some p.2)->GsP ops G
 |[],_=>trivial
 |(i,d)::G,h=>⟨h (i,d) (by simp),GsP.of λp hp=>h p (by simp[hp])⟩
section
def zg1(W late:List Nat):∀n i,(zt8 W late i n).length=n
 |0,_=>rfl
 |n+1,i=>by simp[zt8,zg1 W late n]
def zg2(W late:List Nat)(L:Array Oper):∀(l:List Oper) (i:Nat),(∀j,j<l.length->l[j]?=L[i+j]?)->(zt8 W late i l.length).map (λp=>(p.1,L[p.2]?))=(zk8 W late i l).map (λp=>(p.1,some p.2))
 |[],_,_=>rfl
 |o::l,i,h=>by
  have h0:=h 0 (by simp);simp at h0;simp only[List.length_cons,zt8,zk8,List.map_cons];rw[<-h0,zg2 W late L l (i+1) (λj hj=>by have:=h (j+1) (by simp;omega);simpa [Nat.add_assoc,Nat.add_comm 1 j] using this)]
def Zk(S:World->Prop)(W late:List Nat)(G:List (Nat×Nat))(hS:S w.drew)(hB:(P.follows .mixedOrders && (Region.noSelect l.toArray && (zx6 l.toArray late [] (zt8 W late 0 l.length) && G.all (λp=>decide (((l.toArray[p.1]?).bind λx=>x.dst)=some p.2)))))=true)(hQ:∀c a d v w,Q (.panic c) (Act.put a d v) w->Q (.panic c) a w)(h:∀ops:Array Oper,GsP ops G->Xu P ops S Q (zk8 W late 0 l) a w.drew):(Code.region id l.toArray true).wp P Q a w:=
 zy4 S late (zt8 W late 0 l.length) G (Bool.and_eq_true_iff.1 hB).1 (Bool.and_eq_true_iff.1 hB).2 (zg1 W late _ _).symm _ (zg2 W late l.toArray l 0 (λj hj=>by simp)) hQ hS (λops hG=>h ops (GsP.of hG))
def Yz(HS:Hid (∀W,R W->S W))(hr:R w.drew)(W late:List Nat)(G:List (Nat×Nat))(hB:(P.follows .mixedOrders && (Region.noSelect l.toArray && (zx6 l.toArray late [] (zt8 W late 0 l.length) && G.all (λp=>decide (((l.toArray[p.1]?).bind λx=>x.dst)=some p.2)))))=true)(hQ:∀c a d v w,Q (.panic c) (Act.put a d v) w->Q (.panic c) a w)(h:∀ops:Array Oper,GsP ops G->Xu P ops S Q (zk8 W late 0 l) a w.drew):(Code.region id l.toArray true).wp P Q a w:=
 Zk S W late G (HS.out _ hr) hB hQ h
def zg3(l:List Oper):∀(st:List (Nat×Nat)),(st.all λp=>decide (p.2<l.length))=true->st.map (λp=>(p.1,l.toArray[p.2]?))=(zd7 l st).map (λp=>(p.1,some p.2))
 |[],_=>rfl
 |p::st,h=>by
  simp only[List.all_cons,Bool.and_eq_true,decide_eq_true_eq]at h;have e:l[p.2]?=some l[p.2]:=List.getElem?_eq_getElem h.1;simp only[zd7,e,List.map_cons,zg3 l st h.2];simp[e]
def zw2(HS:Hid (∀W,R W->S W))(hr:R w.drew)(st:List (Nat×Nat))(late:List Nat)(G:List (Nat×Nat))(hB:((P.follows .mixedOrders && (Region.noSelect l.toArray && (zx6 l.toArray late [] st && G.all (λp=>decide (((l.toArray[p.1]?).bind λx=>x.dst)=some p.2))))) && (decide (l.length=st.length) && st.all λp=>decide (p.2<l.length)))=true)(hQ:∀c a d v w,Q (.panic c) (Act.put a d v) w->Q (.panic c) a w)(h:∀ops:Array Oper,GsP ops G->Xu P ops S Q (zd7 l st) a w.drew):(Code.region id l.toArray true).wp P Q a w:=by
 obtain⟨h1,h2⟩:=Bool.and_eq_true_iff.1 hB;obtain⟨h3,h4⟩:=Bool.and_eq_true_iff.1 h2;exact zy4 S late st G (Bool.and_eq_true_iff.1 h1).1 (Bool.and_eq_true_iff.1 h1).2 (of_decide_eq_true h3) _ (zg3 l st h4) hQ (HS.out _ hr) (λops hG=>h ops (GsP.of hG))
def Zs{l:List (Nat×Oper)}{a':Act}(hw:Region.wanted o (yielded ops a.tmps)=true)(h1:∀w,S w->(execOp a.eval o).run P w=.ok (.value v) w)(h2:a.put o.dst v=a')(h:Xu P ops S Q l a' w):Xu P ops S Q ((0,o)::l) a w:=by subst h2;exact⟨v,.inl ⟨hw,h1⟩,h⟩
end
end Go.Proofs.YtjekbnmnjeoagaaGreatDoor
