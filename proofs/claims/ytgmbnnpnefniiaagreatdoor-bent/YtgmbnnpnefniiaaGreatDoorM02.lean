import Derived.Test.YtgmbnnpnefniiaaGreatDoorM00
import Derived.OrdersHeld
import Derived.Deep.Heap
set_option linter.all false
set_option maxRecDepth 100000
set_option maxHeartbeats 40000000
namespace Go.Proofs.YtgmbnnpnefniiaaGreatDoor
open Go.RowKit List Region Act
variable{P:Program}{S R:World->Prop}{o:Oper}{l:List Oper}{a:Act}{Q:Exit->Act->World->Prop}{w:World}{ops:Array Oper}{v:Value}{j:Nat}{b:Bool}
def zp0(m:Nat):Nat->Array Bool
 |0=>Array.replicate m false
 |k+1=>(zp0 m k).setIfInBounds k true
def Uz(P:Program)(S:World->Prop)(Wz:Act->Prop):List Oper->Act->Prop
 |[],a=>Wz a
 |o::l,a=>o.guard=none/\∃v,(∀w,S w->(execOp a.eval o).run P w=.ok (.value v) w)/\Uz P S Wz l (a.put o.dst v)
def Ju{Wz:Act->Prop}(hg:o.guard=none)
  (h:∀Wx:Act->Prop,(∀a',Uz P S Wz l a'->Wx a')->∃v,(∀w,S w->(execOp a.eval o).run P w=.ok (.value v) w)/\Wx (a.put o.dst v)):Uz P S Wz (o::l) a:=by
 obtain⟨v,h1,h2⟩:=h (Uz P S Wz l) (λ_ h=>h);exact⟨hg,v,h1,h2⟩
def Jt{Wz:Act->Prop}(h:∀L':Act->Prop,Y (∀a,Wz a->L' a)->Uz P S L' l a):Uz P S Wz l a:=h Wz (λ_ h=>h)
def heldB(ops:Array Oper)(n:Nat):Bool:=
 noSelect ops && ((range n).all (λk=>free .any ops (zp0 ops.size k) k && (ready .any ops (zp0 ops.size k)).contains k) &&
  (decide (ready .any ops (zp0 ops.size n)=[n]) && (decide (ready .any ops (zp0 ops.size (n+1))=[n+1]) && decide (ready .any ops (zp0 ops.size (n+2))=[]))))
section
def zg7{ops:Array Oper}{n f:Nat}(hs:noSelect ops=true)(aT:∀k,k<n->free .any ops (zp0 ops.size k) k=true/\(ready .any ops (zp0 ops.size k)).contains k=true)
  (hQ:∀c a d v w,Q (.panic c) (put a d v) w->Q (.panic c) a w) (hS:S w):∀(l:List Oper) (k:Nat) (a:Act),(∀j,j<l.length->l[j]?=ops[k+j]?)->k+l.length=n->
  Uz P S (λa'=>wpAnyH P .any ops Q S f (zp0 ops.size n) a' w) l a->wpAnyH P .any ops Q S (f+l.length) (zp0 ops.size k) a w
 |[],k,a,_,hk,h=>by simp only[length_nil,Nat.add_zero]at hk⊢;subst hk;exact h
 |o::l,k,a,hl,hk,h=>by
  obtain⟨hg,v,h1,h2⟩:=h;have h0:ops[k]?=some o:=(by have:=hl 0 (by simp);simpa using this.symm);have hk':k<n:=(by simp only[length_cons]at hk;omega);have ih:=zg7 hs aT hQ hS l (k+1) (a.put o.dst v) (λj hj=>by have:=hl (j+1) (by simp;omega);simpa [Nat.add_assoc,Nat.add_comm 1 j] using this) (by simp only[length_cons]at hk;omega) h2;have:=wpAnyH_take h0 hs (aT k hk').1 (aT k hk').2 (λc a w h=>hQ c a _ _ w h) (Or.inl ⟨by simp[wanted,hg],h1⟩) hS ih;simpa [Nat.add_assoc] using this
def zg8{id:Nat}(n:Nat)(hm:P.follows .mixedOrders=true)(hB:heldB l.toArray n=true)(hn:l.length=n+2)
  (hQ:∀c a d v w,Q (.panic c) (put a d v) w->Q (.panic c) a w) (oA oS:Oper) (hA:l[n]?=some oA) (hS':l[n+1]?=some oS) (gA:oA.guard=none) (gS:oS.guard=none)
  (hS:S w.drew) (h:Uz P S (λa'=>∃va w1 w2,(execOp a'.eval oA).run P w.drew=.ok (.value va) w1/\S w1/\(execOp (a'.put oA.dst va).eval oS).run P w1=.ok .skip w2/\S w2/\Q .normal ((a'.put oA.dst va).put oS.dst undef) w2) (l.take n) a):
  (Code.region id l.toArray true).wp P Q a w:=by
 simp only[heldB,Qk,Qn,all_eq_true,mem_range]at hB;obtain⟨hs,aT,r0,r1,r2⟩:=hB;refine wp_region_held (S:=S) hm ?_
 have hz:l.toArray.size=n+2:=by simp[hn]
 have a0:(l.take n).length=n:=by simp;omega
 have key:=zg7 (P:=P) (S:=S) (Q:=Q) (w:=w.drew) (ops:=l.toArray) (n:=n) (f:=2) hs aT hQ hS (l.take n) 0 a (λj hj=>by
  have hj':j<n:=(by rw[a0]at hj;exact hj)
  simp[hj']) (by rw[a0];simp) ?_
 ·rw[a0,Nat.add_comm,<-hz]at key;exact key
 have mono:∀(l':List Oper) (a:Act) (Wz L':Act->Prop),(∀a,Wz a->L' a)->Uz P S Wz l' a->Uz P S L' l' a:=by
  intro l'
  induction l' with
  |nil=>intro a Wz L' hL h;exact hL a h
  |cons o l' ih=>intro a Wz L' hL h;obtain⟨hg,v,h1,h2⟩:=h;exact⟨hg,v,h1,ih _ Wz L' hL h2⟩
 refine mono _ _ _ _ (λa' ⟨va,w1,w2,e1,s1,e2,s2,q⟩=>?_) h;refine wpAnyH_all r0 (by simp) (λi hi=>?_);simp only[mem_singleton]at hi;subst hi
 have b0:l.toArray[i]?=some oA:=by simpa using hA
 have c0:l.toArray[i+1]?=some oS:=by simpa using hS'
 unfold wpOp;simp only[b0,wanted,gA,if_true,Oper.wp,e1,Oper.upon];refine .inl ⟨s1,wpAnyH_all r1 (by simp) (λj hj=>?_)⟩;simp only[mem_singleton]at hj;subst hj;unfold wpOp;simp only[c0,wanted,gS,if_true,Oper.wp,e2,Oper.upon];exact .inl ⟨s2,wpAnyH_done r2 q 0⟩
end
def Zo(m:Nat)(l:List Nat):Array Bool:=l.foldl (λd i=>d.setIfInBounds i true) (Array.replicate m false)
def Yq(m:Nat)(l:List Nat)(i:Nat):Zo m (l++[i])=(Zo m l).setIfInBounds i true:=by simp[Zo]
def zt9(ops:Array Oper):List Nat->List Nat->Bool
 |_,[]=>true
 |pre,i::rest=>free .any ops (Zo ops.size pre) i && ((ready .any ops (Zo ops.size pre)).contains i && zt9 ops (pre++[i]) rest)
def zx0(ops:Array Oper):List Nat->List Nat->Bool
 |pre,[]=>decide (ready .any ops (Zo ops.size pre)=[])
 |pre,i::rest=>decide (ready .any ops (Zo ops.size pre)=[i]) && zx0 ops (pre++[i]) rest
section
def zm7{ops:Array Oper}{f:Nat}{w:World}(hs:noSelect ops=true)(hQ:∀c a d v w,Q (.panic c) (put a d v) w->Q (.panic c) a w):
  ∀(σ:List Nat) (so:List Oper) (pre:List Nat) (a:Act),σ.map (λi=>ops[i]?)=so.map some->zt9 ops pre σ=true->
  Uz P (λ_=>True) (λa'=>wpAnyH P .any ops Q (λ_=>True) f (Zo ops.size (pre++σ)) a' w) so a->wpAnyH P .any ops Q (λ_=>True) (f+σ.length) (Zo ops.size pre) a w
 |[],so,pre,a,hso,_,h=>by
  have:so=[]:=by cases so with|nil=>rfl|cons o so=>simp at hso
  subst this;simp only[append_nil]at h;exact h
 |i::σ,so,pre,a,hso,hB,h=>by
  cases so with
  |nil=>simp at hso
  |cons o so=>
   simp only[map_cons,List.cons.injEq]at hso;simp only[zt9,Qk]at hB;obtain⟨hg,v,h1,h2⟩:=h;have ih:=zm7 hs hQ σ so (pre++[i]) (a.put o.dst v) hso.2 hB.2.2 (by simpa using h2);rw[Yq]at ih;have:=wpAnyH_take hso.1 hs hB.1 hB.2.1 (λc a w h=>hQ c a _ _ w h) (Or.inl ⟨by simp[wanted,hg],h1⟩) trivial ih;simpa [Nat.add_assoc] using this
def zi7{ops:Array Oper}:∀(τ:List Nat) (to:List Oper) (pre:List Nat) (a:Act) (w:World),τ.map (λi=>ops[i]?)=to.map some->zx0 ops pre τ=true->
  wpList P ops Q to a w->wpAnyH P .any ops Q (λ_=>True) τ.length (Zo ops.size pre) a w
 |[],to,pre,a,w,hto,hB,h=>by
  have:to=[]:=by cases to with|nil=>rfl|cons o to=>simp at hto
  subst this;simp only[zx0,Qn]at hB;exact wpAnyH_done hB h 0
 |i::τ,to,pre,a,w,hto,hB,h=>by
  cases to with
  |nil=>simp at hto
  |cons o to=>
   simp only[map_cons,List.cons.injEq]at hto;simp only[zx0,Qk,Qn]at hB;refine wpAnyH_all hB.1 (by simp) (λj hj=>?_);simp only[mem_singleton]at hj;subst hj;have hw:wpOp P ops Q j (wpList P ops Q to) a w:=(by unfold wpOp;simp only[hto.1];exact h);refine wpOp_mono (λa' w' h'=>⟨trivial,?_⟩) hw;have:=zi7 τ to (pre++[j]) a' w' hto.2 hB.2 h'
   rwa [Yq]at this
def zvz{id:Nat}(σ τ:List Nat)(hm:P.follows .mixedOrders=true)(hB:(noSelect l.toArray && (zt9 l.toArray [] σ && zx0 l.toArray σ τ))=true)(aL:l.length=τ.length+σ.length)
  (so to:List Oper) (a0:σ.map (λi=>l.toArray[i]?)=so.map some) (b0:τ.map (λi=>l.toArray[i]?)=to.map some) (hQ:∀c a d v w,Q (.panic c) (put a d v) w->Q (.panic c) a w)
  (h:Uz P (λ_=>True) (λa'=>wpList P l.toArray Q to a' w.drew) so a):(Code.region id l.toArray true).wp P Q a w:=by
 simp only[Qk]at hB;refine wp_region_held (S:=λ_=>True) hm ?_;have key:=zm7 (P:=P) (Q:=Q) (ops:=l.toArray) (f:=τ.length) (w:=w.drew) hB.1 hQ σ so [] a a0 hB.2.1 ?_
 ·rw[<-aL]at key;simpa [Zo] using key
 have mono:∀(l':List Oper) (a:Act) (Wz L':Act->Prop),(∀a,Wz a->L' a)->Uz P (λ_=>True) Wz l' a->Uz P (λ_=>True) L' l' a:=by
  intro l'
  induction l' with
  |nil=>intro a Wz L' hL h;exact hL a h
  |cons o l' ih=>intro a Wz L' hL h;obtain⟨hg,v,h1,h2⟩:=h;exact⟨hg,v,h1,ih _ Wz L' hL h2⟩
 exact mono _ _ _ _ (λa' h'=>zi7 τ to _ a' _ b0 (by simpa using hB.2.2) h') h
def Uc{y:Nat}{oy:Oper}{Wx:Act->World->Prop}(hy:ops[y]?=some oy)(h:wpList P ops (Exit.then Wx Q) [oy] a w):wpOp P ops Q y Wx a w:=by
 have hw:wpOp P ops (Exit.then Wx Q) y (wpList P ops (Exit.then Wx Q) []) a w:=by unfold wpOp;simp only[hy];exact h
 have hn:∀a w,wpList P ops (Exit.then Wx Q) [] a w->Wx a w:=λa w h=>h;unfold wpOp at hw⊢;simp only[hy]at hw⊢
 split
 ·rename_i a0
  rw[G a0]at hw;refine hw.imp (λh1=>?_) (λh2=>h2);have h2:=Oper.wp_mono hn h1;unfold Oper.wp at h2⊢;generalize (execOp a.eval oy).run P w=r at*
  cases r with
  |ok n w'=>cases n<;>exact h2
  |halt x w'=>cases x<;>exact h2
 rename_i a0;rw[U a0]at hw;exact hn _ _ hw
def zvy{id:Nat}(σ:List Nat)(x y p r:Nat)(τx τp τr:List Nat)(hm:P.follows .mixedOrders=true)
  (hB:(noSelect l.toArray && (zt9 l.toArray [] σ && (decide (ready .any l.toArray (Zo l.toArray.size σ)=[x,y]) && (zx0 l.toArray (σ++[x]) τx && (decide (ready .any l.toArray (Zo l.toArray.size (σ++[y]))=[p,r]) && (zx0 l.toArray (σ++[y]++[p]) τp && zx0 l.toArray (σ++[y]++[r]) τr))))))=true)
  (aL:l.length=τp.length+2+σ.length) (a0:τx.length=τp.length+1) (b0:τr.length=τp.length)
  (so:List Oper) (ox oy op or:Oper) (tox bK tor:List Oper) (c0:σ.map (λi=>l.toArray[i]?)=so.map some) (hx:l.toArray[x]?=some ox) (hy:l.toArray[y]?=some oy) (hp:l.toArray[p]?=some op) (hr:l.toArray[r]?=some or)
  (d0:τx.map (λi=>l.toArray[i]?)=tox.map some) (e0:τp.map (λi=>l.toArray[i]?)=bK.map some) (f0:τr.map (λi=>l.toArray[i]?)=tor.map some) (hQ:∀c a d v w,Q (.panic c) (put a d v) w->Q (.panic c) a w)
  (h:Uz P (λ_=>True) (λa'=>wpList P l.toArray Q (ox::tox) a' w.drew/\wpList P l.toArray (Exit.then (λa'' w''=>wpList P l.toArray Q (op::bK) a'' w''/\wpList P l.toArray Q (or::tor) a'' w'') Q) [oy] a' w.drew) so a):(Code.region id l.toArray true).wp P Q a w:=by
 simp only[Qk,Qn]at hB;refine wp_region_held (S:=λ_=>True) hm ?_;have key:=zm7 (P:=P) (Q:=Q) (ops:=l.toArray) (f:=τp.length+2) (w:=w.drew) hB.1 hQ σ so [] a c0 hB.2.1 ?_
 ·rw[<-aL]at key;simpa [Zo] using key
 have mono:∀(l':List Oper) (a:Act) (Wz L':Act->Prop),(∀a,Wz a->L' a)->Uz P (λ_=>True) Wz l' a->Uz P (λ_=>True) L' l' a:=by
  intro l'
  induction l' with
  |nil=>intro a Wz L' hL h;exact hL a h
  |cons o l' ih=>intro a Wz L' hL h;obtain⟨hg,v,h1,h2⟩:=h;exact⟨hg,v,h1,ih _ Wz L' hL h2⟩
 refine mono _ _ _ _ (λa' h'=>?_) h;obtain⟨g0,h0⟩:=h';have step:∀(pre:List Nat) (z:Nat) (oz:Oper) (tz:List Nat) (toz:List Oper) (b:Act) (wb:World),l.toArray[z]?=some oz->tz.map (λi=>l.toArray[i]?)=toz.map some->zx0 l.toArray (pre++[z]) tz=true->wpList P l.toArray Q (oz::toz) b wb->wpOp P l.toArray Q z (λa'' w''=>True/\wpAnyH P .any l.toArray Q (λ_=>True) tz.length ((Zo l.toArray.size pre).setIfInBounds z true) a'' w'') b wb:=by
  intro pre z oz tz toz b wb hz i0 hf hw;have hw':wpOp P l.toArray Q z (wpList P l.toArray Q toz) b wb:=(by unfold wpOp;simp only[hz];exact hw);refine wpOp_mono (λa'' w'' h''=>⟨trivial,?_⟩) hw';have:=zi7 tz toz (pre++[z]) a'' w'' i0 hf h''
  rwa [Yq]at this
 refine wpAnyH_all (rs:=[x,y]) (by simpa using hB.2.2.1) (by simp) (λz hz=>?_);simp only[mem_cons,not_mem_nil,or_false]at hz;rcases hz with rfl|rfl
 ·have:=step σ _ ox τx tox a' _ hx d0 hB.2.2.2.1 g0
  rw[a0]at this;simpa using this
 refine wpOp_mono (λb wb hb=>⟨trivial,?_⟩) (Uc hy h0)
 have e:(Zo l.toArray.size ([]++σ)).setIfInBounds z true=Zo l.toArray.size (σ++[z]):=by rw[Yq];rfl
 rw[e];refine wpAnyH_all (rs:=[p,r]) hB.2.2.2.2.1 (by simp) (λu hu=>?_);simp only[mem_cons,not_mem_nil,or_false]at hu;rcases hu with rfl|rfl
 ·exact step (σ++[z]) _ op τp bK _ _ hp e0 hB.2.2.2.2.2.1 hb.1
 have:=step (σ++[z]) _ or τr tor _ _ hr f0 hB.2.2.2.2.2.2 hb.2;rw[b0]at this;exact this
end
def zx1(P:Program)(ops:Array Oper)(S:World->Prop)(Wz:Act->Prop):List Oper->Act->Prop
 |[],a=>Wz a
 |o::l,a=>∃v,YieldsIf P ops S o v a/\zx1 P ops S Wz l (a.put o.dst v)
section
def ysw{Wz:Act->Prop}(hg:o.guard=none)
  (h:∀Wx:Act->Prop,(∀a',zx1 P ops S Wz l a'->Wx a')->∃v,(∀w,S w->(execOp a.eval o).run P w=.ok (.value v) w)/\Wx (a.put o.dst v)):zx1 P ops S Wz (o::l) a:=by
 obtain⟨v,h1,h2⟩:=h (zx1 P ops S Wz l) (λ_ h=>h);exact⟨v,.inl ⟨by simp[wanted,hg],h1⟩,h2⟩
def yi5{Wz:Act->Prop}(h:Wz a):zx1 P ops S Wz [] a:=h
def zg9{ops:Array Oper}{Wz L':Act->Prop}(hL:∀a,Wz a->L' a):∀(l:List Oper) (a:Act),zx1 P ops S Wz l a->zx1 P ops S L' l a
 |[],a,h=>hL a h
 |o::l,a,⟨v,h1,h2⟩=>⟨v,h1,zg9 hL l _ h2⟩
def zj8{ops:Array Oper}{f:Nat}{w:World}(hs:noSelect ops=true)(hQ:∀c a d v w,Q (.panic c) (put a d v) w->Q (.panic c) a w)(hS:S w):
  ∀(σ:List Nat) (so:List Oper) (pre:List Nat) (a:Act),σ.map (λi=>ops[i]?)=so.map some->zt9 ops pre σ=true->
  zx1 P ops S (λa'=>wpAnyH P .any ops Q S f (Zo ops.size (pre++σ)) a' w) so a->wpAnyH P .any ops Q S (f+σ.length) (Zo ops.size pre) a w
 |[],so,pre,a,hso,_,h=>by
  have:so=[]:=by cases so with|nil=>rfl|cons o so=>simp at hso
  subst this;simp only[append_nil]at h;exact h
 |i::σ,so,pre,a,hso,hB,h=>by
  cases so with
  |nil=>simp at hso
  |cons o so=>
   simp only[map_cons,List.cons.injEq]at hso;simp only[zt9,Qk]at hB;obtain⟨v,h1,h2⟩:=h;have ih:=zj8 hs hQ hS σ so (pre++[i]) (a.put o.dst v) hso.2 hB.2.2 (by simpa using h2);rw[Yq]at ih;have:=wpAnyH_take hso.1 hs hB.1 hB.2.1 (λc a w h=>hQ c a _ _ w h) h1 hS ih;simpa [Nat.add_assoc] using this
def zgz{id:Nat}(S:World->Prop)(σ:List Nat)(t1 t2:Nat)(Wq:List (Nat×Nat))(hm:P.follows .mixedOrders=true)
  (hB:(noSelect l.toArray && (zt9 l.toArray [] σ && (decide (ready .any l.toArray (Zo l.toArray.size σ)=[t1]) && (decide (ready .any l.toArray (Zo l.toArray.size (σ++[t1]))=[t2]) && (decide (ready .any l.toArray (Zo l.toArray.size (σ++[t1]++[t2]))=[]) && Wq.all (λp=>decide (((l.toArray[p.1]?).bind λx=>x.dst)=some p.2)))))))=true)
  (aL:l.length=2+σ.length) (so:List Oper) (o1 o2:Oper) (b0:σ.map (λi=>l.toArray[i]?)=so.map some) (h1:l.toArray[t1]?=some o1) (h2:l.toArray[t2]?=some o2)
  (hQ:∀c a d v w,Q (.panic c) (put a d v) w->Q (.panic c) a w) (hS:S w.drew)
  (h:∀ops:Array Oper,(∀p∈Wq,((ops[p.1]?).bind λx=>x.dst)=some p.2)->zx1 P ops S (λa'=>wpList P ops (Exit.then (λa1 w1=>S w1/\wpList P ops (Exit.then (λa2 w2=>S w2/\Q .normal a2 w2) Q) [o2] a1 w1) Q) [o1] a' w.drew) so a):(Code.region id l.toArray true).wp P Q a w:=by
 simp only[Qk,Qn,all_eq_true]at hB;obtain⟨hs,hh,r1,r2,r3,hG⟩:=hB;refine wp_region_held (S:=S) hm ?_;have key:=zj8 (P:=P) (Q:=Q) (S:=S) (ops:=l.toArray) (f:=2) (w:=w.drew) hs hQ hS σ so [] a b0 hh ?_
 ·have e:l.toArray.size=2+σ.length:=by simp[aL]
  rw[<-e]at key;simpa [Zo] using key
 refine zg9 (λa' h'=>?_) _ _ (h l.toArray hG);refine wpAnyH_all (rs:=[t1]) (by simpa using r1) (by simp) (λx hx=>?_);simp only[mem_singleton]at hx;subst hx;refine wpOp_mono (λa1 w1 hk=>⟨hk.1,?_⟩) (Uc h1 h')
 have e:(Zo l.toArray.size ([]++σ)).setIfInBounds x true=Zo l.toArray.size (σ++[x]):=by rw[Yq];rfl
 rw[e];refine wpAnyH_all (rs:=[t2]) r2 (by simp) (λy hy=>?_);simp only[mem_singleton]at hy;subst hy;refine wpOp_mono (λa2 w2 a0=>⟨a0.1,?_⟩) (Uc h2 hk.2);have e2:(Zo l.toArray.size (σ++[x])).setIfInBounds y true=Zo l.toArray.size (σ++[x]++[y]):=(Yq _ _ _).symm;rw[e2];exact wpAnyH_done r3 a0.2 0
end
def zzx(P:Program)(ops:Array Oper)(S:World->Prop)(Q:Exit->Act->World->Prop):List (Bool×Oper)->Act->World->Prop
 |[],a,w=>Q .normal a w
 |(true,o)::l,a,w=>∃v,YieldsIf P ops S o v a/\zzx P ops S Q l (a.put o.dst v) w
 |(false,o)::l,a,w=>wpList P ops (Exit.then (λa1 w1=>S w1/\zzx P ops S Q l a1 w1) Q) [o] a w
def zr4(ops:Array Oper):List Nat->List (Bool×Nat)->Bool
 |pre,[]=>decide (ready .any ops (Zo ops.size pre)=[])
 |pre,(true,i)::l=>free .any ops (Zo ops.size pre) i && ((ready .any ops (Zo ops.size pre)).contains i && zr4 ops (pre++[i]) l)
 |pre,(false,i)::l=>decide (ready .any ops (Zo ops.size pre)=[i]) && zr4 ops (pre++[i]) l
section
def yn1{l:List (Bool×Oper)}(hg:o.guard=none)
  (h:∀Wx:Act->Prop,(∀a',zzx P ops S Q l a' w->Wx a')->∃v,(∀w,S w->(execOp a.eval o).run P w=.ok (.value v) w)/\Wx (a.put o.dst v)):zzx P ops S Q ((true,o)::l) a w:=by
 obtain⟨v,h1,h2⟩:=h (λa'=>zzx P ops S Q l a' w) (λ_ h=>h);exact⟨v,.inl ⟨by simp[wanted,hg],h1⟩,h2⟩
def zi8{l:List (Bool×Oper)}(h:wpList P ops (Exit.then (λa1 w1=>S w1/\zzx P ops S Q l a1 w1) Q) [o] a w):zzx P ops S Q ((false,o)::l) a w:=h
def yi6(h:Q .normal a w):zzx P ops S Q [] a w:=h
def zm8{ops:Array Oper}(hs:noSelect ops=true)(hQ:∀c a d v w,Q (.panic c) (put a d v) w->Q (.panic c) a w):
  ∀(st:List (Bool×Nat)) (so:List (Bool×Oper)) (pre:List Nat) (a:Act) (w:World),S w->st.map (λp=>(p.1,ops[p.2]?))=so.map (λp=>(p.1,some p.2))->zr4 ops pre st=true->
  zzx P ops S Q so a w->wpAnyH P .any ops Q S st.length (Zo ops.size pre) a w
 |[],so,pre,a,w,hS,a0,hB,h=>by
  have:so=[]:=by cases so with|nil=>rfl|cons o so=>simp at a0
  subst this;simp only[zr4,Qn]at hB;exact wpAnyH_done hB h 0
 |(true,i)::st,so,pre,a,w,hS,a0,hB,h=>by
  cases so with
  |nil=>simp at a0
  |cons p so=>
   obtain⟨c,o⟩:=p;simp only[map_cons,List.cons.injEq,Prod.mk.injEq]at a0;obtain⟨⟨rfl,ho⟩,a0⟩:=a0;simp only[zr4,Qk]at hB;obtain⟨v,h1,h2⟩:=h;have ih:=zm8 hs hQ st so (pre++[i]) (a.put o.dst v) w hS a0 hB.2.2 h2;rw[Yq]at ih;exact wpAnyH_take ho hs hB.1 hB.2.1 (λc a w h=>hQ c a _ _ w h) h1 hS ih
 |(false,i)::st,so,pre,a,w,hS,a0,hB,h=>by
  cases so with
  |nil=>simp at a0
  |cons p so=>
   obtain⟨c,o⟩:=p;simp only[map_cons,List.cons.injEq,Prod.mk.injEq]at a0;obtain⟨⟨rfl,ho⟩,a0⟩:=a0;simp only[zr4,Qk,Qn]at hB;refine wpAnyH_all hB.1 (by simp) (λx hx=>?_);simp only[mem_singleton]at hx;subst hx;refine wpOp_mono (λa1 w1 hk=>⟨hk.1,?_⟩) (Uc ho h);have ih:=zm8 hs hQ st so (pre++[x]) a1 w1 hk.1 a0 hB.2 hk.2
   rwa [Yq]at ih
def zgy{id:Nat}(S:World->Prop)(st:List (Bool×Nat))(hm:P.follows .mixedOrders=true)
  (hB:(noSelect l.toArray && zr4 l.toArray [] st)=true) (aL:l.length=st.length) (so:List (Bool×Oper)) (a0:st.map (λp=>(p.1,l.toArray[p.2]?))=so.map (λp=>(p.1,some p.2)))
  (hQ:∀c a d v w,Q (.panic c) (put a d v) w->Q (.panic c) a w) (hS:S w.drew) (h:∀ops:Array Oper,zzx P ops S Q so a w.drew):(Code.region id l.toArray true).wp P Q a w:=by
 simp only[Qk]at hB;refine wp_region_held (S:=S) hm ?_;have key:=zm8 (P:=P) hB.1 hQ st so [] a w.drew hS a0 hB.2 (h l.toArray)
 have e:l.toArray.size=st.length:=by simp[aL]
 rw[<-e]at key;simpa [Zo] using key
def Uk{rest:List Oper}{dst:Option Tmp}{op:Op}{ty:TypeId}{pos:String}{after:Array Edge}{guard:Option (Nat×Bool)}
  (hw:wanted {dst:=dst,op:=op,type:=ty,pos:=pos,after:=after,guard:=guard} (yielded ops a.tmps)=true) (h:wpList P ops Q ({dst:=dst,op:=op,type:=ty,pos:=pos,after:=after,guard:=none}::rest) a w):
  wpList P ops Q ({dst:=dst,op:=op,type:=ty,pos:=pos,after:=after,guard:=guard}::rest) a w:=by
 unfold wpList at h⊢;rw[G hw]
 have hn:wanted {dst:=dst,op:=op,type:=ty,pos:=pos,after:=after,guard:=none} (yielded ops a.tmps)=true:=by simp[wanted]
 rw[G hn]at h;exact h
end
def zo7(ops:Array Oper)(k i:Nat):Bool:=match ops[k]? with
 |some o=>o.after.any λe=>binds .any e && decide (e.on=i)
 |none=>true
def Jm(P:Program)(ops:Array Oper)(Q:Exit->Act->World->Prop)(S:World->Prop)(late:List Nat):Nat->Array Bool->Act->World->Prop
 |0,listed,a,w=>ready .any ops listed=[]/\Q .normal a w
 |fuel+1,listed,a,w=>
  (ready .any ops listed=[]->Q .normal a w)/\
  ∀i∈ready .any ops listed,wpOp P ops Q i (λa' w'=>(i ∉ late->S w')/\Jm P ops Q S late fuel (listed.setIfInBounds i true) a' w') a w
section
variable{late:List Nat}
def zw4:∀(fuel:Nat) (listed:Array Bool) (a:Act) (w:World),Jm P ops Q S late fuel listed a w->wpAny P .any ops Q fuel listed a w
 |0,_,_,_,h=>h
 |fuel+1,_,_,_,h=>⟨h.1,λi hi=>wpOp_mono (λa' w' h'=>zw4 fuel _ a' w' h'.2) (h.2 i hi)⟩
def zr5{i:Nat}{oi:Oper}(hi:ops[i]?=some oi)(c0:∀(j:Nat) (o:Oper) cs b,ops[j]?=some o->o.op≠ .select cs b)
  (hQ:∀c a w,Q (.panic c) (a.put oi.dst v) w->Q (.panic c) a w) (d0:∀k∈late,zo7 ops k i=true):
  ∀(fuel:Nat) (listed:Array Bool) (a:Act) (w:World),
   (∀j oj,ops[j]?=some oj->j≠i->listed.getD j true=false->(∀e∈oj.after,binds .any e=true->e.on≠i)->oi.apart ops oj=true)->
   i∈ready .any ops listed->YieldsIf P ops S oi v a->S w->
   Jm P ops Q S late fuel (listed.setIfInBounds i true) (a.put oi.dst v) w->Jm P ops Q S late (fuel+1) listed a w:=by
 intro fuel
 induction fuel with
 |zero=>
  intro listed a w _ hr hy hS H;refine⟨λh=>(by rw[h]at hr;cases hr),λj hj=>?_⟩
  by_cases a0:j=i
  ·subst a0;exact hy.wpOp hi hS ⟨λ_=>hS,H⟩
  have:=ready_mono hj a0;rw[H.1]at this
  cases this
 |succ fuel ih=>
  intro listed a w b0 hr hy hS H;refine⟨λh=>(by rw[h]at hr;cases hr),λj hj=>?_⟩
  by_cases a0:j=i
  ·subst a0;exact hy.wpOp hi hS ⟨λ_=>hS,H⟩
  have h1:=H.2 j (ready_mono hj a0);obtain⟨e0,oj,g0,aT⟩:=mem_ready.1 hj
  have f0:∀e∈oj.after,binds .any e=true->e.on≠i:=λe he hb l0=>by
   have h1:=aT e he hb;have h0:=(mem_ready.1 hr).1;rw[l0]at h1;rcases Nat.lt_or_ge i listed.size with h'|h'
   ·simp[h']at h0 h1;rw[h0]at h1;cases h1
   simp[Array.getElem?_eq_none h']at h1
  have i0:j ∉ late:=λhl=>by
   have hw:=d0 j hl;simp only[zo7,g0,Array.any_eq_true']at hw;obtain⟨e,he,hb⟩:=hw;simp only[Qk,Qn]at hb;exact f0 e he hb.1 hb.2
  have h2:=wpOp_putIf g0 (b0 j oj g0 a0 e0 f0) (λcs b=>c0 i oi cs b hi) (λcs b=>c0 j oj cs b g0) hQ hy h1
  have hfree':∀k ok,ops[k]?=some ok->k≠i->(listed.setIfInBounds j true).getD k true=false->
    (∀e∈ok.after,binds .any e=true->e.on≠i)->oi.apart ops ok=true:=λk ok hk m0 j0 dt=>by
   refine b0 k ok hk m0 ?_ dt
   by_cases k0:j=k
   ·subst k0;exact e0
   rw[getD_set_ne true k0]at j0;exact j0
  refine wpOp_mono (λa' w' h3=>⟨λ_=>h3.2.1 i0,ih (listed.setIfInBounds j true) a' w' hfree' (ready_mono hr (Ne.symm a0)) h3.1 (h3.2.1 i0) ?_⟩) h2;rw[Array.setIfInBounds_comm _ _ a0];exact h3.2.2
def Yo(P:Program)(ops:Array Oper)(S:World->Prop)(Q:Exit->Act->World->Prop):List (Nat×Oper)->Act->World->Prop
 |[],a,w=>Q .normal a w
 |(0,o)::l,a,w=>∃v,YieldsIf P ops S o v a/\Yo P ops S Q l (a.put o.dst v) w
 |(1,o)::l,a,w=>wpList P ops (Exit.then (λa1 w1=>S w1/\Yo P ops S Q l a1 w1) Q) [o] a w
 |(_+2,o)::l,a,w=>wpList P ops (Exit.then (λa1 w1=>Yo P ops S Q l a1 w1) Q) [o] a w
def zw5(ops:Array Oper)(late:List Nat):List Nat->List (Nat×Nat)->Bool
 |pre,[]=>decide (ready .any ops (Zo ops.size pre)=[])
 |pre,(0,i)::l=>free .any ops (Zo ops.size pre) i && ((ready .any ops (Zo ops.size pre)).contains i && (late.all (λk=>zo7 ops k i) && (decide (∀k∈late,k ∉ pre) && zw5 ops late (pre++[i]) l)))
 |pre,(1,i)::l=>decide (ready .any ops (Zo ops.size pre)=[i]) && zw5 ops late (pre++[i]) l
 |pre,(_+2,i)::l=>decide (ready .any ops (Zo ops.size pre)=[i]) && (late.contains i && (l.all (λp=>decide (2<=p.1)) && zw5 ops late (pre++[i]) l))
def Uo{l:List (Nat×Oper)}(hg:o.guard=none)
  (h:∀Wx:Act->Prop,(∀a',Yo P ops S Q l a' w->Wx a')->∃v,(∀w,S w->(execOp a.eval o).run P w=.ok (.value v) w)/\Wx (a.put o.dst v)):Yo P ops S Q ((0,o)::l) a w:=by
 obtain⟨v,h1,h2⟩:=h (λa'=>Yo P ops S Q l a' w) (λ_ h=>h);exact⟨v,.inl ⟨by simp[wanted,hg],h1⟩,h2⟩
def late_go{l:List (Nat×Oper)}(hg:o.guard=some (j,b))(hy:yielded ops a.tmps j=some b)
  (h:∀Wx:Act->Prop,(∀a',Yo P ops S Q l a' w->Wx a')->∃v,(∀w,S w->(execOp a.eval o).run P w=.ok (.value v) w)/\Wx (a.put o.dst v)):Yo P ops S Q ((0,o)::l) a w:=by
 obtain⟨v,h1,h2⟩:=h (λa'=>Yo P ops S Q l a' w) (λ_ h=>h);exact⟨v,.inl ⟨by simp[wanted,hg,hy],h1⟩,h2⟩
def Un{l:List (Nat×Oper)}{c:Bool}(hg:o.guard=some (j,b))(hy:yielded ops a.tmps j=some c)(a0:(some c==some b)=false)
  (h:Yo P ops S Q l (a.put o.dst undef) w):Yo P ops S Q ((0,o)::l) a w:=⟨undef,.inr ⟨by simpa [wanted,hg,hy] using a0,rfl⟩,h⟩
def Zm{l:List (Nat×Oper)}(h:wpList P ops (Exit.then (λa1 w1=>S w1/\Yo P ops S Q l a1 w1) Q) [o] a w):Yo P ops S Q ((1,o)::l) a w:=h
def Xx{l:List (Nat×Oper)}(h:wpList P ops (Exit.then (λa1 w1=>Yo P ops S Q l a1 w1) Q) [o] a w):Yo P ops S Q ((2,o)::l) a w:=h
def Zs(h:Q .normal a w):Yo P ops S Q [] a w:=h
def zo8(hs:noSelect ops=true)(hQ:∀c a d v w,Q (.panic c) (put a d v) w->Q (.panic c) a w):
  ∀(st:List (Nat×Nat)) (so:List (Nat×Oper)) (pre:List Nat) (a:Act) (w:World),((∃p∈st,p.1<2)->S w)->st.map (λp=>(p.1,ops[p.2]?))=so.map (λp=>(p.1,some p.2))->zw5 ops late pre st=true->
  Yo P ops S Q so a w->Jm P ops Q S late st.length (Zo ops.size pre) a w
 |[],so,pre,a,w,hS,a0,hB,h=>by
  have:so=[]:=by cases so with|nil=>rfl|cons o so=>simp at a0
  subst this;simp only[zw5,Qn]at hB;exact⟨hB,h⟩
 |(0,i)::st,so,pre,a,w,hS,a0,hB,h=>by
  cases so with
  |nil=>simp at a0
  |cons p so=>
   obtain⟨c,o⟩:=p;simp only[map_cons,List.cons.injEq,Prod.mk.injEq]at a0;obtain⟨⟨rfl,ho⟩,a0⟩:=a0;simp only[zw5,Qk,all_eq_true]at hB;obtain⟨v,h1,h2⟩:=h;have b0:=hS ⟨(0,i),by simp,by simp⟩;have ih:=zo8 hs hQ st so (pre++[i]) (a.put o.dst v) w (λ_=>b0) a0 hB.2.2.2.2 h2;rw[Yq]at ih;exact zr5 ho (noSelect_spec hs) (λc a w h=>hQ c a _ _ w h) hB.2.2.1 st.length _ a w (free_spec ho hB.1) (by simpa using hB.2.1) h1 b0 ih
 |(1,i)::st,so,pre,a,w,hS,a0,hB,h=>by
  cases so with
  |nil=>simp at a0
  |cons p so=>
   obtain⟨c,o⟩:=p;simp only[map_cons,List.cons.injEq,Prod.mk.injEq]at a0;obtain⟨⟨rfl,ho⟩,a0⟩:=a0;simp only[zw5,Qk,Qn]at hB;refine⟨λh0=>(by rw[hB.1]at h0;cases h0),λx hx=>?_⟩;rw[hB.1]at hx;simp only[mem_singleton]at hx;subst hx;refine wpOp_mono (λa1 w1 hk=>⟨λ_=>hk.1,?_⟩) (Uc ho h);have ih:=zo8 hs hQ st so (pre++[x]) a1 w1 (λ_=>hk.1) a0 hB.2 hk.2
   rwa [Yq]at ih
 |(k+2,i)::st,so,pre,a,w,hS,a0,hB,h=>by
  cases so with
  |nil=>simp at a0
  |cons p so=>
   obtain⟨c,o⟩:=p;simp only[map_cons,List.cons.injEq,Prod.mk.injEq]at a0;obtain⟨⟨rfl,ho⟩,a0⟩:=a0;simp only[zw5,Qk,Qn,all_eq_true]at hB;refine⟨λh0=>(by rw[hB.1]at h0;cases h0),λx hx=>?_⟩;rw[hB.1]at hx;simp only[mem_singleton]at hx;subst hx;refine wpOp_mono (λa1 w1 hk=>⟨λhnl=>absurd (by simpa using hB.2.1) hnl,?_⟩) (Uc ho h);have ih:=zo8 hs hQ st so (pre++[x]) a1 w1 (λ⟨p,hp,c0⟩=>by have:=hB.2.2.1 p hp;omega) a0 hB.2.2.2 hk
   rwa [Yq]at ih
def zx2{id:Nat}(S:World->Prop)(late:List Nat)(st:List (Nat×Nat))(Wq:List (Nat×Nat))(hm:P.follows .mixedOrders=true)
  (hB:(noSelect l.toArray && (zw5 l.toArray late [] st && Wq.all (λp=>decide (((l.toArray[p.1]?).bind λx=>x.dst)=some p.2))))=true) (aL:l.length=st.length) (so:List (Nat×Oper)) (a0:st.map (λp=>(p.1,l.toArray[p.2]?))=so.map (λp=>(p.1,some p.2)))
  (hQ:∀c a d v w,Q (.panic c) (put a d v) w->Q (.panic c) a w) (hS:S w.drew) (h:∀ops:Array Oper,(∀p∈Wq,((ops[p.1]?).bind λx=>x.dst)=some p.2)->Yo P ops S Q so a w.drew):(Code.region id l.toArray true).wp P Q a w:=by
 simp only[Qk,all_eq_true,Qn]at hB;have key:=zo8 (P:=P) (Q:=Q) (S:=S) (late:=late) hB.1 hQ st so [] a w.drew (λ_=>hS) a0 hB.2.1 (h l.toArray hB.2.2)
 have e:l.toArray.size=st.length:=by simp[aL]
 refine wp_region_any hm (zw4 (S:=S) (late:=late) _ _ _ _ ?_);rw[<-e]at key;simpa [Zo] using key
end
def lateK(W late:List Nat)(i:Nat):Nat:=if late.contains i then 2 else if W.contains i then 1 else 0
def zgx(W late:List Nat):Nat->List Oper->List (Nat×Oper)
 |_,[]=>[]
 |i,o::l=>(lateK W late i,o)::zgx W late (i+1) l
def zq1(W late:List Nat):Nat->Nat->List (Nat×Nat)
 |_,0=>[]
 |i,n+1=>(lateK W late i,i)::zq1 W late (i+1) n
def yxz(l:List Oper):List (Nat×Nat)->List (Nat×Oper)
 |[]=>[]
 |p::st=>match l[p.2]? with
  |some o=>(p.1,o)::yxz l st
  |none=>[]
def GsP(ops:Array Oper):List (Nat×Nat)->Prop
 |[]=>True
 |(i,d)::Wq=>((ops[i]?).bind λx=>x.dst)=some d/\GsP ops Wq
def GsP.of{ops:Array Oper}:∀{Wq:List (Nat×Nat)},(∀p∈Wq,((ops[p.1]?).bind λx=>x.dst)=some p.2)->GsP ops Wq
 |[],_=>trivial
 |(i,d)::Wq,h=>⟨h (i,d) (by simp),GsP.of λp hp=>h p (by simp[hp])⟩
section
def zb8(W late:List Nat):∀n i,(zq1 W late i n).length=n
 |0,_=>rfl
 |n+1,i=>by simp[zq1,zb8 W late n]
def zb9(W late:List Nat)(Wz:Array Oper):∀(l:List Oper) (i:Nat),(∀j,j<l.length->l[j]?=Wz[i+j]?)->(zq1 W late i l.length).map (λp=>(p.1,Wz[p.2]?))=(zgx W late i l).map (λp=>(p.1,some p.2))
 |[],_,_=>rfl
 |o::l,i,h=>by
  have h0:=h 0 (by simp);simp at h0;simp only[length_cons,zq1,zgx,map_cons];rw[<-h0,zb9 W late Wz l (i+1) (λj hj=>by have:=h (j+1) (by simp;omega);simpa [Nat.add_assoc,Nat.add_comm 1 j] using this)]
def putQ(hQ:∀c (a:Act) t w,Q (.panic c) ⟨t,a.defers⟩ w->Q (.panic c) a w):∀c a d v w,Q (.panic c) (put a d v) w->Q (.panic c) a w:=λc a d v w h=>by
 cases d with
 |none=>exact h
 |some d=>exact hQ c a _ w h
def Zd{id:Nat}(S:World->Prop)(W late:List Nat)(Wq:List (Nat×Nat))(hS:S w.drew)(hB:(P.follows .mixedOrders && (noSelect l.toArray && (zw5 l.toArray late [] (zq1 W late 0 l.length) && Wq.all (λp=>decide (((l.toArray[p.1]?).bind λx=>x.dst)=some p.2)))))=true)(hQ:∀c (a:Act) t w,Q (.panic c) ⟨t,a.defers⟩ w->Q (.panic c) a w)(h:∀ops:Array Oper,GsP ops Wq->Yo P ops S Q (zgx W late 0 l) a w.drew):(Code.region id l.toArray true).wp P Q a w:=
 zx2 S late (zq1 W late 0 l.length) Wq (Bool.and_eq_true_iff.1 hB).1 (Bool.and_eq_true_iff.1 hB).2 (zb8 W late _ _).symm _ (zb9 W late l.toArray l 0 (λj hj=>by simp)) (putQ hQ) hS (λops hG=>h ops (GsP.of hG))
def Zk{id:Nat}(HS:Y (∀W,R W->S W))(hr:R w.drew)(W late:List Nat)(Wq:List (Nat×Nat))(hB:(P.follows .mixedOrders && (noSelect l.toArray && (zw5 l.toArray late [] (zq1 W late 0 l.length) && Wq.all (λp=>decide (((l.toArray[p.1]?).bind λx=>x.dst)=some p.2)))))=true)(hQ:∀c (a:Act) t w,Q (.panic c) ⟨t,a.defers⟩ w->Q (.panic c) a w)(h:∀ops:Array Oper,GsP ops Wq->Yo P ops S Q (zgx W late 0 l) a w.drew):(Code.region id l.toArray true).wp P Q a w:=
 Zd S W late Wq (HS.out _ hr) hB hQ h
def zbz(l:List Oper):∀(st:List (Nat×Nat)),(st.all λp=>decide (p.2<l.length))=true->st.map (λp=>(p.1,l.toArray[p.2]?))=(yxz l st).map (λp=>(p.1,some p.2))
 |[],_=>rfl
 |p::st,h=>by
  simp only[all_cons,Bool.and_eq_true,decide_eq_true_eq]at h;have e:l[p.2]?=some l[p.2]:=getElem?_eq_getElem h.1;simp only[yxz,e,map_cons,zbz l st h.2];simp[e]
def Vq{id:Nat}(HS:Y (∀W,R W->S W))(hr:R w.drew)(st:List (Nat×Nat))(late:List Nat)(Wq:List (Nat×Nat))(hB:((P.follows .mixedOrders && (noSelect l.toArray && (zw5 l.toArray late [] st && Wq.all (λp=>decide (((l.toArray[p.1]?).bind λx=>x.dst)=some p.2))))) && (decide (l.length=st.length) && st.all λp=>decide (p.2<l.length)))=true)(hQ:∀c (a:Act) t w,Q (.panic c) ⟨t,a.defers⟩ w->Q (.panic c) a w)(h:∀ops:Array Oper,GsP ops Wq->Yo P ops S Q (yxz l st) a w.drew):(Code.region id l.toArray true).wp P Q a w:=by
 obtain⟨h1,h2⟩:=Bool.and_eq_true_iff.1 hB;obtain⟨h3,h4⟩:=Bool.and_eq_true_iff.1 h2;exact zx2 S late st Wq (Bool.and_eq_true_iff.1 h1).1 (Bool.and_eq_true_iff.1 h1).2 (of_decide_eq_true h3) _ (zbz l st h4) (putQ hQ) (HS.out _ hr) (λops hG=>h ops (GsP.of hG))
def Zv{l:List (Nat×Oper)}{a':Act}(hw:wanted o (yielded ops a.tmps)=true)(h1:∀w,S w->(execOp a.eval o).run P w=.ok (.value v) w)(h2:a.put o.dst v=a')(h:Yo P ops S Q l a' w):Yo P ops S Q ((0,o)::l) a w:=by subst h2;exact⟨v,.inl ⟨hw,h1⟩,h⟩
end
end Go.Proofs.YtgmbnnpnefniiaaGreatDoor
