import Derived.Test.YtgmbnnpnefniiaaGreatDoorM18
set_option linter.all false
set_option maxRecDepth 100000
set_option maxHeartbeats 40000000
namespace Go.Proofs.YtgmbnnpnefniiaaGreatDoor
open Go.RowKit Go.Proofs.Tryz List World Region Value Act Fl
variable{r:Fl.RS}{t lo base Rb Pb b:Nat}{f:Fl.Frame}{fs:List Fl.Frame}{w0 w' w W:World}{P:Program}{ops:Array Oper}{Q:Exit->Act->World->Prop}{a:Act}{rest:List Oper}
def Xy(lo base Rb Pb:Nat)(w0:World)(t:Nat)(aX:Nat×Fl.RS)(e:Ending)(w':World):Prop:=
 e=.returned (I aX.1)/\(aX.1=0->∃m' fl',Zu lo base Rb Pb w0 w' m'/\Zj aX.2 fl' (t+1) m'/\Xi fl' aX.2/\bE fl'=aX.2.am)/\(aX.1≠0->Below lo w0 w')
def zz9(f:Fl.Frame)(fs:List Fl.Frame):Vy (f::fs)=Vy fs++[.int .u8 (zz8 f:Nat)]:=by simp[Vy]
def yzz(fs:List Fl.Frame):(Vy fs).length=fs.length:=by simp[Vy]
def zr2(fl:List FlS)(f:FlS):Jn (fl++[f])=Jn fl++Zp f:=by simp[Jn]
section
variable{r':Fl.RS}{fl fl':List FlS}{t':Nat}{m m':Yn}
def Zj.move(h:Zj r fl t m)(e1:r'.au=r.au)(e2:r'.cells=r.cells)(e3:r'.ai=r.ai)(e4:r'.ap=r.ap)(e5:r'.aE=r.aE)(e6:r'.aI=r.aI)(e7:r'.aW=r.aW)(e8:r'.aV=r.aV)(e9:r'.ag=r.ag)
  (hv:∀i,i≠8->i≠10->m'.n i=m.n i/\m'.xs i=m.xs i) (r8:m'.n 8=r'.fr.length/\m'.xs 8=Vy r'.fr) (fX:m'.n 10=fl'.length/\m'.xs 10=Jn fl') (hb:m'.ag=m.ag/\∀n t,zew m n t->zew m' n t) (st:m'.am=r'.am) (sm:r'.am<=16) (fr:r'.fr.length<=3) (ht:t<=t') (ft:fl'.length<=t'):Zj r' fl' t' m':=by
 have g:∀i,i≠8->i≠10->∀{k:Nat} {xs:Vs},m.n i=k/\m.xs i=xs->m'.n i=k/\m'.xs i=xs:=λi h1 h2 k xs hh=>⟨(hv i h1 h2).1.trans hh.1,(hv i h1 h2).2.trans hh.2⟩;exact{r1:=by rw[e1];exact g 1 (by decide) (by decide) h.r1,r2:=by rw[e2];exact g 2 (by decide) (by decide) h.r2,r3:=by rw[e3];exact g 3 (by decide) (by decide) h.r3,r4:=by rw[e4];exact g 4 (by decide) (by decide) h.r4,r5:=by rw[e5];exact g 5 (by decide) (by decide) h.r5,r6:=by rw[e6];exact g 6 (by decide) (by decide) h.r6,r8:=r8,fX:=fX,iS:=by rw[e7];exact g 12 (by decide) (by decide) h.iS,jx:=by rw[e8];exact g 13 (by decide) (by decide) h.jx,bg:=by rw[hb.1,e9];exact h.bg,st:=st,nm:=by rw[e1,e2,e3,e4];exact h.nm,lv:=by rw[e1];exact h.lv,ce:=by rw[e2];exact h.ce,ch:=by rw[e3];exact h.ch,lo:=by rw[e4];exact h.lo,sm:=sm,fr:=fr,lw:=by rw[e5];have:=h.lw;omega,ft:=ft,pr:=by rw[e5,e6];exact h.pr,bw:=by rw[e1,e5,e6];exact h.bw,cl:=by rw[e7,e2];exact h.cl,hl:=by rw[e8,e3];exact h.hl,lt:=λhh=>by unfold Fl.RS.tab;rw[e1,e5,e6];exact hb.2 _ _ (h.lt (e9.symm.trans hh))}
def Zj.bF(h:Zj r fl t m){f:Fl.Frame}{fs:List Fl.Frame}(hf:r.fr=f::fs)(hk:f.kind=5)(v8 v':Value):Zj r.bF (fl++[Xd]) (t+1) ((zyw m v8 (m.n 8) (Vy fs++[.int .u8 101])).app 10 v' (Zp Xd)):=by
 have e:r.bF={r with fr:={f with cU:=true}::fs}:=by unfold Fl.RS.bF;rw[hf]
 have h8:=h.r8;rw[hf]at h8;have b0:=h.ft;have a0:=h.fr;rw[hf]at a0;rw[e];refine h.move rfl rfl rfl rfl rfl rfl rfl rfl rfl (λi h1 h2=>?_) ⟨?_,?_⟩ ⟨?_,?_⟩ ⟨rfl,λ_ _ h=>h⟩ h.st h.sm a0 (by omega) (by simp;omega)
 ·show (if i=10 then _ else if i=8 then _ else m.n i)=_/\(if i=10 then _ else if i=8 then _ else m.xs i)=_
  simp[h1,h2]
 ·exact h8.1
 ·show Vy fs++[.int .u8 101]=Vy ({f with cU:=true}::fs)
  rw[zz9];simp[zz8,hk]
 ·show m.n 10+1=_
  rw[h.fX.1];simp
 show m.xs 10++_=_;rw[h.fX.2,zr2]
def ends_fr(hf:r.fr=f::fs):r.bG.fr.length=fs.length/\Vy r.bG.fr=Vy fs:=by
 unfold Fl.RS.bG;rw[hf]
 cases fs with
 |nil=>exact⟨rfl,rfl⟩
 |cons g gs=>
  refine⟨rfl,?_⟩;show Vy ((if g.cU then _ else _)::gs)=_;rw[zz9,zz9]
  cases hg:g.cU<;>simp[zz8,hg]
def yzy(hf:r.fr=f::fs):r.bG.au=r.au/\r.bG.cells=r.cells/\r.bG.ai=r.ai/\r.bG.ap=r.ap/\r.bG.aE=r.aE/\r.bG.aI=r.aI/\r.bG.aW=r.aW/\r.bG.aV=r.aV/\r.bG.ag=r.ag/\r.bG.am=r.am:=by
 unfold Fl.RS.bG;rw[hf]
 cases fs<;>exact⟨rfl,rfl,rfl,rfl,rfl,rfl,rfl,rfl,rfl,rfl⟩
def Zj.bG(h:Zj r fl t m){f:Fl.Frame}{fs:List Fl.Frame}(hf:r.fr=f::fs)(v8 v':Value):Zj r.bG (fl++[Xq]) (t+1) ((zyw m v8 fs.length (Vy fs)).app 10 v' (Zp Xq)):=by
 obtain⟨e1,e2,e3,e4,e5,e6,e7,e8,e9,e10⟩:=yzy hf;obtain⟨f1,f2⟩:=ends_fr hf;have b0:=h.ft;have a0:=h.fr;rw[hf,length_cons]at a0;refine h.move e1 e2 e3 e4 e5 e6 e7 e8 e9 (λi h1 h2=>?_) ⟨f1.symm,f2.symm⟩ ⟨?_,?_⟩ ⟨rfl,λ_ _ h=>h⟩ (by rw[e10];exact h.st) (by rw[e10];exact h.sm) (by rw[f1];omega) (by omega) (by simp;omega)
 ·show (if i=10 then _ else if i=8 then _ else m.n i)=_/\(if i=10 then _ else if i=8 then _ else m.xs i)=_
  simp[h1,h2]
 ·show m.n 10+1=_
  rw[h.fX.1];simp
 show m.xs 10++_=_;rw[h.fX.2,zr2]
def ys6(s:aa):(r.put s).au=r.au/\(r.put s).cells=r.cells/\(r.put s).ai=r.ai/\(r.put s).ap=r.ap/\(r.put s).aE=r.aE/\(r.put s).aI=r.aI/\(r.put s).aW=r.aW/\(r.put s).aV=r.aV/\(r.put s).ag=r.ag/\(r.put s).am=r.am+1/\(r.put s).fr.length=r.fr.length/\Vy (r.put s).fr=Vy r.fr:=by
 unfold Fl.RS.put
 cases hf:r.fr with
 |nil=>exact⟨rfl,rfl,rfl,rfl,rfl,rfl,rfl,rfl,rfl,rfl,rfl,rfl⟩
 |cons g gs=>
  refine⟨rfl,rfl,rfl,rfl,rfl,rfl,rfl,rfl,rfl,rfl,rfl,?_⟩;show Vy ((if g.cU then _ else _)::gs)=_;rw[zz9,zz9]
  cases hg:g.cU<;>simp[zz8,hg]
def Zj.put(h:Zj r fl t m)(s:aa)(f:FlS)(hs:r.am<16)(v':Value):Zj (r.put s) (fl++[f]) (t+1) {m.app 10 v' (Zp f) with am:=r.am+1}:=by
 obtain⟨e1,e2,e3,e4,e5,e6,e7,e8,e9,e10,f1,f2⟩:=ys6 (r:=r) s;have a0:=h.ft;have b0:=h.fr;refine h.move e1 e2 e3 e4 e5 e6 e7 e8 e9 (λi h1 h2=>?_) ⟨?_,?_⟩ ⟨?_,?_⟩ ⟨rfl,λ_ _ h=>h⟩ (by rw[e10]) (by rw[e10];omega) (by rw[f1];omega) (by omega) (by simp;omega)
 ·show (if i=10 then _ else m.n i)=_/\(if i=10 then _ else m.xs i)=_
  simp[h2]
 ·rw[f1];exact h.r8.1
 ·rw[f2];exact h.r8.2
 ·show m.n 10+1=_
  rw[h.fX.1];simp
 show m.xs 10++_=_;rw[h.fX.2,zr2]
def Zj.opens(h:Zj r fl t m)(kind aq:Nat)(e:dZ)(hs:r.am<16)(hl:r.fr.length<3)(v' v8:Value)(c:Nat)(hc:c=if kind=6 then 119 else 105):Zj (r.opens kind aq e) (fl++[⟨0,⟨kind,0,aq,e,[],[]⟩⟩]) (t+1) ({m.app 10 v' (Zp ⟨0,⟨kind,0,aq,e,[],[]⟩⟩) with am:=r.am+1}.app 8 v8 [.int .u8 (c:Nat)]):=by
 have a0:=h.ft;refine h.move rfl rfl rfl rfl rfl rfl rfl rfl rfl (λi h1 h2=>?_) ⟨?_,?_⟩ ⟨?_,?_⟩ ⟨rfl,λ_ _ h=>h⟩ rfl (by show r.am+1<=16;omega) (by show (_::r.fr).length<=3;simp;omega) (by omega) (by simp;omega)
 ·show (if i=8 then _ else if i=10 then _ else m.n i)=_/\(if i=8 then _ else if i=10 then _ else m.xs i)=_
  simp[h1,h2]
 ·show m.n 8+1=(_::r.fr).length
  rw[h.r8.1];simp
 ·show m.xs 8++_=Vy (_::r.fr)
  rw[h.r8.2,zz9,hc];simp[zz8]
 ·show m.n 10+1=_
  rw[h.fX.1];simp
 show m.xs 10++_=_;rw[h.fX.2,zr2]
def gP(ws:List L):(r.head ws).2.bK=r.bK/\(r.head ws).2.fr=r.fr/\(r.head ws).2.am=r.am:=by
 unfold Fl.RS.head
 repeat' split
 all_goals exact⟨rfl,rfl,rfl⟩
def Xi.same(h:Xi fl r)(e1:r'.bK=r.bK)(e2:r'.fr=r.fr):Xi fl r':=by
 obtain⟨a,b,h1,h2,h3⟩:=h;exact⟨a,b,h1,by rw[e1];exact h2,by rw[e2];exact h3⟩
def Yk.row{ws:List L}{e:Ending}(hf:Xi fl r)(hc:bE fl=r.am)(h:Yk lo base Rb Pb w0 fl t (r.head ws) e w'):Xy lo base Rb Pb w0 t (r.head ws) e w':=by
 obtain⟨h1,h2,h3⟩:=h;obtain⟨s1,s2,s3⟩:=gP (r:=r) ws;refine⟨h1,λh0=>?_,h3⟩;obtain⟨m',hm,hr⟩:=h2 h0;exact⟨m',fl,hm,hr,hf.same s1 s2,by rw[s3];exact hc⟩
end
section
variable   {m : Yn}  {fl : List FlS} 
def row_bad (h : Zu lo base Rb Pb w0 w m) (hr : Zj r fl t m) (b off n cap : Nat) (at_ : Int) (x0 : ByteArray) (hn : 1 <= n /\ n <= maxLen) (c0 : w.cell? ⟨b, off, none⟩ = some (.string x0)) (hh : cH x0.toList = r.ag) :
  E 13 #[.pointer (some ⟨Rb, 0, none⟩), A (some ⟨b, off, none⟩) n cap, I at_] w (Xy lo base Rb Pb w0 t (3, r)) := by
 have x7 : w.cell? ⟨Rb, 7, none⟩ = some (.bool r.ag) := by rw [<- hr.bg]; exact h.cR.c 7 (by omega)
 have a0 : (0 : Int) < (n : Int) := by omega
 have HE : Y (Xy lo base Rb Pb w0 t (3, r) (.returned (I 3)) w) := ⟨rfl, λh => (by cases h), λ_ => h.bel⟩
 rw [<- hh] at x7
 clear h hr hh
 rcases di x0.toList with h | h | h | h | h | h | h | h | h | h | h | h
 all_goals
  obtain ⟨k1, k2, k3, k4, k5, k6, k7, k8, k9, k10, k11⟩ := h
  simp only [cH, ct, bY, cV, bz, cJ, k1, k2, k3, k4, k5, Bool.or_true, Bool.true_or, Bool.or_false, Bool.false_or] at x7
  go_enter func13, ntmps13
  go_wp2
  go_ret
  exact HE
def ya1 (h : Zu lo base Rb Pb w0 w m) (hr : Zj r fl t m) (hf : Xi fl r) (hc : bE fl = r.am) (b off n cap : Nat) (at_ : Int) (x0 : ByteArray) (ws : List L) (hn : 1 <= n /\ n <= maxLen) (c0 : w.cell? ⟨b, off, none⟩ = some (.string x0)) (hh : cH x0.toList = true) (hb : r.ag = false)
    (b0 : E 31 #[.pointer (some ⟨Rb, 0, none⟩), A (some ⟨b, off, none⟩) n cap] w (Yk lo base Rb Pb w0 fl t (r.head ws))) :
    E 13 #[.pointer (some ⟨Rb, 0, none⟩), A (some ⟨b, off, none⟩) n cap, I at_] w (Xy lo base Rb Pb w0 t (r.head ws)) := by
  have x7 : w.cell? ⟨Rb, 7, none⟩ = some (.bool false) := by rw [<- hb, <- hr.bg]; exact h.cR.c 7 (by omega)
  have e0 : (0 : Int) < (n : Int) := by omega
  have d0 : Y (E 31 #[.pointer (some ⟨Rb, 0, none⟩), A (some ⟨b, off, none⟩) n cap] w (λe w' => (∃ v, e = .returned (I v)) /\ Xy lo base Rb Pb w0 t (r.head ws) e w')) := by
    refine b0.mono ?_
    intro e w' he
    exact ⟨⟨_, he.1⟩, he.row hf hc⟩
  obtain ⟨aX, a0⟩ := J (r.head ws)
  rw [<- a0] at d0 ⊢
  clear h hr hb hf hc b0 a0
  rcases di x0.toList with h | h | h | h | h | h | h | h | h | h | h | h
  all_goals
    obtain ⟨k1, k2, k3, k4, k5, k6, k7, k8, k9, k10, k11⟩ := h
    simp only [cH, ct, bY, cV, bz, cJ, k1, k2, k3, k4, k5, Bool.or_true, Bool.true_or, Bool.or_false, Bool.false_or] at hh
    first
    | (exact absurd hh (by decide))
    | (clear hh
       go_enter func13, ntmps13
       go_wp2_with fail
       refine d0.mono ?_
       rintro e w1 ⟨⟨v, rfl⟩, he⟩
       have HE : Y _ := he
       clear he
       go_wp2
       go_ret
       exact HE)
end
def yqw(m:Nat):∀(l:List Nat),(Zo m l).size=m:=by
 have key:∀(l:List Nat) (d:Array Bool),(l.foldl (λd i=>d.setIfInBounds i true) d).size=d.size:=by
  intro l
  induction l with
  |nil=>intro d;rfl
  |cons i l ih=>intro d;rw[foldl_cons,ih];simp
 intro l;unfold Zo;rw[key];simp
def zo5(ops:Array Oper)(late:List Nat):List Nat->List (Nat×Nat)->Bool
 |_,[]=>true
 |pre,(0,i)::l=>free .any ops (Zo ops.size pre) i && ((ready .any ops (Zo ops.size pre)).contains i && (late.all (λk=>zo7 ops k i) && zo5 ops late (pre++[i]) l))
 |pre,(_+1,i)::l=>decide (ready .any ops (Zo ops.size pre)=[i]) && zo5 ops late (pre++[i]) l
section
variable{S S':World->Prop}{Qu:Act->World->Prop}{late:List Nat}
def zm4:∀(fuel:Nat) (listed:Array Bool) (a:Act) (w:World),(∀i,listed.getD i true=false->i∈late)->Jm P ops Q S' [] fuel listed a w->Jm P ops Q S late fuel listed a w
 |0,_,_,_,_,h=>h
 |fuel+1,listed,a,w,hl,h=>⟨h.1,λi hi=>wpOp_mono (λa' w' h'=>⟨λhn=>absurd (hl i (mem_ready.1 hi).1) hn,zm4 fuel _ a' w' (λk hk=>hl k (by
   by_cases a0:i=k
   ·subst a0;exact(mem_ready.1 hi).1
   rw[getD_set_ne true a0]at hk;exact hk)) h'.2⟩) (h.2 i hi)⟩
def zk9(f:Nat)(hs:noSelect ops=true)(hQ:∀c a d v w,Q (.panic c) (put a d v) w->Q (.panic c) a w):
  ∀(st:List (Nat×Nat)) (so:List (Nat×Oper)) (pre:List Nat) (a:Act) (w:World),S w->st.map (λp=>(p.1,ops[p.2]?))=so.map (λp=>(p.1,some p.2))->zo5 ops late pre st=true->
  (∀a w,Qu a w->S w->Jm P ops Q S late f (Zo ops.size (pre++st.map (·.2))) a w)->
  Xm P ops S Q Qu so a w->Jm P ops Q S late (f+st.length) (Zo ops.size pre) a w
 |[],so,pre,a,w,hS,a0,hB,hE,h=>by
  have:so=[]:=by cases so with|nil=>rfl|cons o so=>simp at a0
  subst this;have:=hE a w h.2 h.1;simpa using this
 |(0,i)::st,so,pre,a,w,hS,a0,hB,hE,h=>by
  cases so with
  |nil=>simp at a0
  |cons p so=>
   obtain⟨c,o⟩:=p;simp only[map_cons,List.cons.injEq,Prod.mk.injEq]at a0;obtain⟨⟨rfl,ho⟩,a0⟩:=a0;simp only[zo5,Qk,all_eq_true]at hB;obtain⟨v,h1,h2⟩:=h;have ih:=zk9 f hs hQ st so (pre++[i]) (a.put o.dst v) w hS a0 hB.2.2.2 (λa w hE' hS'=>by have:=hE a w hE' hS';simpa using this) h2;rw[Yq]at ih;have:=zr5 ho (noSelect_spec hs) (λc a w h=>hQ c a _ _ w h) hB.2.2.1 (f+st.length) _ a w (free_spec ho hB.1) (by simpa using hB.2.1) h1 hS ih;simpa [Nat.add_assoc] using this
 |(k+1,i)::st,so,pre,a,w,hS,a0,hB,hE,h=>by
  cases so with
  |nil=>simp at a0
  |cons p so=>
   obtain⟨c,o⟩:=p;simp only[map_cons,List.cons.injEq,Prod.mk.injEq]at a0;obtain⟨⟨rfl,ho⟩,a0⟩:=a0;simp only[zo5,Qk,Qn]at hB;rw[length_cons,<-Nat.add_assoc];refine⟨λh0=>(by rw[hB.1]at h0;cases h0),λx hx=>?_⟩;rw[hB.1]at hx;simp only[mem_singleton]at hx;subst hx;refine wpOp_mono (λa1 w1 hk=>⟨λ_=>hk.1,?_⟩) (Uc ho h);have ih:=zk9 f hs hQ st so (pre++[x]) a1 w1 hk.1 a0 hB.2 (λa w hE' hS'=>by have:=hE a w hE' hS';simpa using this) hk.2
   rwa [Yq]at ih
def zy2{id:Nat}{l:List Oper}(S:World->Prop)(late:List Nat)(st st2:List (Nat×Nat))(i j:Nat)(hm:P.follows .mixedOrders=true)
  (hB:(noSelect l.toArray && (zo5 l.toArray late [] st && (((range l.length).all λk=>(Zo l.toArray.size (st.map (·.2))).getD k true||late.contains k) && (zt6 l.toArray (st.map (·.2)) st2 && (decide (ready .any l.toArray (Zo l.toArray.size (st.map (·.2)++st2.map (·.2)))=[i,j]) && (decide (ready .any l.toArray (Zo l.toArray.size (st.map (·.2)++st2.map (·.2)++[i]))=[j]) && (decide (ready .any l.toArray (Zo l.toArray.size (st.map (·.2)++st2.map (·.2)++[j]))=[i]) && (decide (ready .any l.toArray (Zo l.toArray.size (st.map (·.2)++st2.map (·.2)++[i]++[j]))=[]) && decide (ready .any l.toArray (Zo l.toArray.size (st.map (·.2)++st2.map (·.2)++[j]++[i]))=[])))))))))=true)
  (aL:l.length=2+st2.length+st.length) (so so2:List (Nat×Oper)) (oi oj:Oper) (d0:st.map (λp=>(p.1,l.toArray[p.2]?))=so.map (λp=>(p.1,some p.2))) (b0:st2.map (λp=>(p.1,l.toArray[p.2]?))=so2.map (λp=>(p.1,some p.2))) (hi:l.toArray[i]?=some oi) (hj:l.toArray[j]?=some oj)
  (hQ:∀c a d v w,Q (.panic c) (put a d v) w->Q (.panic c) a w) (hS:S w.drew)
  (h:∀ops:Array Oper,Xm P ops S Q (Xm P ops (λ_=>True) Q (λa' w'=>wpList P ops (Exit.then (λa1 w1=>wpList P ops (Exit.then (λa2 w2=>Q .normal a2 w2) Q) [oj] a1 w1) Q) [oi] a' w'/\wpList P ops (Exit.then (λa1 w1=>wpList P ops (Exit.then (λa2 w2=>Q .normal a2 w2) Q) [oi] a1 w1) Q) [oj] a' w') so2) so a w.drew):(Code.region id l.toArray true).wp P Q a w:=by
 simp only[Qk,Qn]at hB;obtain⟨hs,hh,c0,e0,r0,ri,rj,rij,rji⟩:=hB;have key:=zk9 (P:=P) (Q:=Q) (S:=S) (late:=late) (ops:=l.toArray) (2+st2.length) hs hQ st so [] a w.drew hS d0 hh ?_ (h l.toArray)
 ·refine wp_region_any hm (zw4 (S:=S) (late:=late) _ _ _ _ ?_)
  have e:l.toArray.size=2+st2.length+st.length:=(by simp[aL]);rw[<-e]at key;simpa [Zo] using key
 intro a0 w0 f0 _;refine zm4 (S':=λ_=>True) _ _ _ _ (λk hk=>?_) ?_
 ·simp only[nil_append]at hk
  by_cases g0:k<l.length
  ·have:=all_eq_true.1 c0 k (mem_range.2 g0)
   rw[hk,Bool.false_or]at this;simpa using this
  have cD:(Zo l.toArray.size (st.map (·.2))).size<=k:=(by rw[yqw];simp;omega);rw[Array.getD_eq_getD_getElem?,Array.getElem?_eq_none cD]at hk
  cases hk
 refine zr9 (S:=λ_=>True) 2 hs hQ st2 so2 ([]++st.map (·.2)) a0 w0 trivial b0 (by simpa using e0) ?_ f0;intro a' w' hE _
 have step:∀(x y:Nat) (ox oy:Oper),l.toArray[x]?=some ox->l.toArray[y]?=some oy->ready .any l.toArray (Zo l.toArray.size (st.map (·.2)++st2.map (·.2)++[x]))=[y]->ready .any l.toArray (Zo l.toArray.size (st.map (·.2)++st2.map (·.2)++[x]++[y]))=[]->
   wpList P l.toArray (Exit.then (λa1 w1=>wpList P l.toArray (Exit.then (λa2 w2=>Q .normal a2 w2) Q) [oy] a1 w1) Q) [ox] a' w'->wpOp P l.toArray Q x (λa1 w1=>(x ∉ ([]:List Nat)->True)/\Jm P l.toArray Q (λ_=>True) [] 1 ((Zo l.toArray.size ([]++st.map (·.2)++st2.map (·.2))).setIfInBounds x true) a1 w1) a' w':=by
  intro x y ox oy hx hy h1 h2 hw;refine wpOp_mono (λa1 w1 hk=>⟨λ_=>trivial,?_⟩) (Uc hx hw);have e1:(Zo l.toArray.size ([]++st.map (·.2)++st2.map (·.2))).setIfInBounds x true=Zo l.toArray.size (st.map (·.2)++st2.map (·.2)++[x]):=(by rw[Yq];rfl);rw[e1];refine⟨λh0=>(by rw[h1]at h0;cases h0),λz hz=>?_⟩;rw[h1]at hz;simp only[mem_singleton]at hz;subst hz;refine wpOp_mono (λa2 w2 i0=>⟨λ_=>trivial,?_⟩) (Uc hy hk);have e2:(Zo l.toArray.size (st.map (·.2)++st2.map (·.2)++[x])).setIfInBounds z true=Zo l.toArray.size (st.map (·.2)++st2.map (·.2)++[x]++[z]):=(Yq _ _ _).symm;rw[e2];exact⟨h2,i0⟩
 refine⟨λh0=>?_,λz hz=>?_⟩
 ·simp only[nil_append]at h0;rw[r0]at h0;cases h0
 simp only[nil_append]at hz;rw[r0]at hz;simp only[mem_cons,not_mem_nil,or_false]at hz;rcases hz with rfl|rfl
 ·exact step _ j oi oj hi hj ri rij hE.1
 exact step _ i oj oi hj hi rj rji hE.2
end
section
variable{ty:TypeId}{ps:String}{af:Array Edge}{p d:Nat}{y:Operand}
def Vu(g:Nat)(arr:Array Value)(hg:w.heap[g]?=some (.cells arr 91 (0,0)))(cD:arr.size=10)(hx:a.eval (.tmp p)=F g)(h:wpList prog ops Q rest (a.put (some d) (.agg arr)) w):
  wpList prog ops Q ({dst:=some d,op:=.load 91 (.tmp p),type:=ty,pos:=ps,after:=af,guard:=none}::rest) a w:=
 zq4 rfl (.tmp p) 91 rfl g hx arr 91 (0,0) hg _ underlying91 rfl (by rw[cD];exact Tryz.infoStmt10) h
def Yt(g:Nat)(c c':Array Value)(hg:w.heap[g]?=some (.cells c 91 (0,0)))(cD:c.size=10)(hsz':c'.size=10)(h1:c'.all (·.oneCell')=true)(hx:a.eval (.tmp p)=F g)(hy:a.eval y=.agg c')(h:wpList prog ops Q rest (a.put none undef) (w.setRow g c')):
  wpList prog ops Q ({dst:=none,op:=.store 91 (.tmp p) y,type:=ty,pos:=ps,after:=af,guard:=none}::rest) a w:=
 zw8 rfl (.tmp p) y 91 rfl g hx c c' hy 91 hg (by rw[hsz'];exact Tryz.infoStmt10) (by rw[cD,hsz']) h1 h
def zt3(p:Nat)(h:wpList P ops Q ({dst:=some d,op:=.load 91 (.tmp p),type:=ty,pos:=ps,after:=af,guard:=none}::rest) a w):wpList P ops Q ({dst:=some d,op:=.load 91 (.tmp p),type:=ty,pos:=ps,after:=af,guard:=none}::rest) a w:=h
def Yd(p:Nat)(h:wpList P ops Q ({dst:=none,op:=.store 91 (.tmp p) y,type:=ty,pos:=ps,after:=af,guard:=none}::rest) a w):wpList P ops Q ({dst:=none,op:=.store 91 (.tmp p) y,type:=ty,pos:=ps,after:=af,guard:=none}::rest) a w:=h
end
def Xv(k x op:Int)(av:Bool)(an:Int)(bv:Bool)(bn:Int):(Zg k x op av an bv bn).all (·.oneCell')=true:=by simp[Zg,oneCell']
def zy0{arr:Array Value}{t:TypeId}(h:w.heap[b]?=some (.cells arr t (0,0)))(i:Nat)(v:Value)(arr':Array Value)(he:arr.setIfInBounds i v=arr'):(w.setCell (O b i) v).heap[b]?=some (.cells arr' t (0,0)):=by
 rw[heap_setCell_same w b i arr t v h,he]
def znx(Rb:Nat)(w:World)(m:Yn)(w':World)(m':Yn):Prop:=∀b,b<w.heap.size->b≠Rb->(∀j,Zt j->(m.v j).ownBlock≠some b)->w'.heap[b]?=w.heap[b]?/\∀j,Zt j->(m'.v j).ownBlock≠some b
def znx.below{m:Yn}(h:D w w'):znx Rb w m w' m:=λb hb _ dt=>⟨h.block b hb,dt⟩
def zw1(lo base Rb Pb:Nat)(w0 w:World)(m:Yn)(fl:List FlS)(t:Nat)(aX:Nat×aa×Fl.RS)(e:Ending)(w':World):Prop:=
 (aX.1=0->e=.returned (.tuple #[.agg (Zg aX.2.1.kind aX.2.1.x aX.2.1.e.op aX.2.1.e.a.var aX.2.1.e.a.v aX.2.1.e.b.var aX.2.1.e.b.v),I 0])/\∃m',Zu lo base Rb Pb w0 w' m'/\Zj aX.2.2 fl t m'/\znx Rb w m w' m')/\
 (aX.1≠0->(∃(k x op:Int) (av:Bool) (an:Int) (bv:Bool) (bn:Int),e=.returned (.tuple #[.agg (Zg k x op av an bv bn),I aX.1]))/\Below lo w0 w')
def Jh{fn:Func}(hf:fn.results=#[.cell 4 91,.tmp 5]){R:Ending->World->Prop}{n:Nat}{cs0 cs:Array Value}{c:Int}(hE:W.heap[n]?=some (.cells cs0 91 (0,0)))(ha:a.tmps.getD 4 undef=F n)(hc:a.tmps.getD 5 undef=I c)(hd:a.defers=[])(hs:cs.size=10)(hR:R (.returned (.tuple #[.agg cs,I c])) (W.setRow n cs)):bodyPost prog fn R .ret a (W.setRow n cs):=
 bodyPost_ret (by rw[<-hc];exact zrv hf _ _ (O n 0) _ ha (run_loadVar_row _ _ _ _ _ _ _ (setRow_heap _ _ _ _ _ _ hE) underlying91 rfl (by rw[hs];exact Tryz.infoStmt10))) hd hR
def zxy(r:Fl.RS)(kind:Nat)(a:L):Nat×aa×Fl.RS:=match r.value [a] with
 |none=>(4,noS,r)
 |some e=>(0,⟨kind,0,0,e,[],[]⟩,r)
section
variable{m:Yn}{fl:List FlS}
def yo8(h:Zu lo base Rb Pb w0 w m)(hr:Zj r fl t m)(b off cap:Nat)(kw:ByteArray)(k:Nat)(hk:(kw=⟨#[105,102]⟩/\k=5)\/(kw=⟨#[119,104,105,108,101]⟩/\k=6))(a:L)(ha:a.length<=100000)(hb:b<w.heap.size)(k0:2<=cap/\cap<=maxLen)(c0:w.cell? (O b off)=some (.string kw))(c1:w.cell? (O b (off+1))=some (Tq a)):
  E 32 #[F Rb,Sq b off 2 cap] w (zw1 lo base Rb Pb w0 w m fl t (zxy r k a)):=by
 have bU:=h.bU;have HH:=Z h;have HO:=Z hr;have h0:Y (∀W,D w W->E 53 #[F Rb,Tq a] W (zo2 (r.atom a) W)):=λW hW=>ztw (h.below hW) hr a ha;have e0:Y (zxy r k a=match r.atom a with|none=>(4,noS,r)|some x=>(0,⟨k,0,0,⟨-1,x,ju⟩,[],[]⟩,r)):=by
  show _=_;have hv:r.value [a]=(r.atom a).map λx=>⟨-1,x,ju⟩:=rfl;unfold zxy;rw[hv];generalize r.atom a=o
  cases o<;>rfl
 obtain⟨aX,b0⟩:=J (zxy r k a);rw[<-b0]at e0⊢;obtain⟨oa,i0⟩:=J (r.atom a);rw[<-i0]at h0 e0
 have j0:(2:Int)<=(cap:Int):=by omega
 have HB:Y (∀o o',D w ((w.alloc o).alloc o')):=λo o'=>(bA).alloc (by simp) _;clear h hr b0 i0;rcases hk with⟨rfl,rfl⟩|⟨rfl,rfl⟩
 all_goals
  go_enter func32,ntmps32
  go_wp2_with fail
  refine(h0 _ (HB _ _)).mono ?_;rintro e W1 ⟨d0,aS,a0⟩;have rE:W1.heap[w.heap.size]?=some (.cells Yp 91 (0,0)):=by
   rw[d0.block _ (by simp;omega),Below.heap_alloc _ _ _ (by simp)];exact zyx _ _ _ rfl
  have rS:=(d0.block (w.heap.size+1) (by simp)).trans (zyx _ _ _ (by simp));have l0:=Z ((HB _ _).trans (d0.mono (by simp;omega)));have n0:w.heap.size+2<=W1.heap.size:=(by have:=d0.size;simp at this;omega);have o0:w.heap.size+1<W1.heap.size:=(by omega);have m0:w.heap.size<W1.heap.size:=(by omega);have s0:=cR 0 rS;have s1:=cR 1 rS;have s2:=cR 2 rS;have s3:=cR 3 rS;have s4:=cR 4 rS;have s5:=cR 5 rS;have s6:=cR 6 rS;have s7:=cR 7 rS;have s8:=cR 8 rS;have s9:=cR 9 rS
  have sz:∀j,W1.frozen? (O (w.heap.size+1) j)=false:=λj=>by simp[frozen?,rS]
  have RE:=Z rE;clear rE rS d0
  have f0:Y (∀u v a,(((W1.setCell (O (w.heap.size+1) 4) u).setCell (O (w.heap.size+1) 5) v).alloc a).heap[w.heap.size]?=some (.cells Yp 91 (0,0))):=λu v a=>by
   rw[Below.heap_alloc _ _ _ (by rw[Zy,Zy];exact m0),Zx _ _ _ _ _ (by omega),Zx _ _ _ _ _ (by omega)];exact RE
  have g0:Y (∀u v a c,D w ((((W1.setCell (O (w.heap.size+1) 4) u).setCell (O (w.heap.size+1) 5) v).alloc a).setRow w.heap.size c)):=λu v a c=>by
   refine below_setRow ((((l0.setCell (by show w.heap.size<=w.heap.size+1;omega) _).setCell (by show w.heap.size<=w.heap.size+1;omega) _)).alloc (by rw[Zy,Zy];omega) _) lE _
  cases oa with
  |none=>
   obtain⟨v,rfl⟩:=a0 rfl;have HR:=Z e0.out;clear aS a0
   go_wp2_with (refine Yd 4 ?_;refine Yt w.heap.size Yp (Zg _ 0 (-1) true v false 0) (f0 _ _ _) rfl rfl (Xv _ _ _ _ _ _ _) rfl rfl ?_)
   refine Jh results32 (f0 _ _ _) rfl rfl rfl rfl ?_;rw[HR.out];exact⟨λh=>(by cases h),λ_=>⟨⟨_,_,_,_,_,_,_,rfl⟩,(HH.below (g0 _ _ _ _)).bel⟩⟩
  |some x=>
   obtain rfl:=aS x rfl;have HR:=Z e0.out;clear aS a0
   go_wp2_with (refine Yd 4 ?_;refine Yt w.heap.size Yp (Zg _ 0 (-1) x.var x.v false 0) (f0 _ _ _) rfl rfl (Xv _ _ _ _ _ _ _) rfl rfl ?_)
   refine Jh results32 (f0 _ _ _) rfl rfl rfl rfl ?_;rw[HR.out];exact⟨λ_=>⟨rfl,m,HH.below (g0 _ _ _ _),HO,znx.below (g0 _ _ _ _)⟩,λh=>absurd rfl h⟩
def st_if(h:Zu lo base Rb Pb w0 w m)(hr:Zj r fl t m)(b off cap:Nat)(a:L)(ha:a.length<=100000)(hb:b<w.heap.size)(a0:2<=cap/\cap<=maxLen)(c0:w.cell? (O b off)=some (.string ⟨#[105,102]⟩))(c1:w.cell? (O b (off+1))=some (Tq a)):
  E 32 #[F Rb,Sq b off 2 cap] w (zw1 lo base Rb Pb w0 w m fl t (zxy r 5 a)):=
 yo8 h hr b off cap _ 5 (.inl ⟨rfl,rfl⟩) a ha hb a0 c0 c1
def ya2(h:Zu lo base Rb Pb w0 w m)(hr:Zj r fl t m)(b off cap:Nat)(a:L)(ha:a.length<=100000)(hb:b<w.heap.size)(a0:2<=cap/\cap<=maxLen)(c0:w.cell? (O b off)=some (.string ⟨#[119,104,105,108,101]⟩))(c1:w.cell? (O b (off+1))=some (Tq a)):
  E 32 #[F Rb,Sq b off 2 cap] w (zw1 lo base Rb Pb w0 w m fl t (zxy r 6 a)):=
 yo8 h hr b off cap _ 6 (.inr ⟨rfl,rfl⟩) a ha hb a0 c0 c1
end
def zd0(W:World):(Instr.build 91 #[(0,I (-1))]).run prog W=.ok (.agg (Zp Xd).toArray) W:=by kernel_rfl
def yzx(W:World):(Instr.build 91 #[(0,I (-2))]).run prog W=.ok (.agg (Zp Xq).toArray) W:=by kernel_rfl
def Vl{op:Oper}{W':World}(a0:op.guard=none)(ty:TypeId)(x y:Operand)(ho:op.op=.store ty x y)
  (b o:Nat) (cells:Array Value) (hx:a.eval x=Pp b o) (hy:a.eval y=.agg cells)
  (ht:w.there b o cells.size) (hi:(P.info? ty).map (·.size)=some cells.size) (h1:cells.all (·.oneCell')=true) (hW:w.setCells b o cells.toList=W')
  (h:wpList P ops Q rest (a.put op.dst undef) W'):wpList P ops Q (op::rest) a w:=wpList_store_mid a0 ty x y ho b o cells hx hy ht hi h1 (by rw[hW];exact h)
def zkz:∀u∈Yp,u.oneCell'=true:=Array.all_eq_true_iff_forall_mem.1 (show Yp.all (·.oneCell')=true by kernel_rfl)
section
variable{m:Yn}{fl:List FlS}
def Zu.deep(h:Zu lo base Rb Pb w0 w m)(hr:Zj r fl t m)(hf:r.fr=f::fs):∃g cap,m.v 8=Sq g 0 (fs.length+1) cap/\m.n 8=fs.length+1/\m.xs 8=Vy fs++[.int .u8 (zz8 f:Nat)]/\base<=g/\g<w.heap.size/\w.cell? (O g fs.length)=some (.int .u8 (zz8 f:Nat))/\w.frozen? (O g fs.length)=false:=by
 have h8:Zt 8:=by unfold Zt;omega
 have ho:=h.own 8 h8
 have h1:m.n 8=fs.length+1:=by rw[hr.r8.1,hf];rfl
 have h2:m.xs 8=Vy fs++[.int .u8 (zz8 f:Nat)]:=by rw[hr.r8.2,hf,zz9]
 rcases ho.2 with⟨h3,h4⟩|⟨g,cap,cur,h3,hb,hg,hc,hm,hs,ht⟩
 ·omega
 have h5:m.v 8=Sq g 0 (fs.length+1) cap:=by rw[h3,h1]
 refine⟨g,cap,h5,h1,h2,hb,(ho.lt g (by rw[h5];rfl)).2,?_,by simp[frozen?,hg]⟩;have h6:=ho.cells (by rw[h5];rfl) fs.length (.int .u8 (zz8 f:Nat)) (by rw[h2,getElem?_append_right (by rw[yzz];omega),yzz];simp)
 have h7:((O g 0):Addr).add fs.length=(O g fs.length):=by unfold Addr.add;split<;>simp_all
 rw[h7]at h6;exact h6
def ya3(h:Zu lo base Rb Pb w0 w m)(hr:Zj r fl t m)(s0:Xi fl r)(u0:bE fl=r.am)(v0:∀f∈r.fr,(f.kind=5\/(f.kind=6/\f.cU=false))/\(f.cU=false->f.fu=[]))(ht:t<=100000)(b off cap:Nat)(at_:Int)(c0:w.cell? (O b off)=some (.string ⟨#[101,108,115,101]⟩))(hb:r.ag=true)(i:Nat):
  E 13 #[F Rb,Sq b off 1 cap,I at_] w (Xy lo base Rb Pb w0 t (r.bh i [dO])):=by
 obtain⟨b1,b2,b3,b4,b5,b6,b7⟩:=h.bU
 have i1:Rb<w.heap.size:=by omega
 have x7:w.cell? (O Rb 7)=some (.bool true):=by rw[<-hb,<-hr.bg];exact h.cR.c 7 (by omega)
 have x8:M w Rb 8 (m.v 8):=h.cR.c 8 (by omega);obtain⟨d10,k10,b0⟩:=h.shape 10 (by unfold Zt;omega);rw[hr.fX.1]at b0
 have x10:w.cell? (O Rb 10)=some (A d10 fl.length k10):=by rw[<-b0];exact h.cR.c 10 (by omega)
 have j1:=hr.ft
 have W0:fl.length<=100000:=by omega
 have O0:(fl.length:Int)<=100000:=by omega
 have H3:Y (Xy lo base Rb Pb w0 t (3,r) (.returned (I 3)) w):=⟨rfl,λh=>(by cases h),λ_=>h.bel⟩
 cases hf:r.fr with
 |nil=>
  have e:r.bh i [dO]=(3,r):=(by simp[Fl.RS.bh,hf]);obtain⟨d8,k8,f0⟩:=h.shape 8 (by unfold Zt;omega);rw[hr.r8.1,hf]at f0;rw[f0]at x8;rw[e];clear h hr e hf s0 u0 v0 hb f0 b0;simp only[length_nil]at x8
  go_enter func13,ntmps13
  go_wp2;go_ret;exact H3
 |cons f fs=>
  obtain⟨g8,k8,f0,B0,x0,k1,X0,c8,z8⟩:=h.deep hr hf;rw[f0]at x8;have C0:=hr.fr;rw[hf,length_cons]at C0;obtain⟨kd,m0⟩:=J (fs.length);have l1:(kd:Int)<=2:=(by omega);obtain⟨D0,dt⟩:=v0 f (by rw[hf];simp)
  by_cases aS:f.kind=5/\f.cU=false
  ·have h0:zz8 f=105:=by simp[zz8,aS.1,aS.2]
   rw[h0]at c8 x0;have e:r.bh i [dO]=(0,r.bF):=(by simp[Fl.RS.bh,hf,aS.1,aS.2]);rw[e];obtain⟨m1,l0⟩:=J (zyw m (m.v 8) (m.n 8) (Vy fs++[.int .u8 101]));obtain⟨W1,y0⟩:=J (w.setCell (O g8 kd) (.int .u8 101));have n0:Y (Zu lo base Rb Pb w0 W1 m1):=(by show Zu _ _ _ _ _ _ _;rw[l0,y0,m0];exact h.mZ f0 B0 x0)
   have j0:Y (∀v',Zj r.bF (fl++[Xd]) (t+1) (m1.app 10 v' (Zp Xd))):=λv'=>by rw[l0];exact hr.bF hf aS.1 _ _
   have E0:Y (Xi (fl++[Xd]) r.bF/\bE (fl++[Xd])=r.bF.am):=⟨yqy s0 hf aS.2 (dt aS.2),by rw[Up,u0];unfold Fl.RS.bF;rw[hf];rfl⟩;have d0:Y (m1.v 10=A d10 fl.length k10):=(by show _=_;rw[l0,(Ue _ _ _ _ (by decide)).1];exact b0);have e0:Y (m1.n 10=fl.length):=(by show _=_;rw[l0,(Ue _ _ _ _ (by decide)).2.1];exact hr.fX.1);have k0:Y (m1.xs 10=Jn fl):=(by show _=_;rw[l0,(Ue _ _ _ _ (by decide)).2.2];exact hr.fX.2);have y10:W1.cell? (O Rb 10)=some (A d10 fl.length k10):=(by rw[<-d0.out];exact n0.cR.c 10 (by omega));have Y0:W1.heap.size=w.heap.size:=(by rw[y0,Zy]);have Z0:base<=W1.heap.size:=(by omega);have a1:Rb<W1.heap.size:=(by omega);have P0:=Z y0;have c1:=Z zd0;rw[<-m0]at x8 c8 z8;clear h hr s0 u0 v0 hb hf l0 y0 m0 f0 B0 x0 dt D0 e b0 C0 Y0 aS h0
   go_enter func13,ntmps13
   go_wp2_with fail
   rw[<-P0.out];clear P0 x7 x8 x10 c8 z8;refine zy2 (λW=>M W Rb 10 (A d10 fl.length k10)) [8,9,10,11,12] [(0,0),(0,1),(0,2),(0,3),(0,4),(0,5),(1,6),(1,7)] [(0,8),(0,10),(0,11)] 9 12 (by kernel_rfl) (by kernel_rfl) rfl [(_,_),(_,_),(_,_),(_,_),(_,_),(_,_),(_,_),(_,_)] [(_,_),(_,_),(_,_)] _ _ rfl rfl rfl rfl (λc a d v w h=>by cases d<;>exact h) y10 (λops=>?_);simp only[getElem_toArray,getElem_cons_succ,getElem_cons_zero]
   iterate 4 refine Xs rfl (kE (by intro w' hw';have q1:=hw';go_simp<;>rfl) (by go_simp<;>rfl) ?_)
   refine Xs rfl (λWx hK=>?_);refine⟨.agg (Zp Xd).toArray,λw' hw'=>zn3 91 _ rfl _ _ (by kernel_rfl) (zd0 _),hK _ ?_⟩;clear hK Wx
   iterate 1 refine Xs rfl (kE (by intro w' hw';have q1:=hw';go_simp<;>rfl) (by go_simp<;>rfl) ?_)
   refine zu8 ?_
   go_wp2_with fail
   obtain⟨W3,o0⟩:=J ((W1.alloc (.cells Yp 91)).drew);obtain⟨tb,F0⟩:=J (W1.heap.size);have G0:D W1 W3:=(by rw[o0];exact(bA).drew);have n1:W1.heap.size+1=W3.heap.size:=(by rw[o0];simp);have t0:∀i u,(Yp.toList)[i]?=some u->W3.cell? (((O tb 0):Addr).add i)=some u:=(by rw[o0,F0];exact zv9 rfl);have z0:=Z G0;have H0:Y (W3.ownsRow base 91 10 (A d10 fl.length k10) fl.length (Jn fl)):=by
    have h1:=(n0.below G0).own 10 (by unfold Zt;omega);rw[d0.out,e0.out,k0.out]at h1;exact h1
   have I0:(λW=>M W Rb 10 (A d10 fl.length k10)) W3:=cT z0 (by show Rb<_;omega) y10
   try rw[show ∀o,(W1.drew.alloc o)=(W1.alloc o).drew from λ_=>rfl]
   have eW3:(W1.alloc (.cells #[I 0,I 0,I 0,I 0,.bool false,I 0,.bool false,I 0,K,K] 91)).drew=W3:=o0.symm;rw[eW3,<-F0];clear o0 F0 eW3 G0;refine⟨I0,?_⟩;refine zu8 ?_;obtain⟨i0,Q0,R0,S0,T0⟩:=info_parts Tryz.infoStmtP
   go_wp2_with (at_builtin;refine Ap underlying52 Q0 R0 S0 T0 rfl H0 rfl Yp.toList rfl rfl t0 ?c2 ?c3 ?c4 ?c5 ?_)
   case c2=>exact zkz
   case c3=>unfold maxLen;omega
   case c4=>omega
   case c5=>omega
   intro v' W4 a0 J0 p0;obtain⟨g,gc,rfl⟩:∃g gc,v'=Sq g 0 (fl.length+1) gc:=by
    rcases a0.2 with⟨h1,h2⟩|⟨g,cp,cur,h1,_⟩
    ·omega
    exact⟨g,cp,h1⟩
   have q0:∀k,(A d10 fl.length k10).ownBlock=some k->base<=k/\k<W1.heap.size+1:=λk hk=>by have:=H0.lt k hk;omega
   have o1:=(a0.lt g rfl).1;have K0:=J0.block Rb (by omega) (λhh=>by have:=(q0 Rb hh.symm).1;omega);have A0:=cQ K0 I0;have gz:∀j,W4.frozen? (O Rb j)=false:=λj=>fQ K0 ((z0.frozen (by show Rb<_;omega)).trans (n0.cR.z j));have g0:=A0;have L0:=Z (zk8 a0);have H5:Y (Zu lo base Rb Pb w0 ((W4.setCells g (fl.length*10) (Zp Xd)).setCell (O Rb 10) (Sq g 0 (fl.length+1) gc)) (m1.app 10 (Sq g 0 (fl.length+1) gc) (Zp Xd))):=by
    have h1:=n0.flat (W3:=W3) (W4:=W4) (g:=g) (cap:=gc) (z:=Yp.toList) (cs:=(Zp Xd)) z0 (by rw[e0.out,k0.out];exact a0) rfl rfl (by rw[d0.out];exact J0) (by rw[d0.out];exact p0);rw[e0.out]at h1;exact h1
   have U0:Y ((W4.setCell (O Rb 10) (Sq g 0 (fl.length+1) gc)).setCells g (fl.length*10) (Zp Xd)=(W4.setCells g (fl.length*10) (Zp Xd)).setCell (O Rb 10) (Sq g 0 (fl.length+1) gc)):=zw7 g Rb 10 _ (by omega) _ _ _;obtain⟨W5,r0⟩:=J (W4.setCells g (fl.length*10) (Zp Xd));have d1:=Z r0.symm;obtain⟨W6,M0⟩:=J (W5.setCell (O Rb 10) (Sq g 0 (fl.length+1) gc));have e1:Y ((W4.setCell (O Rb 10) (Sq g 0 (fl.length+1) gc)).setCells g (fl.length*10) ((Zp Xd)).toArray.toList=W6):=(by show _=_;rw[M0,r0];exact U0);have V0:=Z M0;rw[<-r0]at H5;have g0':M (W4.setCells g (fl.length*10) (Zp Xd)) Rb 10 (A d10 fl.length k10):=cQ (Uh g _ W4 _ Rb (by omega)) g0;have gz':(W4.setCells g (fl.length*10) (Zp Xd)).frozen? (O Rb 10)=false:=(frozen?_setCells g _ _ _ _).trans (gz 10);have N0:Y (∀v,(W4.setCell (O Rb 10) v).there g (fl.length*10) 10):=λv j hj=>⟨by rw[Qc (Zx _ _ _ _ _ (by show g≠Rb;omega))];exact(L0 j hj).1,by rw[frozen?_setCell];exact(L0 j hj).2⟩;rw[<-r0]at g0' gz';clear r0 M0 U0;have HE:Y (Xy lo base Rb Pb w0 t (0,r.bF) (.returned (I 0)) (W5.setCell (O Rb 10) (Sq g 0 (fl.length+1) gc))):=⟨rfl,λ_=>⟨_,_,H5,j0 _,E0.1,E0.2⟩,λhh=>absurd rfl hh⟩;have f1:Y (Xy lo base Rb Pb w0 t (0,r.bF) (.returned (I 0)) W6):=(by show Xy _ _ _ _ _ _ _ _ _;rw[V0.out];exact HE);clear H5 j0 E0 V0;clear a0 J0 p0 K0 t0 H0 z0 q0 n0 d0 e0 k0 I0 Q0 R0 S0 T0 i0
   go_wp2_with fail
   refine⟨A0,?_⟩
   try (refine Jq ?_;refine⟨A0,?_⟩)
   clear A0;have g1:(fl.length:Int)<(fl.length:Int)+1:=(by omega)
   try simp only[getElem_toArray,getElem_cons_succ,getElem_cons_zero]
   iterate 3 refine Xs rfl (kE (by rintro _ -;go_simp<;>rfl) (by go_simp<;>rfl) ?_)
   refine Jq ?_;refine⟨trivial,?_,?_⟩
   ·go_wp2_with (refine Yd 86 ?_;refine Vl rfl 91 (.tmp 86) (.tmp 82) rfl g (fl.length*10) ((Zp Xd)).toArray rfl rfl L0.out Tryz.infoStmt10 (by kernel_rfl) d1 ?_)
    go_wp2;go_ret;exact HE
   go_wp2_with (refine Yd 86 ?_;refine Vl rfl 91 (.tmp 86) (.tmp 82) rfl g (fl.length*10) ((Zp Xd)).toArray rfl rfl (N0 _) Tryz.infoStmt10 (by kernel_rfl) e1 ?_)
   go_wp2;go_ret;exact f1
  have e:r.bh i [dO]=(3,r):=by
   simp only[Fl.RS.bh,hf];rw[G (by decide),U aS]
  rw[e];have h0:zz8 f=119\/zz8 f=101:=by
   unfold zz8;rcases D0 with h1|h1
   ·have h2:f.cU=true:=by
     cases h3:f.cU with
     |true=>rfl
     |false=>exact absurd ⟨h1,h3⟩ aS
    right;simp[h1,h2]
   left;simp[h1.1]
  rw[<-m0]at x8 c8 z8;clear h hr s0 u0 v0 hb hf m0 f0 B0 x0 dt D0 e aS b0 C0 x10;rcases h0 with h0|h0
  all_goals
   rw[h0]at c8;clear h0
   go_enter func13,ntmps13
   go_wp2;go_ret;exact H3
def row_end(h:Zu lo base Rb Pb w0 w m)(hr:Zj r fl t m)(u0:Xi fl r)(v0:bE fl=r.am)(x0:∀f∈r.fr,(f.kind=5\/(f.kind=6/\f.cU=false))/\(f.cU=false->f.fu=[]))(ht:t<=100000)(b off cap:Nat)(at_:Int)(c0:w.cell? (O b off)=some (.string ⟨#[101,110,100]⟩))(hb:r.ag=true)(i:Nat):
  E 13 #[F Rb,Sq b off 1 cap,I at_] w (Xy lo base Rb Pb w0 t (r.bh i [gv])):=by
 obtain⟨b1,b2,b3,b4,b5,b6,b7⟩:=h.bU
 have j1:Rb<w.heap.size:=by omega
 have x7:w.cell? (O Rb 7)=some (.bool true):=by rw[<-hb,<-hr.bg];exact h.cR.c 7 (by omega)
 have x8:M w Rb 8 (m.v 8):=h.cR.c 8 (by omega);obtain⟨d10,k10,b0⟩:=h.shape 10 (by unfold Zt;omega);rw[hr.fX.1]at b0
 have x10:w.cell? (O Rb 10)=some (A d10 fl.length k10):=by rw[<-b0];exact h.cR.c 10 (by omega)
 have k1:=hr.ft
 have X0:fl.length<=100000:=by omega
 have K0:(fl.length:Int)<=100000:=by omega
 have H3:Y (Xy lo base Rb Pb w0 t (3,r) (.returned (I 3)) w):=⟨rfl,λh=>(by cases h),λ_=>h.bel⟩
 cases hf:r.fr with
 |nil=>
  have e:r.bh i [gv]=(3,r):=(by simp[Fl.RS.bh,hf]);obtain⟨d8,k8,f0⟩:=h.shape 8 (by unfold Zt;omega);rw[hr.r8.1,hf]at f0;rw[f0]at x8;rw[e];clear h hr e hf u0 v0 x0 hb f0 b0;simp only[length_nil]at x8
  go_enter func13,ntmps13
  go_wp2;go_ret;exact H3
 |cons f fs=>
  obtain⟨g8,k8,f0,L0,M0,l1,Y0,c8,z8⟩:=h.deep hr hf;rw[f0]at x8;have N0:=hr.fr;rw[hf,length_cons]at N0;obtain⟨kd,y0⟩:=J (fs.length);have n1:(kd:Int)<=2:=(by omega);obtain⟨O0,dt⟩:=x0 f (by rw[hf];simp);have e:r.bh i [gv]=(0,r.bG):=(by simp[Fl.RS.bh,hf,gv,dO]);rw[e];obtain⟨m1,k0⟩:=J (zyw m (Sq g8 0 kd k8) fs.length (Vy fs));obtain⟨W1,q0⟩:=J (w.setCell (O Rb 8) (Sq g8 0 kd k8));have l0:Y (Zu lo base Rb Pb w0 W1 m1):=(by show Zu _ _ _ _ _ _ _;rw[k0,q0,y0];exact h.mY f0 L0 M0)
  have h0:Y (∀v',Zj r.bG (fl++[Xq]) (t+1) (m1.app 10 v' (Zp Xq))):=λv'=>by rw[k0];exact hr.bG hf _ _
  have z0:Y (Xi (fl++[Xq]) r.bG/\bE (fl++[Xq])=r.bG.am):=⟨yj4 u0 hf (by rcases O0 with h1|h1;exact .inl h1;exact .inr h1.1) dt hr.fr,by rw[Up,v0,(yzy hf).2.2.2.2.2.2.2.2.2];rfl⟩;have z8R:=h.cR.z 8;have P0:kd+1<=k8:=by
   rcases(h.own 8 (by unfold Zt;omega)).2 with⟨h3,h4⟩|⟨g,cp,cur,h3,o1,p1,r1,s1,t1,u1⟩
   ·omega
   rw[f0]at h3;simp only[slice.injEq]at h3;omega
  have A0:(kd:Int)+1<=(k8:Int):=(by omega);have d0:Y (m1.v 10=A d10 fl.length k10):=(by show _=_;rw[k0,(Ue _ _ _ _ (by decide)).1];exact b0);have e0:Y (m1.n 10=fl.length):=(by show _=_;rw[k0,(Ue _ _ _ _ (by decide)).2.1];exact hr.fX.1);have j0:Y (m1.xs 10=Jn fl):=(by show _=_;rw[k0,(Ue _ _ _ _ (by decide)).2.2];exact hr.fX.2);have y10:W1.cell? (O Rb 10)=some (A d10 fl.length k10):=(by rw[<-d0.out];exact l0.cR.c 10 (by omega));have Z0:W1.heap.size=w.heap.size:=(by rw[q0,Zy]);have a1:base<=W1.heap.size:=(by omega);have c1:Rb<W1.heap.size:=(by omega);have Q0:=Z q0;have d1:=Z yzx;rw[<-y0]at x8 c8 z8;clear h hr u0 v0 x0 hb hf k0 q0 y0 f0 L0 M0 dt O0 e b0 N0 Z0
  go_enter func13,ntmps13
  go_wp2_with fail
  rw[<-Q0.out];clear Q0 x7 x8 x10 c8 z8;refine zy2 (λW=>M W Rb 10 (A d10 fl.length k10)) [8,9,10,11,12] [(0,0),(0,1),(0,2),(0,3),(0,4),(0,5),(1,6),(1,7)] [(0,8),(0,10),(0,11)] 9 12 (by kernel_rfl) (by kernel_rfl) rfl [(_,_),(_,_),(_,_),(_,_),(_,_),(_,_),(_,_),(_,_)] [(_,_),(_,_),(_,_)] _ _ rfl rfl rfl rfl (λc a d v w h=>by cases d<;>exact h) y10 (λops=>?_);simp only[getElem_toArray,getElem_cons_succ,getElem_cons_zero]
  iterate 4 refine Xs rfl (kE (by intro w' hw';have q1:=hw';go_simp<;>rfl) (by go_simp<;>rfl) ?_)
  refine Xs rfl (λWx hK=>?_);refine⟨.agg (Zp Xq).toArray,λw' hw'=>zn3 91 _ rfl _ _ (by kernel_rfl) (yzx _),hK _ ?_⟩;clear hK Wx
  iterate 1 refine Xs rfl (kE (by intro w' hw';have q1:=hw';go_simp<;>rfl) (by go_simp<;>rfl) ?_)
  refine zu8 ?_
  go_wp2_with fail
  obtain⟨W3,m0⟩:=J ((W1.alloc (.cells Yp 91)).drew);obtain⟨tb,B0⟩:=J (W1.heap.size);have C0:D W1 W3:=(by rw[m0];exact(bA).drew);have v1:W1.heap.size+1=W3.heap.size:=(by rw[m0];simp);have t0:∀i u,(Yp.toList)[i]?=some u->W3.cell? (((O tb 0):Addr).add i)=some u:=(by rw[m0,B0];exact zv9 rfl);have r0:=Z C0;have D0:Y (W3.ownsRow base 91 10 (A d10 fl.length k10) fl.length (Jn fl)):=by
   have h1:=(l0.below C0).own 10 (by unfold Zt;omega);rw[d0.out,e0.out,j0.out]at h1;exact h1
  have E0:(λW=>M W Rb 10 (A d10 fl.length k10)) W3:=cT r0 (by show Rb<_;omega) y10
  try rw[show ∀o,(W1.drew.alloc o)=(W1.alloc o).drew from λ_=>rfl]
  have eW3:(W1.alloc (.cells #[I 0,I 0,I 0,I 0,.bool false,I 0,.bool false,I 0,K,K] 91)).drew=W3:=m0.symm;rw[eW3,<-B0];clear m0 B0 eW3 C0;refine⟨E0,?_⟩;refine zu8 ?_;obtain⟨i0,R0,S0,T0,U0⟩:=info_parts Tryz.infoStmtP
  go_wp2_with (at_builtin;refine Ap underlying52 R0 S0 T0 U0 rfl D0 rfl Yp.toList rfl rfl t0 ?c2 ?c3 ?c4 ?c5 ?_)
  case c2=>exact zkz
  case c3=>unfold maxLen;omega
  case c4=>omega
  case c5=>omega
  intro v' W4 a0 F0 n0;obtain⟨g,gc,rfl⟩:∃g gc,v'=Sq g 0 (fl.length+1) gc:=by
   rcases a0.2 with⟨h1,h2⟩|⟨g,cp,cur,h1,_⟩
   ·omega
   exact⟨g,cp,h1⟩
  have o0:∀k,(A d10 fl.length k10).ownBlock=some k->base<=k/\k<W1.heap.size+1:=λk hk=>by have:=D0.lt k hk;omega
  have x1:=(a0.lt g rfl).1;have G0:=F0.block Rb (by omega) (λhh=>by have:=(o0 Rb hh.symm).1;omega);have s0:=cQ G0 E0;have gz:∀j,W4.frozen? (O Rb j)=false:=λj=>fQ G0 ((r0.frozen (by show Rb<_;omega)).trans (l0.cR.z j));have g0:=s0;have H0:=Z (zk8 a0);have H5:Y (Zu lo base Rb Pb w0 ((W4.setCells g (fl.length*10) (Zp Xq)).setCell (O Rb 10) (Sq g 0 (fl.length+1) gc)) (m1.app 10 (Sq g 0 (fl.length+1) gc) (Zp Xq))):=by
   have h1:=l0.flat (W3:=W3) (W4:=W4) (g:=g) (cap:=gc) (z:=Yp.toList) (cs:=(Zp Xq)) r0 (by rw[e0.out,j0.out];exact a0) rfl rfl (by rw[d0.out];exact F0) (by rw[d0.out];exact n0);rw[e0.out]at h1;exact h1
  have V0:Y ((W4.setCell (O Rb 10) (Sq g 0 (fl.length+1) gc)).setCells g (fl.length*10) (Zp Xq)=(W4.setCells g (fl.length*10) (Zp Xq)).setCell (O Rb 10) (Sq g 0 (fl.length+1) gc)):=zw7 g Rb 10 _ (by omega) _ _ _;obtain⟨W5,p0⟩:=J (W4.setCells g (fl.length*10) (Zp Xq));have e1:=Z p0.symm;obtain⟨W6,I0⟩:=J (W5.setCell (O Rb 10) (Sq g 0 (fl.length+1) gc));have f1:Y ((W4.setCell (O Rb 10) (Sq g 0 (fl.length+1) gc)).setCells g (fl.length*10) ((Zp Xq)).toArray.toList=W6):=(by show _=_;rw[I0,p0];exact V0);have W0:=Z I0;rw[<-p0]at H5;have g0':M (W4.setCells g (fl.length*10) (Zp Xq)) Rb 10 (A d10 fl.length k10):=cQ (Uh g _ W4 _ Rb (by omega)) g0;have gz':(W4.setCells g (fl.length*10) (Zp Xq)).frozen? (O Rb 10)=false:=(frozen?_setCells g _ _ _ _).trans (gz 10);have J0:Y (∀v,(W4.setCell (O Rb 10) v).there g (fl.length*10) 10):=λv j hj=>⟨by rw[Qc (Zx _ _ _ _ _ (by show g≠Rb;omega))];exact(H0 j hj).1,by rw[frozen?_setCell];exact(H0 j hj).2⟩;rw[<-p0]at g0' gz';clear p0 I0 V0;have HE:Y (Xy lo base Rb Pb w0 t (0,r.bG) (.returned (I 0)) (W5.setCell (O Rb 10) (Sq g 0 (fl.length+1) gc))):=⟨rfl,λ_=>⟨_,_,H5,h0 _,z0.1,z0.2⟩,λhh=>absurd rfl hh⟩;have g1:Y (Xy lo base Rb Pb w0 t (0,r.bG) (.returned (I 0)) W6):=(by show Xy _ _ _ _ _ _ _ _ _;rw[W0.out];exact HE);clear H5 h0 z0 W0;clear a0 F0 n0 G0 t0 D0 r0 o0 l0 d0 e0 j0 E0 R0 S0 T0 U0 i0
  go_wp2_with fail
  refine⟨s0,?_⟩
  try (refine Jq ?_;refine⟨s0,?_⟩)
  clear s0;have i1:(fl.length:Int)<(fl.length:Int)+1:=(by omega)
  try simp only[getElem_toArray,getElem_cons_succ,getElem_cons_zero]
  iterate 3 refine Xs rfl (kE (by rintro _ -;go_simp<;>rfl) (by go_simp<;>rfl) ?_)
  refine Jq ?_;refine⟨trivial,?_,?_⟩
  ·go_wp2_with (refine Yd 110 ?_;refine Vl rfl 91 (.tmp 110) (.tmp 106) rfl g (fl.length*10) ((Zp Xq)).toArray rfl rfl H0.out Tryz.infoStmt10 (by kernel_rfl) e1 ?_)
   go_wp2;go_ret;exact HE
  go_wp2_with (refine Yd 110 ?_;refine Vl rfl 91 (.tmp 110) (.tmp 106) rfl g (fl.length*10) ((Zp Xq)).toArray rfl rfl (J0 _) Tryz.infoStmt10 (by kernel_rfl) f1 ?_)
  go_wp2;go_ret;exact g1
end
section
variable{m:Yn}{fl:List FlS}
def zb6(lo base Rb Pb:Nat)(w0 w:World)(ow:Nat->Option Nat)(kp:Nat->Prop)(fl:List FlS)(t:Nat)(aX:Option (Nat×Fl.RS))(op:Int)(av:Bool)(an:Int)(bv:Bool)(bn:Int)(e:Ending)(w':World):Prop:=
 (∀b,b<w.heap.size->b≠Rb->ow 4≠some b->w'.heap[b]?=w.heap[b]?)/\
 (∀x r',aX=some (x,r')->e=.returned (.tuple #[.agg (Zg 3 x op av an bv bn),I 0])/\∃m',Zu lo base Rb Pb w0 w' m'/\Zj r' fl t m'/\m'.fY=kp/\∀j,Zt j->∀b,(m'.v j).ownBlock=some b->ow j=some b\/w.heap.size<=b)/\(aX=none->(∃x:Int,e=.returned (.tuple #[.agg (Zg 3 x op av an bv bn),I 5]))/\Below lo w0 w')
def zi4(h:Zu lo base Rb Pb w0 w m)(hr:Zj r fl t m)(x:L)(hx:x.length<=100000)(op:Int)(av:Bool)(an:Int)(bv:Bool)(bn:Int):
  E 54 #[F Rb,.agg #[I 3,I 0,I 0,I op,.bool av,I an,.bool bv,I bn,K,K],Tq x] w (zb6 lo base Rb Pb w0 w (λj=>(m.v j).ownBlock) m.fY fl t (r.bu x) op av an bv bn):=by
 have bU:=h.bU
 have u0:Rb<w.heap.size:=by omega
 have v0:Y (∀W,D w W->E 30 #[m.v 2,Tq x] W (Rq (I (aj r.cells x)) W)):=λW hW=>Xt ((h.below hW).cells hr) x;have x0:Y (∀W,D w W->E 30 #[m.v 4,Tq x] W (Rq (I (aj r.ap x)) W)):=λW hW=>Xt ((h.below hW).ap hr) x;obtain⟨c2,k2,m0⟩:=h.shape 2 (by unfold Zt;omega);obtain⟨c4,k4,e0⟩:=h.shape 4 (by unfold Zt;omega);rw[hr.r2.1]at m0;rw[hr.r4.1]at e0;have f0:=Z e0;rw[m0]at v0;rw[e0]at x0;have HH:=Z h;have HO:=Z hr;have Q2:Y (∀W,D w W->W.cell? (O Rb 2)=some (A c2 r.cells.length k2)):=λW hW=>cT hW u0 (by rw[<-m0];exact h.cR.c 2 (by omega));have Q4:Y (∀W,D w W->W.cell? (O Rb 4)=some (A c4 r.ap.length k4)):=λW hW=>cT hW u0 (by rw[<-e0];exact h.cR.c 4 (by omega));have HB:Y (∀o o',D w ((w.alloc o).alloc o')):=λo o'=>(bA).alloc (by simp) _;have q2:∀o o',((w.alloc o).alloc o').cell? (O Rb 2)=some (A c2 r.cells.length k2):=λo o'=>Q2 _ (HB _ _);have q4:∀o o',((w.alloc o).alloc o').cell? (O Rb 4)=some (A c4 r.ap.length k4):=λo o'=>Q4 _ (HB _ _);have g0:Y (r.bu x=if 0<=aj r.cells x then some ((aj r.cells x).toNat,r) else if 0<=aj r.ap x then some (r.cells.length+(aj r.ap x).toNat,r) else if r.ap.length=4 then none else some (r.cells.length+r.ap.length,{r with ap:=r.ap++[x]})):=rfl;obtain⟨aX,h0⟩:=J (r.bu x);rw[<-h0]at g0⊢;have M0:=aQ r.cells x;have N0:=aQ r.ap x;have O0:=hr.ce;have bB:=hr.lo;generalize aj r.cells x=pc at*;generalize aj r.ap x=pl at*
 have A0:(r.cells.length:Int)<=6:=by omega
 have B0:(r.ap.length:Int)<=4:=by omega
 have C0: -1<=pc/\pc<=6:=by omega
 have D0: -1<=pl/\pl<=4:=by omega
 clear h hr h0 m0 e0
 go_enter func54,ntmps54
 go_wp2_with fail
 refine(v0 _ (HB _ _)).mono ?_;rintro e w1 ⟨rfl,j0⟩;rw[j0];clear j0 w1
 by_cases hp:0<=pc
 ·have HR:Y (aX=some (pc.toNat,r)):=by show _=_;rw[g0.out,G hp]
  have E1:Y (((pc.toNat:Nat):Int)=pc):=(by show _=_;omega);go_wp2;refine bodyPost_ret (v:=.tuple #[.agg (Zg 3 pc op av an bv bn),I 0]) (by simp[results,results54,go_sem,Zg]) rfl ?_;rw[HR.out];refine⟨λb hb _ _=>(HB _ _).block b hb,λy r' hy=>?_,λh=>by cases h⟩;simp only[Ql,Prod.mk.injEq]at hy;obtain⟨rfl,rfl⟩:=hy;exact⟨by rw[E1.out],m,HH.below (HB _ _),HO,rfl,λj hj b hb=> .inl hb⟩
 have P0:pc<0:=by omega
 clear hp
 go_wp2_with fail
 refine(x0 _ (HB _ _)).mono ?_;rintro e w1 ⟨rfl,j0⟩;rw[j0];clear j0 w1
 by_cases hl:0<=pl
 ·have HR:Y (aX=some (r.cells.length+pl.toNat,r)):=by show _=_;rw[g0.out,U (show ¬0<=pc by omega),G hl]
  have E1:Y (((r.cells.length+pl.toNat:Nat):Int)=(r.cells.length:Int)+pl):=(by show _=_;omega);go_wp2;refine bodyPost_ret (v:=.tuple #[.agg (Zg 3 ((r.cells.length:Int)+pl) op av an bv bn),I 0]) (by simp[results,results54,go_sem,Zg]) rfl ?_;rw[HR.out];refine⟨λb hb _ _=>(HB _ _).block b hb,λy r' hy=>?_,λh=>by cases h⟩;simp only[Ql,Prod.mk.injEq]at hy;obtain⟨rfl,rfl⟩:=hy;exact⟨by rw[E1.out],m,HH.below (HB _ _),HO,rfl,λj hj b hb=> .inl hb⟩
 have Q0:pl<0:=by omega
 clear hl
 by_cases h4:r.ap.length=4
 ·have b4:((r.ap.length:Int)==4)=true:=by simp[h4]
  have HR:Y (aX=none):=(by show _=_;rw[g0.out,U (show ¬0<=pc by omega),U (show ¬0<=pl by omega),G h4]);clear h4;go_wp2;refine bodyPost_ret (v:=.tuple #[.agg (Zg 3 pc op av an bv bn),I 5]) (by simp[results,results54,go_sem,Zg]) rfl ?_;rw[HR.out];exact⟨λb hb _ _=>(HB _ _).block b hb,λy r' hy=>(by cases hy),λ_=>⟨⟨_,rfl⟩,HH.bel.trans ((HB _ _).mono (by omega))⟩⟩
 have b4:((r.ap.length:Int)==4)=false:=by simp;omega
 have HR:Y (aX=some (r.cells.length+r.ap.length,{r with ap:=r.ap++[x]})):=by show _=_;rw[g0.out,U (show ¬0<=pc by omega),U (show ¬0<=pl by omega),U h4]
 have E0:r.ap.length<4:=by omega
 clear h4;obtain⟨i0,F0,G0,H0,I0⟩:=info_parts Tryz.infoStr
 have n0:Y (∀W,D w W->W.ownsRow base 9 1 (A c4 r.ap.length k4) r.ap.length (r.ap.map strV)):=λW hW=>by
  have h1:=(HH.below hW).own 4 (by unfold Zt;omega);rw[HO.r4.1,HO.r4.2,f0.out]at h1;exact h1
 have y0:∀o o' o'',D w (((w.alloc o).alloc o').alloc o''):=λo o' o''=>(HB _ _).alloc (by simp;omega) _;have o0:=Z y0;clear y0
 go_wp2_with (at_builtin;refine Ap underlying48 F0 G0 H0 I0 rfl (n0 _ (o0 _ _ _)) rfl [strV x] rfl rfl (zi2 (by simp)) ?c2 ?c3 ?c4 ?c5 ?_)
 case c2=>intro u hu;simp at hu;subst hu;rfl
 case c3=>unfold maxLen;omega
 case c4=>omega
 case c5=>simp;omega
 intro v' W4 a0 k0 c0;have d0:∀k,(A c4 r.ap.length k4).ownBlock=some k->k<w.heap.size:=λk hk=>((n0 w (Below.refl _ _)).lt k hk).2;have b0:Y (Zu lo base Rb Pb w0 (W4.setCell (O Rb 4) v') (m.app 4 v' [strV x])):=by
  refine HH.jN 4 (by unfold Zt;omega) (by omega) (o0 _ _ _) ?_ (by rw[f0.out];exact k0) (by rw[f0.out];rcases c0 with h1|h1;exact .inl h1;exact .inr (by rw[h1];try simp));rw[HO.r4.1,HO.r4.2];exact a0
 have J0:Y (Zj {r with ap:=r.ap++[x]} fl t (m.app 4 v' [strV x])):=HO.ip x v' hx E0;obtain⟨va',vcap,rfl⟩:∃va vcap,v'=A va (r.ap.length+1) vcap:=by
  rcases a0.2 with⟨h1,h2⟩|⟨g,cp,cur,h1,_⟩
  ·omega
  exact⟨_,cp,h1⟩
 have q4:∀b,b<w.heap.size+2->(A c4 r.ap.length k4).ownBlock≠some b->W4.heap[b]?=_:=λb hb p0=>k0.block b (by simp;omega) (Ne.symm p0)
 have q0:∀b,w.heap.size<=b->(A c4 r.ap.length k4).ownBlock≠some b:=λb hb hh=>by have:=d0 b hh;omega
 have rS:W4.heap[w.heap.size]?=some (.cells #[I 3,I pc,I 0,I op,.bool av,I an,.bool bv,I bn,K,K] 91 (0,0)):=by
  rw[q4 _ (by omega) (q0 _ lE),Below.heap_alloc _ _ _ (by simp;omega),Below.heap_alloc _ _ _ (by simp)];exact heap_alloc_last _ _
 have rE:W4.heap[w.heap.size+1]?=some (.cells Yp 91 (0,0)):=by
  rw[q4 _ (by omega) (q0 _ (by omega)),Below.heap_alloc _ _ _ (by simp)];exact zyx _ _ _ (by simp)
 have z4:W4.cell? (O Rb 4)=some (A c4 r.ap.length k4):=by
  have h1:=b0.cR;have h2:=(HH.own 4 (by unfold Zt;omega)).lt;refine(Qc (a:=(O Rb 4)) (q4 Rb (by omega) (λhh=>by have:=((n0 w (Below.refl _ _)).lt Rb hh).1;omega))).trans ?_;exact Q4 _ (o0 _ _ _)
 have fz:∀j,W4.frozen? (O Rb j)=false:=λj=>by
  have:=b0.cR.z j;rw[frozen?_setCell]at this;exact this
 have s0:W4.cell? (O w.heap.size 0)=some (I 3):=cR 0 rS;have s1:W4.cell? (O w.heap.size 1)=some (I pc):=cR 1 rS;have s2:W4.cell? (O w.heap.size 2)=some (I 0):=cR 2 rS;have s3:W4.cell? (O w.heap.size 3)=some (I op):=cR 3 rS;have s4:W4.cell? (O w.heap.size 4)=some (.bool av):=cR 4 rS;have s5:W4.cell? (O w.heap.size 5)=some (I an):=cR 5 rS;have s6:W4.cell? (O w.heap.size 6)=some (.bool bv):=cR 6 rS;have s7:W4.cell? (O w.heap.size 7)=some (I bn):=cR 7 rS;have s8:W4.cell? (O w.heap.size 8)=some K:=cR 8 rS;have s9:W4.cell? (O w.heap.size 9)=some K:=cR 9 rS
 have sz:∀j,W4.frozen? (O w.heap.size j)=false:=λj=>by simp[frozen?,rS]
 have p0:w.heap.size≠Rb:=by omega
 have c24:W4.cell? (O Rb 2)=some (A c2 r.cells.length k2):=by
  have h1:=b0.cR.c 2 (by omega);have h2:=Q2 w (Below.refl _ _);rw[HH.cR.c 2 (by omega)]at h2;have h4:(W4.setCell (O Rb 4) (A va' (r.ap.length+1) vcap)).cell? (O Rb 2)=W4.cell? (O Rb 2):=Qg _ _ _ _ (by simp);rw[<-h4,h1];exact h2
 have z0:Y (∀v,((W4.setCell (O Rb 4) (A va' (r.ap.length+1) vcap)).setCell (O w.heap.size 1) v).heap[w.heap.size+1]?=some (.cells Yp 91 (0,0))):=λv=>(Zx _ _ _ _ _ (by omega)).trans ((Zx _ _ _ _ _ (by omega)).trans rE);have K0:Y (w.heap.size+2<=W4.heap.size):=by
  show _<=_;have:=k0.size;simp at this;omega
 have L0:Y (∀j,Zt j->∀b,((m.app 4 (A va' (r.ap.length+1) vcap) [strV x]).v j).ownBlock=some b->b≠w.heap.size/\b≠w.heap.size+1):=λj hj b hb=>by
  have hv:(m.app 4 (A va' (r.ap.length+1) vcap) [strV x]).v j=if j=4 then A va' (r.ap.length+1) vcap else m.v j:=rfl;rw[hv]at hb
  by_cases h4:j=4
  ·rw[G h4]at hb
   rcases c0 with h1|h1
   ·rw[h1]at hb;have:=d0 b hb;omega
   rw[h1]at hb;simp at hb;omega
  rw[U h4]at hb;have:=((HH.own j hj).lt b hb).2;omega
 have r0:Y (∀j,Zt j->∀b,((m.app 4 (A va' (r.ap.length+1) vcap) [strV x]).v j).ownBlock=some b->(m.v j).ownBlock=some b\/w.heap.size<=b):=λj hj b hb=>by
  have hv:(m.app 4 (A va' (r.ap.length+1) vcap) [strV x]).v j=if j=4 then A va' (r.ap.length+1) vcap else m.v j:=rfl;rw[hv]at hb
  by_cases h4:j=4
  ·rw[G h4]at hb
   rcases c0 with h1|h1
   ·left;rw[h4,f0.out,<-h1];exact hb
   right;rw[h1]at hb;simp at hb;omega
  rw[U h4]at hb;exact .inl hb
 have t0:Y (∀b,b<w.heap.size->(A c4 r.ap.length k4).ownBlock≠some b->W4.heap[b]?=w.heap[b]?):=λb hb p0=>(k0.block b (by simp;omega) (Ne.symm p0)).trans ((o0 _ _ _).block b hb);clear a0 k0 c0 q4 q0 rS rE d0 n0
 go_wp2_with (refine zw8 rfl (.tmp 6) (.tmp 54) 91 rfl (w.heap.size+1) rfl Yp (Zg 3 ((r.cells.length:Int)+(r.ap.length:Int)) op av an bv bn) rfl 91 (z0 _) Tryz.infoStmt10 rfl (by simp[Zg,oneCell']) ?_)
 refine bodyPost_ret (v:=.tuple #[.agg (Zg 3 ((r.cells.length:Int)+(r.ap.length:Int)) op av an bv bn),I 0]) ?_ rfl ?_
 ·exact zrv (p:=6) (q:=7) (ty:=91) results54 _ _ (O (w.heap.size+1) 0) _ rfl (run_loadVar_row _ _ _ _ _ _ _ (setRow_heap _ _ _ _ _ _ (z0 _)) underlying91 rfl Tryz.infoStmt10)
 rw[HR.out];refine⟨λb hb h1 h2=>?_,λy r' hy=>?_,λh=>by cases h⟩
 ·rw[setRow_other _ _ _ _ (by omega),Zx _ _ _ _ _ (by omega),Zx _ _ _ _ _ h1]
  exact t0 b hb (by rw[<-f0.out];exact h2)
 simp only[Ql,Prod.mk.injEq]at hy;obtain⟨rfl,rfl⟩:=hy;refine⟨by push_cast;rfl,_,?_,J0,rfl,r0⟩;have hz:=K0.out;refine b0.aside ?_ ?_ (λb hb=>?_) ?_
 ·exact below_setRow (b0.bel.setCell (show lo<=w.heap.size by omega) _) (by omega) _
 ·simp only[setRow,Array.size_modify,Zy];omega
 ·have l0:b≠w.heap.size/\b≠w.heap.size+1:=by
   rcases hb with rfl|rfl|⟨j,hj,hb⟩|hb
   ·omega
   ·omega
   ·exact L0 j hj b hb
   have:=(HH.kp b hb).2.1;omega
  rw[setRow_other _ _ _ _ l0.2,Zx _ _ _ _ _ l0.1]
 simp only[setRow,Array.size_modify,Zy];exact Nat.le_refl _
end
def Va(r:Fl.RS)(n:L)(v:List L):Nat×aa×Fl.RS:=match r.value v with
 |none=>(4,noS,r)
 |some e=>if 0<=aj r.ai n then(4,noS,r) else match r.bu n with
  |none=>(5,noS,r)
  |some (x,r')=>(0,⟨3,x,0,e,[],[]⟩,r')
abbrev SAt(W:World)(s b off:Nat)(op:Int)(av:Bool)(an:Int)(bv:Bool)(bn:Int)(n:L):Prop:=
 W.cell? (O s 0)=some (I 3)/\W.cell? (O s 1)=some (I 0)/\W.cell? (O s 2)=some (I 0)/\W.cell? (O s 3)=some (I op)/\W.cell? (O s 4)=some (.bool av)/\W.cell? (O s 5)=some (I an)/\W.cell? (O s 6)=some (.bool bv)/\W.cell? (O s 7)=some (I bn)/\W.cell? (O s 8)=some K/\W.cell? (O s 9)=some K/\W.cell? (O b (off+1))=some (Tq n)
def SAt.of{s off:Nat}{op an bn:Int}{av bv:Bool}{n:L}(h:W.heap[s]?=some (.cells (Zg 3 0 op av an bv bn) 91 (0,0)))(h2:W.cell? (O b (off+1))=some (Tq n)):SAt W s b off op av an bv bn n:=
 ⟨cR 0 h,cR 1 h,cR 2 h,cR 3 h,cR 4 h,cR 5 h,cR 6 h,cR 7 h,cR 8 h,cR 9 h,h2⟩
section
variable{m:Yn}{fl:List FlS}
def st_set3(h:Zu lo base Rb Pb w0 w m)(hr:Zj r fl t m)(b off cap:Nat)(n a:L)(ha:a.length<=100000)(S0:n.length<=100000)(hb:b<w.heap.size)(B0:b≠Rb/\∀j,Zt j->(m.v j).ownBlock≠some b)(T0:3<=cap/\cap<=maxLen)(c0:w.cell? (O b off)=some (.string ⟨#[115,101,116]⟩))(c1:w.cell? (O b (off+1))=some (Tq n))(c2:w.cell? (O b (off+2))=some (Tq a)):
  E 32 #[F Rb,Sq b off 3 cap] w (zw1 lo base Rb Pb w0 w m fl t (Va r n [a])):=by
 have bU:=h.bU
 have U0:Rb<w.heap.size:=by omega
 have HH:=Z h;have HO:=Z hr;have C0:Y (∀W,D w W->E 53 #[F Rb,Tq a] W (zo2 (r.atom a) W)):=λW hW=>ztw (h.below hW) hr a ha;have D0:Y (∀W,D w W->E 30 #[m.v 3,Tq n] W (Rq (I (aj r.ai n)) W)):=λW hW=>Xt ((h.below hW).ai hr) n;obtain⟨c3,k3,n0⟩:=h.shape 3 (by unfold Zt;omega);rw[hr.r3.1]at n0;rw[n0]at D0;have r0:Y (∀W,D w W->M W Rb 3 (A c3 r.ai.length k3)/\M W b (off+1) (Tq n)):=λW hW=>⟨cT hW U0 (by rw[<-n0];exact h.cR.c 3 (by omega)),cT hW hb c1⟩;have f1:=aQ r.ai n;have g1:=hr.ch
 have f0:Y (Va r n [a]=match r.atom a with|none=>(4,noS,r)|some x=>if 0<=aj r.ai n then(4,noS,r) else match r.bu n with
  |none=>(5,noS,r)
  |some (y,r')=>(0,⟨3,y,0,⟨-1,x,ju⟩,[],[]⟩,r')):=by
  show _=_;have hv:r.value [a]=(r.atom a).map λx=>⟨-1,x,ju⟩:=rfl;unfold Va;rw[hv];generalize r.atom a=o
  cases o<;>rfl
 obtain⟨aX,g0⟩:=J (Va r n [a]);rw[<-g0]at f0⊢;obtain⟨oa,E0⟩:=J (r.atom a);rw[<-E0]at C0 f0;generalize aj r.ai n=pc at*
 have F0:(3:Int)<=(cap:Int):=by omega
 have V0: -1<=pc/\pc<=3:=by omega
 have HB:Y (∀o o',D w ((w.alloc o).alloc o')):=λo o'=>(bA).alloc (by simp) _;have W0:Y (∀W,D w W->∀(av:Bool) (an:Int),E 54 #[F Rb,.agg #[I 3,I 0,I 0,I (-1),.bool av,I an,.bool false,I 0,K,K],Tq n] W (zb6 lo base Rb Pb w0 W (λj=>(m.v j).ownBlock) m.fY fl t (r.bu n) (-1) av an false 0)):=λW hW av an=>zi4 (h.below hW) hr n S0 (-1) av an false 0;have X0:Y (∀b,m.fY b->b<w.heap.size):=λb hb=>(h.kp b hb).2.1;have a0:Y (∀j,Zt j->∀b,(m.v j).ownBlock=some b->b<w.heap.size):=λj hj b hb=>((h.own j hj).lt b hb).2;clear h hr g0 E0 n0 c1
 go_enter func32,ntmps32
 go_wp2_with fail
 refine(C0 _ (HB _ _)).mono ?_;rintro e W1 ⟨h0,aS,i0⟩;have rE:W1.heap[w.heap.size]?=some (.cells Yp 91 (0,0)):=by
  rw[h0.block _ (by simp;omega),Below.heap_alloc _ _ _ (by simp)];exact zyx _ _ _ rfl
 have rS:W1.heap[w.heap.size+1]?=some (.cells (Zg 3 0 (-1) false 0 false 0) 91 (0,0)):=by
  rw[h0.block _ (by simp)];exact zyx _ _ _ (by simp)
 have Y0:=Z ((HB _ _).trans (h0.mono (by simp;omega)))
 have Z0:w.heap.size+2<=W1.heap.size:=by have:=h0.size;simp at this;omega
 have G0:w.heap.size+1<W1.heap.size:=by omega
 have H0:w.heap.size<W1.heap.size:=by omega
 have s4:M W1 (w.heap.size+1) 4 (.bool false):=cR 4 rS;have s5:M W1 (w.heap.size+1) 5 (I 0):=cR 5 rS
 have sz:∀j,W1.frozen? (O (w.heap.size+1) j)=false:=λj=>by simp[frozen?,rS]
 have HX:Y (∀(u:Bool) (v:Int) a,D w (((W1.setCell (O (w.heap.size+1) 4) (.bool u)).setCell (O (w.heap.size+1) 5) (I v)).alloc a).drew/\
   (((W1.setCell (O (w.heap.size+1) 4) (.bool u)).setCell (O (w.heap.size+1) 5) (I v)).alloc a).drew.heap[w.heap.size]?=some (.cells Yp 91 (0,0))/\
   (((W1.setCell (O (w.heap.size+1) 4) (.bool u)).setCell (O (w.heap.size+1) 5) (I v)).alloc a).drew.heap[w.heap.size+1]?=some (.cells (Zg 3 0 (-1) u v false 0) 91 (0,0))/\
   w.heap.size+1<(((W1.setCell (O (w.heap.size+1) 4) (.bool u)).setCell (O (w.heap.size+1) 5) (I v)).alloc a).drew.heap.size):=λu v a=>by
  refine⟨(((Y0.setCell (by show w.heap.size<=w.heap.size+1;omega) _).setCell (by show w.heap.size<=w.heap.size+1;omega) _).alloc (by rw[Zy,Zy];omega) _).drew,?_,?_,?_⟩
  ·show (((W1.setCell _ _).setCell _ _).alloc a).heap[w.heap.size]?=_
   rw[Below.heap_alloc _ _ _ (by rw[Zy,Zy];exact H0),Zx _ _ _ _ _ (by omega),Zx _ _ _ _ _ (by omega)];exact rE
  ·show (((W1.setCell _ _).setCell _ _).alloc a).heap[w.heap.size+1]?=_
   rw[Below.heap_alloc _ _ _ (by rw[Zy,Zy];exact G0)];exact zy0 (zy0 rS 4 _ _ rfl) 5 _ _ rfl
  show w.heap.size+1<(((W1.setCell _ _).setCell _ _).alloc a).heap.size;simp[Zy];omega
 obtain⟨u,v,ok,rfl,I0⟩:∃(u:Bool) (v:Int) (ok:Bool),e=.returned (.tuple #[.agg #[.bool u,I v],.bool ok])/\((oa=none/\ok=false)\/∃x,oa=some x/\ok=true/\u=x.var/\v=(x.v:Int)):=by
  cases oa with
  |none=>obtain⟨v,hv⟩:=i0 rfl;exact⟨_,_,_,hv,.inl ⟨rfl,rfl⟩⟩
  |some x=>exact⟨_,_,_,aS x rfl,.inr ⟨x,rfl,rfl,rfl,rfl⟩⟩
 have j0:=Z I0;clear rE rS h0 aS i0 I0 c2
 go_wp2_with fail
 refine Zd (λW=>D w W) [7] [] [] (HX _ _ _).1 (by kernel_rfl) (λ_ _ _ _ h=>h) (λops hG=>?_);clear hG
 iterate 7 refine Uo rfl (kE (by intro w' hw';obtain⟨x0,x1⟩:=r0 w' hw';clear hw';go_simp<;>rfl) (by go_simp<;>rfl) ?_)
 refine Zm ?_
 go_wp2_with fail
 refine(D0 _ (HX _ _ _).1).mono ?_;rintro e w1 ⟨rfl,J0⟩;rw[J0];clear J0 w1
 go_wp2_with fail
 refine⟨(HX _ _ _).1,?_⟩;refine Zv rfl (by rintro _ -;go_simp<;>rfl) (by go_simp<;>rfl) ?_;refine Zs ?_;obtain⟨X,s0⟩:=J ((((W1.setCell (O (w.heap.size+1) 4) (.bool u)).setCell (O (w.heap.size+1) 5) (I v)).alloc (.cells #[.bool u,I v] 87)).drew);have K0:=HX u v (.cells #[.bool u,I v] 87);rw[<-s0]at K0;obtain⟨x1,x2,x3,x4⟩:=K0;have b0:=Z x1;have k0:=Z x2;have o0:=Z x3;rw[<-s0];clear s0 x1 x2 x3 s4 s5 sz Z0 G0 H0
 cases ok with
 |false=>
  have HR:Y (aX=(4,noS,r)):=by
   show _=_;rcases j0.out with⟨h1,-⟩|⟨x,-,h2,-⟩
   ·rw[f0.out,h1]
   cases h2
  go_wp2_with (first|(refine zt3 6 ?_;refine Vu (w.heap.size+1) (Zg 3 0 (-1) u v false 0) o0 rfl rfl ?_)|(refine Yd 4 ?_;refine Yt w.heap.size Yp (Zg 3 0 (-1) u v false 0) k0 rfl rfl (Xv _ _ _ _ _ _ _) rfl rfl ?_))
  refine Jh results32 k0 rfl rfl rfl rfl ?_;rw[HR.out];exact⟨λh=>(by cases h),λ_=>⟨⟨_,_,_,_,_,_,_,rfl⟩,(HH.below (below_setRow b0 lE _)).bel⟩⟩
 |true=>
  obtain⟨x,hx,rfl,rfl⟩:∃x,oa=some x/\u=x.var/\v=(x.v:Int):=by
   rcases j0.out with⟨-,h2⟩|⟨x,h1,-,h3,h4⟩
   ·cases h2
   exact⟨x,h1,h3,h4⟩
  subst hx
  by_cases hp:0<=pc
  ·have HR:Y (aX=(4,noS,r)):=by show _=_;rw[f0.out];exact G hp
   have t0:¬pc<0:=(by omega);have hd:=decide_eq_false t0
   go_wp2_with (first|(refine zt3 6 ?_;refine Vu (w.heap.size+1) (Zg 3 0 (-1) x.var x.v false 0) o0 rfl rfl ?_)|(refine Yd 4 ?_;refine Yt w.heap.size Yp (Zg 3 0 (-1) x.var x.v false 0) k0 rfl rfl (Xv _ _ _ _ _ _ _) rfl rfl ?_))
   refine Jh results32 k0 rfl rfl rfl rfl ?_;rw[HR.out];exact⟨λh=>(by cases h),λ_=>⟨⟨_,_,_,_,_,_,_,rfl⟩,(HH.below (below_setRow b0 lE _)).bel⟩⟩
  have t0:pc<0:=(by omega);have hd:=decide_eq_true t0;have L0:Y (aX=match r.bu n with|none=>(5,noS,r)|some (y,r')=>(0,⟨3,y,0,⟨-1,x,ju⟩,[],[]⟩,r')):=(by show _=_;rw[f0.out];exact U hp);have p0:Y (∀W:World,W.heap[w.heap.size+1]?=some (.cells (Zg 3 0 (-1) x.var x.v false 0) 91 (0,0))->M W b (off+1) (Tq n)->SAt W (w.heap.size+1) b off (-1) x.var x.v false 0 n):=λW h1 h2=>SAt.of h1 h2;clear hp
  go_wp2_with fail
  refine Zd (λW=>SAt W (w.heap.size+1) b off (-1) x.var x.v false 0 n) [5,8] [] [] (p0 _ o0 (r0 X b0).2) (by kernel_rfl) (λ_ _ _ _ h=>h) (λops hG=>?_);clear hG
  iterate 5 refine Zv rfl (by intros;go_simp<;>rfl) (by go_simp<;>rfl) ?_
  refine Zm ?_
  go_wp2_with fail
  refine(W0 X.drew b0.drew x.var x.v).mono ?_;rintro e W5 ⟨l0,hg,u0⟩;have a1:=Z l0;have M0:=(l0 w.heap.size (by show w.heap.size<X.heap.size;omega) (by omega) (λhh=>by have:=a0 4 (by unfold Zt;omega) _ hh;omega)).trans k0.out;have v0:=(l0 (w.heap.size+1) (by show w.heap.size+1<X.heap.size;omega) (by omega) (λhh=>by have:=a0 4 (by unfold Zt;omega) _ hh;omega)).trans o0.out;have y0:=cQ (l0 b (by show b<X.heap.size;omega) B0.1 (B0.2 4 (by unfold Zt;omega))) (r0 X b0).2;have q0:=Z M0;have N0:=Z (p0 W5 v0 y0);have O0:Y (∀c:Array Value,SAt (W5.setRow w.heap.size c) (w.heap.size+1) b off (-1) x.var x.v false 0 n):=λc=>p0 _ ((setRow_other W5 w.heap.size (w.heap.size+1) c (by omega)).trans v0) (cQ (setRow_other W5 w.heap.size b c (by omega)) y0);have P0:lo<=w.heap.size:=(by omega);clear M0 l0 v0 y0 p0
  cases e0:r.bu n with
  |none=>
   obtain⟨⟨y,rfl⟩,Q0⟩:=u0 e0;have HR:Y (aX=(5,noS,r)):=(by show _=_;rw[L0.out,e0]);have b1:=Z Q0;clear hg u0 Q0 e0
   go_wp2_with fail
   refine⟨N0,?_⟩
   iterate 2 refine Zv rfl (by rintro _ -;go_simp<;>rfl) (by go_simp<;>rfl) ?_
   refine Zm ?_
   go_wp2_with (refine Yd 4 ?_;refine Yt w.heap.size Yp (Zg 3 y (-1) x.var x.v false 0) q0 rfl rfl (Xv _ _ _ _ _ _ _) rfl rfl ?_)
   refine⟨O0 _,?_⟩;refine Zv rfl (by rintro _ -;go_simp<;>rfl) (by go_simp<;>rfl) ?_;refine Zs ?_
   go_wp2_with fail
   refine Jh results32 q0 rfl rfl rfl rfl ?_;rw[HR.out];exact⟨λh=>(by cases h),λ_=>⟨⟨_,_,_,_,_,_,_,rfl⟩,below_setRow b1 P0 _⟩⟩
  |some yr=>
   obtain⟨y,r'⟩:=yr;obtain⟨rfl,m',hm',R0,m0,d0⟩:=hg y r' e0;have HR:Y (aX=(0,⟨3,y,0,⟨-1,x,ju⟩,[],[]⟩,r')):=(by show _=_;rw[L0.out,e0]);have HM:Y (Zu lo base Rb Pb w0 (W5.setRow w.heap.size (Zg 3 y (-1) x.var x.v false 0)) m'):=by
    refine hm'.aside (below_setRow hm'.bel P0 _) (by simp only[setRow,Array.size_modify];exact hm'.bU.2.2.2.2.2.1) (λb hb=>setRow_other _ _ _ _ ?_) (by simp only[setRow,Array.size_modify];exact Nat.le_refl _);rcases hb with rfl|rfl|⟨j,hj,hb⟩|hb
    ·omega
    ·omega
    ·rcases d0 j hj b hb with h1|h1
     ·have:=a0 j hj b h1;omega
     have:X.heap.size<=b:=h1;omega
    rw[m0]at hb;have:=X0 b hb;omega
   have A0:Y (znx Rb w m (W5.setRow w.heap.size (Zg 3 y (-1) x.var x.v false 0)) m'):=λb hb d1 dt=>by
    have i1:=b0.size;refine⟨(setRow_other _ _ _ _ (by omega)).trans ((a1 b (by show b<X.heap.size;omega) d1 (dt 4 (by unfold Zt;omega))).trans (b0.block b hb)),λj hj hh=>?_⟩;rcases d0 j hj b hh with h1|h1
    ·exact dt j hj h1
    have:X.heap.size<=b:=h1;omega
   have e1:=Z R0;clear hg u0 e0 hm' R0 d0
   go_wp2_with fail
   refine⟨N0,?_⟩
   iterate 2 refine Zv rfl (by rintro _ -;go_simp<;>rfl) (by go_simp<;>rfl) ?_
   refine Zm ?_
   go_wp2_with (refine Yd 4 ?_;refine Yt w.heap.size Yp (Zg 3 y (-1) x.var x.v false 0) q0 rfl rfl (Xv _ _ _ _ _ _ _) rfl rfl ?_)
   refine⟨O0 _,?_⟩;refine Zv rfl (by rintro _ -;go_simp<;>rfl) (by go_simp<;>rfl) ?_;refine Zs ?_
   go_wp2_with fail
   refine Jh results32 q0 rfl rfl rfl rfl ?_;rw[HR.out];exact⟨λ_=>⟨rfl,m',HM,e1,A0⟩,λh=>absurd rfl h⟩
end
def yqv(W:World)(o:L):E 30 #[Sq W.heap.size 0 5 5,Tq o] (W.alloc (.cells #[.string ⟨#[43]⟩,.string ⟨#[45]⟩,.string ⟨#[42]⟩,.string ⟨#[60]⟩,.string ⟨#[61,61]⟩] 9)) λe w'=>e=.returned (I (aj cW o))/\w'=W.alloc (.cells #[.string ⟨#[43]⟩,.string ⟨#[45]⟩,.string ⟨#[42]⟩,.string ⟨#[60]⟩,.string ⟨#[61,61]⟩] 9):=by
 have:=zm9 _ _ (⟨o.toArray⟩:ByteArray) _ (ys0 W);rw[ytv,Yw]at this;exact this
section
variable{m:Yn}{fl:List FlS}
def st_set5(h:Zu lo base Rb Pb w0 w m)(hr:Zj r fl t m)(b off cap:Nat)(n a o b2:L)(ha:a.length<=100000)(m1:b2.length<=100000)(n1:n.length<=100000)(hb:b<w.heap.size)(U0:b≠Rb/\∀j,Zt j->(m.v j).ownBlock≠some b)(p1:5<=cap/\cap<=maxLen)(c0:w.cell? (O b off)=some (.string ⟨#[115,101,116]⟩))(c1:w.cell? (O b (off+1))=some (Tq n))(c2:w.cell? (O b (off+2))=some (Tq a))(c3':w.cell? (O b (off+3))=some (Tq o))(c4':w.cell? (O b (off+4))=some (Tq b2)):
  E 32 #[F Rb,Sq b off 5 cap] w (zw1 lo base Rb Pb w0 w m fl t (Va r n [a,o,b2])):=by
 have bU:=h.bU
 have q1:Rb<w.heap.size:=by omega
 have HH:=Z h;have HO:=Z hr;have V0:Y (∀W,D w W->E 53 #[F Rb,Tq a] W (zo2 (r.atom a) W)):=λW hW=>ztw (h.below hW) hr a ha;have l0:Y (∀W,D w W->E 53 #[F Rb,Tq b2] W (zo2 (r.atom b2) W)):=λW hW=>ztw (h.below hW) hr b2 m1;have m0:Y (∀W,D w W->M W b (off+3) (Tq o)/\M W b (off+4) (Tq b2)):=λW hW=>⟨cT hW hb c3',cT hW hb c4'⟩;have W0:Y (∀W,D w W->E 30 #[m.v 3,Tq n] W (Rq (I (aj r.ai n)) W)):=λW hW=>Xt ((h.below hW).ai hr) n;obtain⟨c3,k3,E0⟩:=h.shape 3 (by unfold Zt;omega);rw[hr.r3.1]at E0;rw[E0]at W0;have J0:Y (∀W,D w W->M W Rb 3 (A c3 r.ai.length k3)/\M W b (off+1) (Tq n)):=λW hW=>⟨cT hW q1 (by rw[<-E0];exact h.cR.c 3 (by omega)),cT hW hb c1⟩;have G1:=aQ r.ai n;have H1:=hr.ch
 have d0:Y (Va r n [a,o,b2]=match r.atom a,r.atom b2 with
  |some x,some y=>(if 0<=aj r.ai n then(4,noS,r) else match r.bu n with
   |none=>(5,noS,r)
   |some (z,r')=>(0,⟨3,z,0,⟨aj cW o,x,y⟩,[],[]⟩,r'))
  |_,_=>(4,noS,r)):=by
  show _=_;have hv:r.value [a,o,b2]=(r.atom a).bind λx=>(r.atom b2).map λy=>⟨aj cW o,x,y⟩:=rfl;unfold Va;rw[hv];generalize r.atom a=o1;generalize r.atom b2=o2
  cases o1<;>cases o2<;>rfl
 obtain⟨aX,n0⟩:=J (Va r n [a,o,b2]);rw[<-n0]at d0⊢;obtain⟨oa,X0⟩:=J (r.atom a);obtain⟨ob,Z0⟩:=J (r.atom b2);rw[<-X0]at V0 d0;rw[<-Z0]at l0 d0;have r1:=aQ cW o;have s1:cW.length=5:=rfl;have t1:Y (∀W:World,E 30 #[Sq W.heap.size 0 5 5,Tq o] (W.alloc (.cells #[.string ⟨#[43]⟩,.string ⟨#[45]⟩,.string ⟨#[42]⟩,.string ⟨#[60]⟩,.string ⟨#[61,61]⟩] 9)) λe w'=>e=.returned (I (aj cW o))/\w'=W.alloc (.cells #[.string ⟨#[43]⟩,.string ⟨#[45]⟩,.string ⟨#[42]⟩,.string ⟨#[60]⟩,.string ⟨#[61,61]⟩] 9)):=λW=>yqv W o;generalize aj cW o=op at*
 have I1: -1<=op/\op<=4:=by omega
 generalize aj r.ai n=pc at*
 have a1:(5:Int)<=(cap:Int):=by omega
 have u1: -1<=pc/\pc<=3:=by omega
 have HB:Y (∀o o',D w ((w.alloc o).alloc o')):=λo o'=>(bA).alloc (by simp) _;have v1:Y (∀W,D w W->∀(av:Bool) (an:Int) (av2:Bool) (an2:Int),E 54 #[F Rb,.agg #[I 3,I 0,I 0,I op,.bool av,I an,.bool av2,I an2,K,K],Tq n] W (zb6 lo base Rb Pb w0 W (λj=>(m.v j).ownBlock) m.fY fl t (r.bu n) op av an av2 an2)):=λW hW av an av2 an2=>zi4 (h.below hW) hr n n1 op av an av2 an2;have y1:Y (∀b,m.fY b->b<w.heap.size):=λb hb=>(h.kp b hb).2.1;have e0:Y (∀j,Zt j->∀b,(m.v j).ownBlock=some b->b<w.heap.size):=λj hj b hb=>((h.own j hj).lt b hb).2;clear h hr n0 X0 Z0 E0 c1 c3' c4' r1 s1
 go_enter func32,ntmps32
 go_wp2_with fail
 refine(V0 _ (HB _ _)).mono ?_;rintro e W1 ⟨o0,aS,a0⟩;have rE:W1.heap[w.heap.size]?=some (.cells Yp 91 (0,0)):=by
  rw[o0.block _ (by simp;omega),Below.heap_alloc _ _ _ (by simp)];exact zyx _ _ _ rfl
 have rS:W1.heap[w.heap.size+1]?=some (.cells (Zg 3 0 (-1) false 0 false 0) 91 (0,0)):=by
  rw[o0.block _ (by simp)];exact zyx _ _ _ (by simp)
 have F0:=Z ((HB _ _).trans (o0.mono (by simp;omega)))
 have A1:w.heap.size+2<=W1.heap.size:=by have:=o0.size;simp at this;omega
 have p0:w.heap.size+1<W1.heap.size:=by omega
 have q0:w.heap.size<W1.heap.size:=by omega
 have s4:M W1 (w.heap.size+1) 4 (.bool false):=cR 4 rS;have s5:M W1 (w.heap.size+1) 5 (I 0):=cR 5 rS
 have sz:∀j,W1.frozen? (O (w.heap.size+1) j)=false:=λj=>by simp[frozen?,rS]
 obtain⟨u,v,ok1,rfl,r0⟩:∃(u:Bool) (v:Int) (ok:Bool),e=.returned (.tuple #[.agg #[.bool u,I v],.bool ok])/\((oa=none/\ok=false)\/∃x,oa=some x/\ok=true/\u=x.var/\v=(x.v:Int)):=by
  cases oa with
  |none=>obtain⟨v,hv⟩:=a0 rfl;exact⟨_,_,_,hv,.inl ⟨rfl,rfl⟩⟩
  |some x=>exact⟨_,_,_,aS x rfl,.inr ⟨x,rfl,rfl,rfl,rfl⟩⟩
 have s0:=Z r0;have s3:M W1 (w.heap.size+1) 3 (I (-1)):=cR 3 rS;have RE1:=Z rE;have RS1:=Z rS;clear rE rS o0 aS a0 r0 c2
 go_wp2_with fail
 refine(yz7 _).mono ?_;rintro e w1 ⟨rfl,b0⟩;rw[b0];clear b0 w1;obtain⟨Y0,j0⟩:=J (((W1.setCell (O (w.heap.size+1) 4) (.bool u)).setCell (O (w.heap.size+1) 5) (I v)).alloc (.cells #[.bool u,I v] 87))
 have B1:w.heap.size+2<=Y0.heap.size:=by rw[j0];simp[Zy];omega
 have K0:D w Y0:=by
  rw[j0];exact((F0.setCell (by show w.heap.size<=w.heap.size+1;omega) _).setCell (by show w.heap.size<=w.heap.size+1;omega) _).alloc (by rw[Zy,Zy];omega) _
 have rEY:Y0.heap[w.heap.size]?=some (.cells Yp 91 (0,0)):=by
  rw[j0,Below.heap_alloc _ _ _ (by rw[Zy,Zy];exact q0),Zx _ _ _ _ _ (by omega),Zx _ _ _ _ _ (by omega)];exact RE1
 have rSY:Y0.heap[w.heap.size+1]?=some (.cells (Zg 3 0 (-1) u v false 0) 91 (0,0)):=by
  rw[j0,Below.heap_alloc _ _ _ (by rw[Zy,Zy];exact p0)];exact zy0 (zy0 RS1 4 _ _ rfl) 5 _ _ rfl
 rw[<-j0];clear j0 s3 s4 s5 sz A1 p0 q0 RE1 RS1 F0
 have L0:w.heap.size+1<Y0.heap.size:=by omega
 have y3:=cR 3 rSY
 have yz:∀j,Y0.frozen? (O (w.heap.size+1) j)=false:=λj=>by simp[frozen?,rSY]
 have M0:Y (∀o',D w (Y0.alloc o')):=λo'=>K0.alloc (by omega) _;have w3:∀o',M (Y0.alloc o') b (off+3) (Tq o):=λo'=>(m0 _ (M0 o')).1
 go_wp2_with fail
 refine(t1 Y0).mono ?_;rintro e w1 ⟨rfl,b0⟩;rw[b0];clear b0 w1;have f0:Y (∀v o',D w ((Y0.setCell (O (w.heap.size+1) 3) v).alloc o')):=λv o'=>(K0.setCell (by show w.heap.size<=w.heap.size+1;omega) _).alloc (by rw[Zy];omega) _;have w4:∀v o',((Y0.setCell (O (w.heap.size+1) 3) v).alloc o').cell? (O b (off+4))=some (Tq b2):=λv o'=>(m0 _ (f0 v o')).2
 go_wp2_with fail
 refine(l0 _ (f0 _ _)).mono ?_;rintro e W2 ⟨hb2',aS,a0⟩
 have N0:w.heap.size+2<=W2.heap.size:=by have:=hb2'.size;simp[Zy]at this;omega
 have rE2:W2.heap[w.heap.size]?=some (.cells Yp 91 (0,0)):=by
  rw[hb2'.block _ (by simp[Zy];omega),Below.heap_alloc _ _ _ (by rw[Zy];omega),Zx _ _ _ _ _ (by omega)];exact rEY
 have rS2:W2.heap[w.heap.size+1]?=some (.cells (Zg 3 0 op u v false 0) 91 (0,0)):=by
  rw[hb2'.block _ (by simp[Zy];omega),Below.heap_alloc _ _ _ (by rw[Zy];omega)];exact zy0 rSY 3 _ _ rfl
 have F0:=Z ((f0 _ _).trans (hb2'.mono (by simp[Zy];omega)))
 have p0:w.heap.size+1<W2.heap.size:=by omega
 have q0:w.heap.size<W2.heap.size:=by omega
 have s6:M W2 (w.heap.size+1) 6 (.bool false):=cR 6 rS2;have s7:M W2 (w.heap.size+1) 7 (I 0):=cR 7 rS2
 have sz:∀j,W2.frozen? (O (w.heap.size+1) j)=false:=λj=>by simp[frozen?,rS2]
 obtain⟨u2,v2,ok2,rfl,t0⟩:∃(u:Bool) (v:Int) (ok:Bool),e=.returned (.tuple #[.agg #[.bool u,I v],.bool ok])/\((ob=none/\ok=false)\/∃x,ob=some x/\ok=true/\u=x.var/\v=(x.v:Int)):=by
  cases ob with
  |none=>obtain⟨v,hv⟩:=a0 rfl;exact⟨_,_,_,hv,.inl ⟨rfl,rfl⟩⟩
  |some x=>exact⟨_,_,_,aS x rfl,.inr ⟨x,rfl,rfl,rfl,rfl⟩⟩
 have u0:=Z t0
 have HX:Y (∀(u2:Bool) (v2:Int) a,D w (((W2.setCell (O (w.heap.size+1) 6) (.bool u2)).setCell (O (w.heap.size+1) 7) (I v2)).alloc a).drew/\
   (((W2.setCell (O (w.heap.size+1) 6) (.bool u2)).setCell (O (w.heap.size+1) 7) (I v2)).alloc a).drew.heap[w.heap.size]?=some (.cells Yp 91 (0,0))/\
   (((W2.setCell (O (w.heap.size+1) 6) (.bool u2)).setCell (O (w.heap.size+1) 7) (I v2)).alloc a).drew.heap[w.heap.size+1]?=some (.cells (Zg 3 0 op u v u2 v2) 91 (0,0))/\
   w.heap.size+1<(((W2.setCell (O (w.heap.size+1) 6) (.bool u2)).setCell (O (w.heap.size+1) 7) (I v2)).alloc a).drew.heap.size):=λu2 v2 a=>by
  refine⟨(((F0.setCell (by show w.heap.size<=w.heap.size+1;omega) _).setCell (by show w.heap.size<=w.heap.size+1;omega) _).alloc (by rw[Zy,Zy];omega) _).drew,?_,?_,?_⟩
  ·show (((W2.setCell _ _).setCell _ _).alloc a).heap[w.heap.size]?=_
   rw[Below.heap_alloc _ _ _ (by rw[Zy,Zy];exact q0),Zx _ _ _ _ _ (by omega),Zx _ _ _ _ _ (by omega)];exact rE2
  ·show (((W2.setCell _ _).setCell _ _).alloc a).heap[w.heap.size+1]?=_
   rw[Below.heap_alloc _ _ _ (by rw[Zy,Zy];exact p0)];exact zy0 (zy0 rS2 6 _ _ rfl) 7 _ _ rfl
  show w.heap.size+1<(((W2.setCell _ _).setCell _ _).alloc a).heap.size;simp[Zy];omega
 obtain⟨ok,g0⟩:=J ((ok1 && ok2));have v0:Y (((oa=none\/ob=none)/\ok=false)\/∃x y,oa=some x/\ob=some y/\ok=true/\u=x.var/\v=(x.v:Int)/\u2=y.var/\v2=(y.v:Int)):=by
  show _\/_;rw[g0];rcases s0.out with⟨h1,h2⟩|⟨x,h1,h2,h3,h4⟩
  ·left;rw[h2];exact⟨.inl h1,rfl⟩
  rcases u0.out with⟨g1,g2⟩|⟨y,g1,g2,g3,g4⟩
  ·left;rw[h2,g2];exact⟨.inr g1,rfl⟩
  right;rw[h2,g2];exact⟨x,y,h1,g1,rfl,h3,h4,g3,g4⟩
 clear rE2 rS2 hb2' aS a0 t0 rEY rSY y3 yz w3 w4 B1 L0 K0 s0 u0;have y0:=Z g0;clear g0
 cases ok1<;>cases ok2
 all_goals
  have A0:=y0.out;simp only[Bool.and_true,Bool.and_false,Bool.true_and,Bool.false_and,Bool.and_self]at A0;subst A0;clear y0
  go_wp2_with fail
  refine Zd (λW=>D w W) [7] [] [] (HX _ _ _).1 (by kernel_rfl) (λ_ _ _ _ h=>h) (λops hG=>?_);clear hG
  iterate 7 refine Uo rfl (kE (by intro w' hw';obtain⟨x0,x1⟩:=J0 w' hw';clear hw';go_simp<;>rfl) (by go_simp<;>rfl) ?_)
  refine Zm ?_
  go_wp2_with fail
  refine(W0 _ (HX _ _ _).1).mono ?_;rintro e w1 ⟨rfl,b0⟩;rw[b0];clear b0 w1
  go_wp2_with fail
  refine⟨(HX _ _ _).1,?_⟩;refine Zv rfl (by rintro _ -;go_simp<;>rfl) (by go_simp<;>rfl) ?_;refine Zs ?_;obtain⟨X,O0⟩:=J ((((W2.setCell (O (w.heap.size+1) 6) (.bool u2)).setCell (O (w.heap.size+1) 7) (I v2)).alloc (.cells #[.bool u2,I v2] 87)).drew);have b1:=HX u2 v2 (.cells #[.bool u2,I v2] 87);rw[<-O0]at b1;obtain⟨x1,x2,x3,x4⟩:=b1;have h0:=Z x1;have B0:=Z x2;have G0:=Z x3;rw[<-O0];clear O0 x1 x2 x3 s6 s7 sz N0 p0 q0
 iterate 3
  focus
   have HR:Y (aX=(4,noS,r)):=by
    show _=_;rcases v0.out with⟨h1|h1,-⟩|⟨x,y,-,-,h2,-⟩
    ·rw[d0.out,h1]
    ·rw[d0.out,h1];cases oa<;>rfl
    cases h2
   go_wp2_with (first|(refine zt3 6 ?_;refine Vu (w.heap.size+1) (Zg 3 0 op u v u2 v2) G0 rfl rfl ?_)|(refine Yd 4 ?_;refine Yt w.heap.size Yp (Zg 3 0 op u v u2 v2) B0 rfl rfl (Xv _ _ _ _ _ _ _) rfl rfl ?_))
   refine Jh results32 B0 rfl rfl rfl rfl ?_;rw[HR.out];exact⟨λh=>(by cases h),λ_=>⟨⟨_,_,_,_,_,_,_,rfl⟩,(HH.below (below_setRow h0 lE _)).bel⟩⟩
 skip
 obtain⟨x,y,hx,hy,rfl,rfl,rfl,rfl⟩:∃x y,oa=some x/\ob=some y/\u=x.var/\v=(x.v:Int)/\u2=y.var/\v2=(y.v:Int):=by
  rcases v0.out with⟨-,h2⟩|⟨x,y,h1,h1',-,h3,h4,h5,h6⟩
  ·cases h2
  exact⟨x,y,h1,h1',h3,h4,h5,h6⟩
 subst hx;subst hy
 by_cases hp:0<=pc
 ·have HR:Y (aX=(4,noS,r)):=by show _=_;rw[d0.out];exact G hp
  have P0:¬pc<0:=(by omega);have hd:=decide_eq_false P0
  go_wp2_with (first|(refine zt3 6 ?_;refine Vu (w.heap.size+1) (Zg 3 0 op x.var x.v y.var y.v) G0 rfl rfl ?_)|(refine Yd 4 ?_;refine Yt w.heap.size Yp (Zg 3 0 op x.var x.v y.var y.v) B0 rfl rfl (Xv _ _ _ _ _ _ _) rfl rfl ?_))
  refine Jh results32 B0 rfl rfl rfl rfl ?_;rw[HR.out];exact⟨λh=>(by cases h),λ_=>⟨⟨_,_,_,_,_,_,_,rfl⟩,(HH.below (below_setRow h0 lE _)).bel⟩⟩
 have P0:pc<0:=by omega
 have hd:=decide_eq_true P0
 have d1:Y (aX=match r.bu n with|none=>(5,noS,r)|some (z,r')=>(0,⟨3,z,0,⟨op,x,y⟩,[],[]⟩,r')):=by show _=_;rw[d0.out];exact U hp
 have H0:Y (∀W:World,W.heap[w.heap.size+1]?=some (.cells (Zg 3 0 op x.var x.v y.var y.v) 91 (0,0))->M W b (off+1) (Tq n)->SAt W (w.heap.size+1) b off op x.var x.v y.var y.v n):=λW h1 h2=>SAt.of h1 h2;clear hp
 go_wp2_with fail
 refine Zd (λW=>SAt W (w.heap.size+1) b off op x.var x.v y.var y.v n) [5,8] [] [] (H0 _ G0 (J0 X h0).2) (by kernel_rfl) (λ_ _ _ _ h=>h) (λops hG=>?_);clear hG
 iterate 5 refine Zv rfl (by intros;go_simp<;>rfl) (by go_simp<;>rfl) ?_
 refine Zm ?_
 go_wp2_with fail
 refine(v1 X.drew h0.drew x.var x.v y.var y.v).mono ?_;rintro e W5 ⟨C0,hg,Q0⟩;have C1:=Z C0;have e1:=(C0 w.heap.size (by show w.heap.size<X.heap.size;omega) (by omega) (λhh=>by have:=e0 4 (by unfold Zt;omega) _ hh;omega)).trans B0.out;have R0:=(C0 (w.heap.size+1) (by show w.heap.size+1<X.heap.size;omega) (by omega) (λhh=>by have:=e0 4 (by unfold Zt;omega) _ hh;omega)).trans G0.out;have S0:=cQ (C0 b (by show b<X.heap.size;omega) U0.1 (U0.2 4 (by unfold Zt;omega))) (J0 X h0).2;have I0:=Z e1;have f1:=Z (H0 W5 R0 S0);have i1:Y (∀c:Array Value,SAt (W5.setRow w.heap.size c) (w.heap.size+1) b off op x.var x.v y.var y.v n):=λc=>H0 _ ((setRow_other W5 w.heap.size (w.heap.size+1) c (by omega)).trans R0) (cQ (setRow_other W5 w.heap.size b c (by omega)) S0)
 have j1:lo<=w.heap.size:=by omega
 clear e1 C0 R0 S0 H0
 cases k0:r.bu n with
 |none=>
  obtain⟨⟨z,rfl⟩,k1⟩:=Q0 k0;have HR:Y (aX=(5,noS,r)):=(by show _=_;rw[d1.out,k0]);have D1:=Z k1;clear hg Q0 k1 k0
  go_wp2_with fail
  refine⟨f1,?_⟩
  iterate 2 refine Zv rfl (by rintro _ -;go_simp<;>rfl) (by go_simp<;>rfl) ?_
  refine Zm ?_
  go_wp2_with (refine Yd 4 ?_;refine Yt w.heap.size Yp (Zg 3 z op x.var x.v y.var y.v) I0 rfl rfl (Xv _ _ _ _ _ _ _) rfl rfl ?_)
  refine⟨i1 _,?_⟩;refine Zv rfl (by rintro _ -;go_simp<;>rfl) (by go_simp<;>rfl) ?_;refine Zs ?_
  go_wp2_with fail
  refine Jh results32 I0 rfl rfl rfl rfl ?_;rw[HR.out];exact⟨λh=>(by cases h),λ_=>⟨⟨_,_,_,_,_,_,_,rfl⟩,below_setRow D1 j1 _⟩⟩
 |some yr=>
  obtain⟨z,r'⟩:=yr;obtain⟨rfl,m',hm',l1,D0,i0⟩:=hg z r' k0;have HR:Y (aX=(0,⟨3,z,0,⟨op,x,y⟩,[],[]⟩,r')):=(by show _=_;rw[d1.out,k0]);have HM:Y (Zu lo base Rb Pb w0 (W5.setRow w.heap.size (Zg 3 z op x.var x.v y.var y.v)) m'):=by
   refine hm'.aside (below_setRow hm'.bel j1 _) (by simp only[setRow,Array.size_modify];exact hm'.bU.2.2.2.2.2.1) (λb hb=>setRow_other _ _ _ _ ?_) (by simp only[setRow,Array.size_modify];exact Nat.le_refl _);rcases hb with rfl|rfl|⟨j,hj,hb⟩|hb
   ·omega
   ·omega
   ·rcases i0 j hj b hb with h1|h1
    ·have:=e0 j hj b h1;omega
    have:X.heap.size<=b:=h1;omega
   rw[D0]at hb;have:=y1 b hb;omega
  have T0:Y (znx Rb w m (W5.setRow w.heap.size (Zg 3 z op x.var x.v y.var y.v)) m'):=λb hb E1 dt=>by
   have J1:=h0.size;refine⟨(setRow_other _ _ _ _ (by omega)).trans ((C1 b (by show b<X.heap.size;omega) E1 (dt 4 (by unfold Zt;omega))).trans (h0.block b hb)),λj hj hh=>?_⟩;rcases i0 j hj b hh with h1|h1
   ·exact dt j hj h1
   have:X.heap.size<=b:=h1;omega
  have F1:=Z l1;clear hg Q0 k0 hm' l1 i0
  go_wp2_with fail
  refine⟨f1,?_⟩
  iterate 2 refine Zv rfl (by rintro _ -;go_simp<;>rfl) (by go_simp<;>rfl) ?_
  refine Zm ?_
  go_wp2_with (refine Yd 4 ?_;refine Yt w.heap.size Yp (Zg 3 z op x.var x.v y.var y.v) I0 rfl rfl (Xv _ _ _ _ _ _ _) rfl rfl ?_)
  refine⟨i1 _,?_⟩;refine Zv rfl (by rintro _ -;go_simp<;>rfl) (by go_simp<;>rfl) ?_;refine Zs ?_
  go_wp2_with fail
  refine Jh results32 I0 rfl rfl rfl rfl ?_;rw[HR.out];exact⟨λ_=>⟨rfl,m',HM,F1,T0⟩,λh=>absurd rfl h⟩
end
def zx9(r:Fl.RS)(n a:L):Nat×aa×Fl.RS:=match r.value [a] with
 |none=>(4,noS,r)
 |some e=>if aj r.ai n<0 then(4,noS,r) else(0,⟨4,(aj r.ai n).toNat,0,e,[],[]⟩,r)
section
variable{m:Yn}{fl:List FlS}
def st_out(h:Zu lo base Rb Pb w0 w m)(hr:Zj r fl t m)(b off cap:Nat)(n a:L)(ha:a.length<=100000)(hb:b<w.heap.size)(p0:3<=cap/\cap<=maxLen)(c0:w.cell? (O b off)=some (.string ⟨#[111,117,116]⟩))(c1:w.cell? (O b (off+1))=some (Tq n))(c2:w.cell? (O b (off+2))=some (Tq a)):
  E 32 #[F Rb,Sq b off 3 cap] w (zw1 lo base Rb Pb w0 w m fl t (zx9 r n a)):=by
 have bU:=h.bU
 have q0:Rb<w.heap.size:=by omega
 have HH:=Z h;have HO:=Z hr;have k0:Y (∀W,D w W->E 53 #[F Rb,Tq a] W (zo2 (r.atom a) W)):=λW hW=>ztw (h.below hW) hr a ha;have l0:Y (∀W,D w W->E 30 #[m.v 3,Tq n] W (Rq (I (aj r.ai n)) W)):=λW hW=>Xt ((h.below hW).ai hr) n;obtain⟨c3,k3,g0⟩:=h.shape 3 (by unfold Zt;omega);rw[hr.r3.1]at g0;rw[g0]at l0;have r0:Y (∀W,D w W->M W Rb 3 (A c3 r.ai.length k3)/\M W b (off+1) (Tq n)):=λW hW=>⟨cT hW q0 (by rw[<-g0];exact h.cR.c 3 (by omega)),cT hW hb c1⟩;have s0:Y (∀W,D w W->M W b (off+2) (Tq a)):=λW hW=>cT hW hb c2;have z0:=aQ r.ai n;have A0:=hr.ch;have d0:Y (zx9 r n a=match r.atom a with|none=>(4,noS,r)|some x=>if aj r.ai n<0 then(4,noS,r) else(0,⟨4,(aj r.ai n).toNat,0,⟨-1,x,ju⟩,[],[]⟩,r)):=by
  show _=_;have hv:r.value [a]=(r.atom a).map λx=>⟨-1,x,ju⟩:=rfl;unfold zx9;rw[hv];generalize r.atom a=o
  cases o<;>rfl
 obtain⟨aX,e0⟩:=J (zx9 r n a);rw[<-e0]at d0⊢;obtain⟨oa,m0⟩:=J (r.atom a);rw[<-m0]at k0 d0;generalize aj r.ai n=pc at*
 have n0:(3:Int)<=(cap:Int):=by omega
 have t0: -1<=pc/\pc<=3:=by omega
 have HB:Y (∀o o',D w ((w.alloc o).alloc o').drew):=λo o'=>((bA).alloc (by simp) _).drew;clear h hr e0 m0 g0 c1 c2
 go_enter func32,ntmps32
 go_wp2_with fail
 refine zx2 (λW=>D w W) [] [(0,0),(0,1),(0,2),(0,3),(0,4),(0,5),(0,6),(1,7),(0,8)] [] (by kernel_rfl) (by kernel_rfl) rfl [(_,_),(_,_),(_,_),(_,_),(_,_),(_,_),(_,_),(_,_),(_,_)] rfl (λc a d v w h=>by cases d<;>exact h) (HB _ _) (λops hG=>?_);clear hG;simp only[getElem_toArray,getElem_cons_succ,getElem_cons_zero]
 iterate 7 refine Uo rfl (kE (by intro w' hw';obtain⟨x0,x1⟩:=r0 w' hw';clear hw';go_simp<;>rfl) (by go_simp<;>rfl) ?_)
 refine Zm ?_
 go_wp2_with fail
 refine(l0 _ (HB _ _)).mono ?_;rintro e w1 ⟨rfl,o0⟩;rw[o0];clear o0 w1
 go_wp2_with fail
 refine⟨HB _ _,?_⟩;refine Uo rfl (kE (by rintro _ -;go_simp<;>rfl) (by go_simp<;>rfl) ?_);refine Zs ?_;have k2:=s0 _ (HB (.cells Yp 91) (.cells (Zg 4 0 (-1) false 0 false 0) 91));unfold Yp Zg at k2
 go_wp2_with fail
 refine(k0 _ (HB _ _)).mono ?_;rintro e W1 ⟨f0,aS,a0⟩;have rE:W1.heap[w.heap.size]?=some (.cells Yp 91 (0,0)):=by
  rw[f0.block _ (by simp;omega)];show ((w.alloc _).alloc _).heap[w.heap.size]?=_;rw[Below.heap_alloc _ _ _ (by simp)];exact zyx _ _ _ rfl
 have rS:W1.heap[w.heap.size+1]?=some (.cells (Zg 4 0 (-1) false 0 false 0) 91 (0,0)):=by
  rw[f0.block _ (by simp)];show ((w.alloc _).alloc _).heap[w.heap.size+1]?=_;exact zyx _ _ _ (by simp)
 have u0:=Z ((HB _ _).trans (f0.mono (by simp;omega)))
 have B0:w.heap.size+2<=W1.heap.size:=by have:=f0.size;simp at this;omega
 have v0:w.heap.size+1<W1.heap.size:=by omega
 have y0:w.heap.size<W1.heap.size:=by omega
 have s1:=cR 1 rS;have s4:M W1 (w.heap.size+1) 4 (.bool false):=cR 4 rS;have s5:M W1 (w.heap.size+1) 5 (I 0):=cR 5 rS;have RS:=Z rS
 have sz:∀j,W1.frozen? (O (w.heap.size+1) j)=false:=λj=>by simp[frozen?,rS]
 have RE:=Z rE;clear rE rS f0 k2
 have b0:Y (∀z u v a,((((W1.setCell (O (w.heap.size+1) 1) z).setCell (O (w.heap.size+1) 4) u).setCell (O (w.heap.size+1) 5) v).alloc a).heap[w.heap.size]?=some (.cells Yp 91 (0,0))):=λz u v a=>by
  rw[Below.heap_alloc _ _ _ (by rw[Zy,Zy,Zy];exact y0),Zx _ _ _ _ _ (by omega),Zx _ _ _ _ _ (by omega),Zx _ _ _ _ _ (by omega)];exact RE
 have i0:Y (∀(z:Int) (u:Bool) (v:Int) a,((((W1.setCell (O (w.heap.size+1) 1) (I z)).setCell (O (w.heap.size+1) 4) (.bool u)).setCell (O (w.heap.size+1) 5) (I v)).alloc a).heap[w.heap.size+1]?=some (.cells (Zg 4 z (-1) u v false 0) 91 (0,0))):=λz u v a=>by
  rw[Below.heap_alloc _ _ _ (by rw[Zy,Zy,Zy];exact v0)];exact zy0 (zy0 (zy0 RS 1 _ _ rfl) 4 _ _ rfl) 5 _ _ rfl
 have h0:Y (∀z u v a c,D w (((((W1.setCell (O (w.heap.size+1) 1) z).setCell (O (w.heap.size+1) 4) u).setCell (O (w.heap.size+1) 5) v).alloc a).setRow w.heap.size c)):=λz u v a c=>by
  refine below_setRow (((((u0.setCell (by show w.heap.size<=w.heap.size+1;omega) _).setCell (by show w.heap.size<=w.heap.size+1;omega) _)).setCell (by show w.heap.size<=w.heap.size+1;omega) _).alloc (by rw[Zy,Zy,Zy];omega) _) lE _
 cases oa with
 |none=>
  obtain⟨v,rfl⟩:=a0 rfl;have HR:=Z d0.out;clear aS a0
  go_wp2_with (first|(refine zt3 6 ?_;refine Vu (w.heap.size+1) (Zg 4 pc (-1) true v false 0) (i0 _ _ _ _) rfl rfl ?_)|(refine Yd 4 ?_;refine Yt w.heap.size Yp (Zg 4 pc (-1) true v false 0) (b0 _ _ _ _) rfl rfl (Xv _ _ _ _ _ _ _) rfl rfl ?_))
  refine Jh results32 (b0 _ _ _ _) rfl rfl rfl rfl ?_;rw[HR.out];exact⟨λh=>(by cases h),λ_=>⟨⟨_,_,_,_,_,_,_,rfl⟩,(HH.below (h0 _ _ _ _ _)).bel⟩⟩
 |some x=>
  obtain rfl:=aS x rfl
  by_cases hp:pc<0
  ·have HR:Y (aX=(4,noS,r)):=by show _=_;rw[d0.out];exact G hp
   have j0:¬0<=pc:=(by omega);have hd:decide (0<=pc)=false:=decide_eq_false j0;clear aS a0
   go_wp2_with (first|(refine zt3 6 ?_;refine Vu (w.heap.size+1) (Zg 4 pc (-1) x.var x.v false 0) (i0 _ _ _ _) rfl rfl ?_)|(refine Yd 4 ?_;refine Yt w.heap.size Yp (Zg 4 pc (-1) x.var x.v false 0) (b0 _ _ _ _) rfl rfl (Xv _ _ _ _ _ _ _) rfl rfl ?_))
   refine Jh results32 (b0 _ _ _ _) rfl rfl rfl rfl ?_;rw[HR.out];exact⟨λh=>(by cases h),λ_=>⟨⟨_,_,_,_,_,_,_,rfl⟩,(HH.below (h0 _ _ _ _ _)).bel⟩⟩
  have HR:Y (aX=(0,⟨4,pc.toNat,0,⟨-1,x,ju⟩,[],[]⟩,r)):=(by show _=_;rw[d0.out];exact U hp);have j0:0<=pc:=(by omega);have hd:decide (0<=pc)=true:=decide_eq_true j0;have E1:Y (((pc.toNat:Nat):Int)=pc):=(by show _=_;omega);clear aS a0 hp
  go_wp2_with (first|(refine zt3 6 ?_;refine Vu (w.heap.size+1) (Zg 4 pc (-1) x.var x.v false 0) (i0 _ _ _ _) rfl rfl ?_)|(refine Yd 4 ?_;refine Yt w.heap.size Yp (Zg 4 pc (-1) x.var x.v false 0) (b0 _ _ _ _) rfl rfl (Xv _ _ _ _ _ _ _) rfl rfl ?_))
  refine Jh results32 (b0 _ _ _ _) rfl rfl rfl rfl ?_;rw[HR.out];exact⟨λ_=>⟨by simp only[E1.out];rfl,m,HH.below (h0 _ _ _ _ _),HO,znx.below (h0 _ _ _ _ _)⟩,λh=>absurd rfl h⟩
end
end Go.Proofs.YtgmbnnpnefniiaaGreatDoor
