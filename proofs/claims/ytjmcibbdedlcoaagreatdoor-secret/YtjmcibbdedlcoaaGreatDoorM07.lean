import Derived.Test.YtjmcibbdedlcoaaGreatDoorM06
import Derived.Deep.DeepCutAuto
import Derived.Maps.RangeWalk
set_option linter.all false
set_option maxRecDepth 100000
set_option maxHeartbeats 40000000
namespace Go.Proofs.YtjmcibbdedlcoaaGreatDoor
open Go.RowKit Go.Proofs.Tryz List World Region Value Act Fl
variable{S:Nat->Prop}{a k u b c x:Int}{w w0 w' wr V:World}{l vs ns:Is}{Xb T B Fb Pb Lb nb base n i Qv:Nat}{wv bC bH bv vv v wv':Value}{acc ac:List Fl.ar}{lvs xs lvs':Vs}{p:Fl.aV}{cs:Array Value}{t:TypeId}
section
variable{P:Program}{Q:Exit->Act->World->Prop}{S:World->Prop}
def znz(P:Program)(ops:Array Oper)(S:World->Prop)(Q:Exit->Act->World->Prop)(so:List (Nat×Oper))(ox:Oper)(a:Act)(w:World):Prop:=
 wpList P ops (Exit.then (λa1 w1=>S w1/\Xo P ops S Q (λa3 w3=>Q .normal a3 w3) so a1 w1) Q) [ox] a w
def zo2{id:Nat}{a:Act}{l:List Oper}(S:World->Prop)(st:List (Nat×Nat))(i j:Nat)(sti stj:List (Nat×Nat))(hm:P.follows .mixedOrders=true)
  (hB:(noSelect l.toArray && (zyy l.toArray [] st && (decide (ready .any l.toArray (Zp l.toArray.size (st.map (·.2)))=[i,j]) && (zyy l.toArray (st.map (·.2)++[i]) sti && (zyy l.toArray (st.map (·.2)++[j]) stj && (decide (ready .any l.toArray (Zp l.toArray.size (st.map (·.2)++[i]++sti.map (·.2)))=[]) && decide (ready .any l.toArray (Zp l.toArray.size (st.map (·.2)++[j]++stj.map (·.2)))=[])))))))=true)
  (bt:l.length=sti.length+1+st.length) (hlen':stj.length=sti.length) (so soi soj:List (Nat×Oper)) (oi oj:Oper) (d0:st.map (λp=>(p.1,l.toArray[p.2]?))=so.map (λp=>(p.1,some p.2))) (a0:sti.map (λp=>(p.1,l.toArray[p.2]?))=soi.map (λp=>(p.1,some p.2))) (b0:stj.map (λp=>(p.1,l.toArray[p.2]?))=soj.map (λp=>(p.1,some p.2))) (hi:l.toArray[i]?=some oi) (hj:l.toArray[j]?=some oj)
  (hQ:∀c a d v w,Q (.panic c) (put a d v) w->Q (.panic c) a w) (hS:S w.drew)
  (h:∀ops:Array Oper,Xo P ops S Q (λa' w'=>znz P ops S Q soi oi a' w'/\znz P ops S Q soj oj a' w') so a w.drew):(Code.region id l.toArray true).wp P Q a w:=by
 simp only[Qk,Qn]at hB;obtain⟨hs,hh,r0,t1,t2,e1,e2⟩:=hB;have key:=zv3 (P:=P) (Q:=Q) (S:=S) (ops:=l.toArray) (sti.length+1) hs hQ st so [] a w.drew hS d0 hh ?_ (h l.toArray)
 ·refine wp_region_any hm (zy0 (S:=S) (late:=[]) _ _ _ _ ?_)
  have e:l.toArray.size=sti.length+1+st.length:=(by simp[bt]);rw[<-e]at key;simpa [Zp] using key
 intro a' w' hE hS'
 have step:∀(x:Nat) (ox:Oper) (stx:List (Nat×Nat)) (sox:List (Nat×Oper)),l.toArray[x]?=some ox->stx.length=sti.length->stx.map (λp=>(p.1,l.toArray[p.2]?))=sox.map (λp=>(p.1,some p.2))->zyy l.toArray (st.map (·.2)++[x]) stx=true->ready .any l.toArray (Zp l.toArray.size (st.map (·.2)++[x]++stx.map (·.2)))=[]->
   znz P l.toArray S Q sox ox a' w'->wpOp P l.toArray Q x (λa1 w1=>(x ∉ ([]:List Nat)->S w1)/\Jr P l.toArray Q S [] sti.length ((Zp l.toArray.size ([]++st.map (·.2))).setIfInBounds x true) a1 w1) a' w':=by
  intro x ox stx sox hx hl c0 h2 h3 hw;refine wpOp_mono (λa1 w1 hk=>⟨λ_=>hk.1,?_⟩) (Uy hx hw);have e1:(Zp l.toArray.size ([]++st.map (·.2))).setIfInBounds x true=Zp l.toArray.size (st.map (·.2)++[x]):=(by rw[Yx];rfl);rw[e1];have:=zv3 (P:=P) (Q:=Q) (S:=S) (ops:=l.toArray) (Qy:=λa3 w3=>Q .normal a3 w3) 0 hs hQ stx sox (st.map (·.2)++[x]) a1 w1 hk.1 c0 h2 (λa3 w3 hE3 _=>⟨h3,hE3⟩) hk.2;rw[<-hl];simpa using this
 refine⟨λh0=>?_,λz hz=>?_⟩
 ·simp only[nil_append]at h0;rw[r0]at h0;cases h0
 simp only[nil_append]at hz;rw[r0]at hz;simp only[mem_cons,not_mem_nil,or_false]at hz;rcases hz with rfl|rfl
 ·exact step _ oi sti soi hi rfl a0 t1 e1 hE.1
 exact step _ oj stj soj hj hlen' b0 t2 e2 hE.2
end
def Tryz.infoNode6:(Tryz.prog.info? 188).map (·.size)=some 6:=by kernel_rfl
section
def zp6(h:Yd w0 w Xb T B Fb wv acc lvs)(hF:Vd w0 Fb Pb Lb bC bH bv vv S p vs){a:dI}(ha:Xy S w0 v a)(ho:dU vs.length a)(hv:vs.length<=100)(hn:acc.length<=100000000):
  F 167 #[M Xb,v] w (Vo (λ_=>False) w0 w Xb T B Fb wv acc lvs (Fl.bR p vs acc a)):=by
 have p0:zt8 vs a:=λhv=>by unfold dU at ho;rwa [G hv]at ho
 obtain⟨al,H0,eal⟩:=zx2 hF.lv.lv hF.ok.2 p0;have r0:zy7 S w0 v ⟨-1,a,a⟩:=.inl ⟨rfl,ha⟩;have t0:bI vs.length ⟨-1,a,a⟩:=⟨by show (-1:Int)<= -1;decide,by show (-1:Int)<=4;decide,ho,ho⟩
 have evl:Fl.aB p vs ⟨-1,a,a⟩=(al:Int):=by unfold Fl.aB;rw[G (by show (-1:Int)<0;decide)];exact eal
 obtain⟨vb,rfl,C0,hc⟩:=ha;have u0:vb<w0.heap.size:=hF.hS vb C0;have be:=h.be;have ee:=be.size;have hX:=h.hz
 have HS:O (∀V,E w V->V.cell? (Y vb 0)=some (I (if a.var then 1 else 0))/\V.cell? (Y vb 1)=some (I a.v)/\V.cell? (Y Xb 0)=some (M Fb)):=λV hV=>by
  have h0:E w0 V:=be.trans (hV.mono ee);exact⟨cT h0 u0 (hc.c 0 (by omega)),cT h0 u0 (hc.c 1 (by omega)),(h.below hV).c0⟩
 have v0:O (∀V,E w V->F 166 #[M Fb,M vb] V λr w'=>r=.returned (I (al:Nat))/\E V w'):=λV hV=>by
  have h0:E w0 V:=be.trans (hV.mono ee);have h5:=zsv (hF.below h0) (r0.kept (λ_ h=>h) (λb hb=>h0.block b (hF.hS b hb))) t0;rw[evl]at h5;exact h5
 obtain⟨kd,e0⟩:=U (α:=Int) (if a.var then 1 else 0)
 have D0:(kd==2)=false:=by rw[e0];cases a.var<;>decide
 obtain⟨nd,i0⟩:=U (α:=Fl.ar) (⟨if a.var then 1 else 0,Fl.bZ p vs a,a.v,0,0,[]⟩);have j0:Fl.fits nd:=by
  have h6:=hF.lv.lv.n6
  have I0:a.v<=999999999:=by unfold dU at ho;split at ho<;>omega
  have k0:kd=0\/kd=1:=by rw[e0];cases a.var<;>simp
  have hR:∀z:Int,0<=z->z<=999999999->Fl.cd z=true:=λz h1 h2=>by simp only[Fl.cd,Qk,Qn];omega
  rw[i0,eal,<-e0];exact⟨hR _ (by rcases k0 with h|h<;>(show 0<=kd;omega)) (by rcases k0 with h|h<;>(show kd<=_;omega)),hR _ (by show (0:Int)<=(al:Int);omega) (by show (al:Int)<=_;omega),hR _ (by show (0:Int)<=(a.v:Int);omega) (by show (a.v:Int)<=_;omega),hR _ (by show (0:Int)<=0;decide) (by show (0:Int)<=_;decide),hR _ (by show (0:Int)<=0;decide) (by show (0:Int)<=_;decide),by simp,by simp⟩
 have E0:O (∀V,E w V->F 143 #[M Xb,.agg #[I kd,I al,I a.v,I 0,I 0,Zq]] V (Vo (λp=>p.2=[]) w0 V Xb T B Fb wv acc lvs (Fl.bR p vs acc a))):=λV hV=>by
  have h5:=ztz (lvn:=Zq) (h.below hV) j0 (by rw[i0];exact⟨none,0,rfl,by simp,by simp[maxLen],λhh=>absurd rfl hh⟩) (λhh=>by rw[i0]at hh;exact absurd rfl hh) hn;unfold ndV at h5;rw[i0]at h5;simp only at h5;rw[<-e0,eal]at h5;unfold Fl.bR;rw[<-e0,eal];refine h5.mono ?_;rintro e W ⟨h6,wv',lvs',h7,h8,h9⟩;refine⟨h6,wv',lvs',h7,h8,λp hp=>?_⟩;rcases h9 p hp with h1|h1|h1|h1
  ·exact .inl h1
  ·exact .inr (.inl (by rw[h1]))
  ·exact .inr (.inr (.inl h1))
  exact .inr (.inr (.inr h1))
 rw[<-e0]at HS;generalize Fl.bR p vs acc a=aX at*;generalize a.v=av at*;clear p0 eal r0 t0 evl hc ho e0 i0 j0;unfold ptr
 go_enter func167,ntmps167
 go_wp2_with fail
 go_cut [5] (λq wc=>∃nb,q=M nb/\E w wc/\nb<wc.heap.size/\wc.heap[nb]?=some (.cells #[I kd,I al,I av,I 0,I 0,Zq] 188 (0,0)))
 case first=>
  refine zo2 (λV=>E w V/\V.cell? (Y vb 0)=some (I kd)/\V.cell? (Y vb 1)=some (I av)/\V.cell? (Y Xb 0)=some (M Fb)) [(0,0),(0,1),(0,2),(0,3),(0,4),(0,5),(0,6),(0,7),(0,8),(0,10),(0,11),(0,12),(0,13)] 9 15 [(0,14),(1,15),(1,16)] [(1,9),(0,14),(1,16)] (by kernel_rfl) (by kernel_rfl) rfl rfl [(_,_),(_,_),(_,_),(_,_),(_,_),(_,_),(_,_),(_,_),(_,_),(_,_),(_,_),(_,_),(_,_)] [(_,_),(_,_),(_,_)] [(_,_),(_,_),(_,_)] _ _ rfl rfl rfl rfl rfl (λc a d v w h=>by cases d<;>exact h) ⟨dA,HS _ dA⟩ (λops=>?_);simp only[getElem_toArray,getElem_cons_succ,getElem_cons_zero]
  iterate 13 refine Yj rfl (kE (by intros;go_simp<;>rfl) (by go_simp<;>rfl) ?_)
  refine Xa ⟨⟨dA,HS _ dA⟩,?_,?_⟩
  ·unfold znz
   go_wp2_with fail
   refine(v0 _ dA).mono ?_;rintro e1 W1 ⟨rfl,f0⟩;have a0:O (E w W1):=dA.trans f0;clear f0
   go_wp2_with fail
   refine⟨⟨a0,HS _ a0⟩,?_⟩;refine Yj rfl (kE (by intros;go_simp<;>rfl) (by go_simp<;>rfl) ?_);refine Uv ?_
   go_wp2_with fail
   refine⟨⟨a0.alloc a0.size _,HS _ (a0.alloc a0.size _)⟩,?_⟩;refine Uv ?_
   go_wp2_with fail
   refine⟨⟨a0.alloc a0.size _,HS _ (a0.alloc a0.size _)⟩,?_⟩;refine Xa ⟨⟨a0.alloc a0.size _,HS _ (a0.alloc a0.size _)⟩,?_⟩;rename_i b0;refine b0 _ _ ?_
   go_meet
   case rel=>exact⟨_,rfl,a0.alloc a0.size _,by simp,heap_alloc_last _ _⟩
  unfold znz;obtain⟨W0,l0⟩:=U ((w.alloc (.cells #[I 0,I 0,I 0,I 0,I 0,Zq] 188)).drew);have g0:O (E w W0):=(by show Below _ _ _;rw[l0];exact bA.drew);have x0:O (W0.heap[w.heap.size]?=some (.cells #[I 0,I 0,I 0,I 0,I 0,Zq] 188 (0,0))):=(by show _=_;rw[l0];exact heap_alloc_last w _);have y0:w.heap.size<W0.heap.size:=(by rw[l0];simp)
  go_wp2_with fail
  rw[<-l0];clear l0;refine⟨⟨g0,HS _ g0⟩,?_⟩;refine Uv ?_
  go_wp2_with fail
  refine(v0 _ g0).mono ?_;rintro e1 W1 ⟨rfl,f0⟩;have a0:O (E w W1):=g0.trans (f0.mono g0.size);have z0:O (W1.heap[w.heap.size]?=some (.cells #[I 0,I 0,I 0,I 0,I 0,Zq] 188 (0,0))):=(f0.block _ y0).trans x0.out;have J0:w.heap.size<W1.heap.size:=Qj y0 f0.size;clear f0 x0 g0
  go_wp2_with fail
  refine⟨⟨a0,HS _ a0⟩,?_⟩;refine Yj rfl (kE (by intros;go_simp<;>rfl) (by go_simp<;>rfl) ?_);refine Uv ?_;refine Jx rfl (.tmp 5) (.tmp 20) 188 rfl w.heap.size rfl _ #[I kd,I al,I av,I 0,I 0,Zq] rfl 188 z0.out Tryz.infoNode6 rfl (by simp[oneCell']) ?_;have d0:=setRow_heap W1 w.heap.size _ #[I kd,I al,I av,I 0,I 0,Zq] _ _ z0.out;have A0:=below_setRow a0 lE #[I kd,I al,I av,I 0,I 0,Zq];generalize W1.setRow w.heap.size #[I kd,I al,I av,I 0,I 0,Zq]=W2 at*;have F0:=A d0;have m0:=A A0;have G0:w.heap.size<W2.heap.size:=by
   rcases Nat.lt_or_ge w.heap.size W2.heap.size with h|h
   ·exact h
   rw[Array.getElem?_eq_none h]at d0;cases d0
  clear d0 A0
  go_wp2_with fail
  refine⟨⟨m0,HS _ m0⟩,?_⟩;refine Xa ⟨⟨m0,HS _ m0⟩,?_⟩;rename_i b0;refine b0 _ _ ?_
  go_meet
  case rel=>exact⟨_,rfl,m0,G0,F0⟩
 case rest=>
  obtain⟨nb,rfl,n0,K0,B0⟩:=hcut;obtain⟨s0,s1,s2⟩:=HS _ n0;have o0:=A n0
  have q:∀j u,(#[int .i64 kd,I al,I av,I 0,I 0,Zq]:Array Value)[j]?=some u->wc.cell? (Y nb j)=some u:=λj u hj=>by simp only[cell?,B0];exact hj
  have q0:=q 0 _ rfl;have q1:=q 1 _ rfl;have q2:=q 2 _ rfl;have q3:=q 3 _ rfl;have q4:=q 4 _ rfl;have q5:=q 5 _ rfl;clear q B0 n0
  go_wp2_with fail
  refine(E0 _ o0).mono ?_;rintro e W2 ⟨rfl,wv',lvs',h1,h2,h3⟩
  have HE:O (Vo (λ_=>False) w0 w Xb T B Fb wv acc lvs aX (.returned (I aX.1)) W2):=⟨rfl,wv',lvs',h1,(Yc.cS o0).trans h2,λp hp=>by
   rcases h3 p hp with h|h|h|h
   ·exact .inl h
   ·exact .inr (.inr (.inl h))
   ·exact .inr (.inr (.inl h))
   exact .inr (.inr (.inr λb hb=>Nat.le_trans o0.size (h b hb)))⟩
  clear h1 h2 h3;go_wp2;go_ret;exact HE
end
def Yd.nK(h:Yd w0 w Xb T B Fb wv acc lvs)(hx:Xb<nb){fr:Nat×Nat}(hn:w.heap[nb]?=some (.cells cs 188 fr))(ho:some nb≠wv.ownBlock)(j:Nat)(v:Value):Yd w0 (w.setCell (Y nb j) v) Xb T B Fb wv acc lvs:=by
 obtain⟨x1,x2,x3⟩:=h.x0;have gs:w.grownBy (w.setCell (Y nb j) v) (some nb):=⟨rfl,rfl,rfl,by rw[Zy];exact Nat.le_refl _,λk hk hn=>Zx _ _ _ _ _ (λe=>hn (by rw[e]))⟩
 have b0:∀c,c<=Xb->some c≠some nb:=λc hc=>by simp;omega
 have d0:∀p,p∈Vy acc lvs->p.2≠[]->∀b,p.1.ownBlock=some b->b≠nb:=λp hp a0 b hb e=>by
  obtain⟨cs',fr',h5⟩:=((h.li p hp).2 a0 b hb).2;rw[e,hn]at h5;injection h5 with h5;injection h5 with _ h6;exact absurd h6 (by decide)
 refine⟨h.x0,by rw[Zy];exact h.hz,gs.cell h.c0 (b0 Xb lE),gs.cell h.c1 (b0 Xb lE),gs.cell h.c2 (b0 Xb lE),λi=>by rw[frozen?_setCell];exact h.fz i,h.se.kept gs (b0 T (by omega)) (b0 B (by omega)),h.hl,h.ow.kept gs (.inr (λhh=>ho hh.symm)),λp hp=>⟨(h.li p hp).1.set (λa0 hh=>d0 p hp a0 nb hh rfl),λa0 b hb=>⟨((h.li p hp).2 a0 b hb).1,((h.li p hp).2 a0 b hb).2.of (Zx _ _ _ _ _ (d0 p hp a0 b hb))⟩⟩,h.be.setCell (by show w0.heap.size<=nb;omega) _⟩
def yv2{fr:Nat×Nat}(h:w.heap[nb]?=some (.cells cs t fr))(j:Nat)(v:Value):∃cs',(w.setCell (Y nb j) v).heap[nb]?=some (.cells cs' t fr):=by
 have hl:nb<w.heap.size:=by
  rcases Nat.lt_or_ge nb w.heap.size with h'|h'
  ·exact h'
  rw[Array.getElem?_eq_none h']at h;cases h
 have h2:w.heap[nb]=.cells cs t fr:=by rw[Array.getElem?_eq_getElem hl]at h;injection h
 refine⟨cs.setIfInBounds j v,?_⟩
 have a0:nb<(w.setCell (Y nb j) v).heap.size:=by rw[Zy];exact hl
 rw[Array.getElem?_eq_getElem a0];simp only[setCell];rw[Array.getElem_modify];simp[h2]
def Yc.set(h:Yc w w' Xb B wv wv')(hn:w.heap.size<=nb)(j:Nat)(v:Value):Yc w (w'.setCell (Y nb j) v) Xb B wv wv':=
 ⟨h.os,h.tp,h.ou,by rw[Zy];exact h.sz,λc h1 h2 h3 h4=>(Zx _ _ _ _ _ (by omega)).trans (h.bl c h1 h2 h3 h4),h.ow⟩
def zh6(acc:List Fl.ar)(nd:Fl.ar):acc.length<=(Fl.cI acc nd).2.length/\(Fl.cI acc nd).2.length<=acc.length+1/\0<=(Fl.cI acc nd).1/\(Fl.cI acc nd).1<=acc.length:=by
 unfold Fl.cI
 split
 ·rename_i i hi
  have:=mem_of_find?_eq_some hi;rw[mem_range]at this;simp only;omega
 simp
section
def yn6(h:Yd w0 w Xb T B Fb wv acc lvs)(hF:Vd w0 Fb Pb Lb bC bH bv vv S p vs){e:Fl.da}(he:zy7 S w0 v e)(ho:bI vs.length e)(hv:vs.length<=100)(hn:acc.length<=50000000):
  F 167 #[M Xb,v] w (Vo (λ_=>False) w0 w Xb T B Fb wv acc lvs (Fl.dQ p vs acc e)):=by
 have O0:=he;rcases he with⟨h1,h2⟩|⟨h1,vb,x,y,rfl,t1,hc,h5,h6⟩
 ·have e1:Fl.dQ p vs acc e=Fl.bR p vs acc e.a:=by unfold Fl.dQ;rw[G (by omega)]
  rw[e1];exact zp6 h hF h2 ho.2.2.1 hv (by omega)
 obtain⟨al,u1,eal⟩:=zu9 hF.lv.lv hF.ok ho;have D0:vb<w0.heap.size:=hF.hS vb t1;have be:=h.be;have ee:=be.size;have hX:=h.hz
 have HS:O (∀V,E w V->V.cell? (Y vb 0)=some (I 2)/\V.cell? (Y vb 1)=some (I e.op)/\V.cell? (Y Xb 0)=some (M Fb)):=λV hV=>by
  have n0:E w0 V:=be.trans (hV.mono ee);exact⟨cT n0 D0 (hc.c 0 (by omega)),cT n0 D0 (hc.c 1 (by omega)),(h.below hV).c0⟩
 have E0:O (∀V,E w0 V->V.cell? (Y vb 2)=some x/\V.cell? (Y vb 3)=some y):=λV hV=>⟨cT hV D0 (hc.c 2 (by omega)),cT hV D0 (hc.c 3 (by omega))⟩
 have P0:O (∀V,E w V->F 166 #[M Fb,M vb] V λr w'=>r=.returned (I (al:Nat))/\E V w'):=λV hV=>by
  have n0:E w0 V:=be.trans (hV.mono ee);have h5:=zsv (hF.below n0) (O0.kept (λ_ h=>h) (λb hb=>n0.block b (hF.hS b hb))) ho;rw[eal]at h5;exact h5
 have I0:O (∀V wv' lvs',Yd w0 V Xb T B Fb wv' acc lvs'->F 167 #[M Xb,x] V (Vo (λ_=>False) w0 V Xb T B Fb wv' acc lvs' (Fl.bR p vs acc e.a))):=λV wv' lvs' hV=>zp6 hV hF h5 ho.2.2.1 hv (by omega);obtain⟨ra,F0⟩:=U (Fl.bR p vs acc e.a)
 have v1:ra.2.length<=acc.length+1/\0<=ra.1/\ra.1<=acc.length:=by rw[F0];unfold Fl.bR;exact(zh6 _ _).2
 have J0:O (∀V wv' lvs',Yd w0 V Xb T B Fb wv' ra.2 lvs'->F 167 #[M Xb,y] V (Vo (λ_=>False) w0 V Xb T B Fb wv' ra.2 lvs' (Fl.bR p vs ra.2 e.b))):=λV wv' lvs' hV=>zp6 hV hF h6 ho.2.2.2 hv (by omega);obtain⟨rb,h0⟩:=U (Fl.bR p vs ra.2 e.b)
 have hlb:rb.2.length<=ra.2.length+1/\0<=rb.1/\rb.1<=ra.2.length:=by rw[h0];unfold Fl.bR;exact(zh6 _ _).2
 obtain⟨nd,j0⟩:=U (α:=Fl.ar) (⟨2,(al:Int),e.op,ra.1,rb.1,[]⟩);have o0:O (Fl.dQ p vs acc e=Fl.cI rb.2 nd):=by
  show _=_;unfold Fl.dQ;rw[Z (by omega),<-F0,<-h0,eal,j0]
 have t0:Fl.fits nd:=by
  have h6:=hF.lv.lv.n6;have C1:=ho.2.1
  have hR:∀z:Int,0<=z->z<=999999999->Fl.cd z=true:=λz h1 h2=>by simp only[Fl.cd,Qk,Qn];omega
  rw[j0];exact⟨hR _ (by show (0:Int)<=2;decide) (by show (2:Int)<=_;decide),hR _ (by show (0:Int)<=(al:Int);omega) (by show (al:Int)<=_;omega),hR _ (by show (0:Int)<=e.op;omega) (by show e.op<=_;omega),hR _ (by show (0:Int)<=ra.1;omega) (by show ra.1<=_;omega),hR _ (by show (0:Int)<=rb.1;omega) (by show rb.1<=_;omega),by simp,by simp⟩
 have K0:O (∀V wv' lvs',Yd w0 V Xb T B Fb wv' rb.2 lvs'->F 143 #[M Xb,.agg #[I 2,I al,I e.op,I ra.1,I rb.1,Zq]] V (Vo (λp=>p.2=[]) w0 V Xb T B Fb wv' rb.2 lvs' (Fl.cI rb.2 nd))):=λV wv' lvs' hV=>by
  have h5:=ztz (lvn:=Zq) hV t0 (by rw[j0];exact⟨none,0,rfl,by simp,by simp[maxLen],λhh=>absurd rfl hh⟩) (λhh=>by rw[j0]at hh;exact absurd rfl hh) (by omega);unfold ndV at h5;rw[j0]at h5⊢;refine h5.mono ?_;rintro e W ⟨h6,wv',lvs',h7,h8,h9⟩;refine⟨h6,wv',lvs',h7,h8,λp hp=>?_⟩;rcases h9 p hp with h1|h1|h1|h1
  ·exact .inl h1
  ·exact .inr (.inl (by rw[h1]))
  ·exact .inr (.inr (.inl h1))
  exact .inr (.inr (.inr h1))
 rw[o0.out];generalize Fl.cI rb.2 nd=aX at*;rw[<-F0]at I0;rw[<-h0]at J0;obtain⟨av,Q0⟩:=U (e.op);rw[<-Q0]at HS K0;obtain⟨na,ac1⟩:=ra;obtain⟨nb2,ac2⟩:=rb;simp only at J0 K0 I0;have HW:=A h;clear O0 hc h5 h6 eal F0 h0 j0 t0 o0 Q0 ho v1 hlb h1 u1;unfold ptr
 go_enter func167,ntmps167
 go_wp2_with fail
 go_cut [5] (λq wc=>∃nb,q=M nb/\E w wc/\nb<wc.heap.size/\w.heap.size<=nb/\wc.heap[nb]?=some (.cells #[I 2,I al,I av,I 0,I 0,Zq] 188 (0,0)))
 case first=>
  refine zo2 (λV=>E w V/\V.cell? (Y vb 0)=some (I 2)/\V.cell? (Y vb 1)=some (I av)/\V.cell? (Y Xb 0)=some (M Fb)) [(0,0),(0,1),(0,2),(0,3),(0,4),(0,5),(0,6),(0,7),(0,8),(0,10),(0,11),(0,12),(0,13)] 9 15 [(0,14),(1,15),(1,16)] [(1,9),(0,14),(1,16)] (by kernel_rfl) (by kernel_rfl) rfl rfl [(_,_),(_,_),(_,_),(_,_),(_,_),(_,_),(_,_),(_,_),(_,_),(_,_),(_,_),(_,_),(_,_)] [(_,_),(_,_),(_,_)] [(_,_),(_,_),(_,_)] _ _ rfl rfl rfl rfl rfl (λc a d v w h=>by cases d<;>exact h) ⟨dA,HS _ dA⟩ (λops=>?_);simp only[getElem_toArray,getElem_cons_succ,getElem_cons_zero]
  iterate 13 refine Yj rfl (kE (by intros;go_simp<;>rfl) (by go_simp<;>rfl) ?_)
  refine Xa ⟨⟨dA,HS _ dA⟩,?_,?_⟩
  ·unfold znz
   go_wp2_with fail
   refine(P0 _ dA).mono ?_;rintro e1 W1 ⟨rfl,i0⟩;have a0:O (E w W1):=dA.trans i0;clear i0
   go_wp2_with fail
   refine⟨⟨a0,HS _ a0⟩,?_⟩;refine Yj rfl (kE (by intros;go_simp<;>rfl) (by go_simp<;>rfl) ?_);refine Uv ?_
   go_wp2_with fail
   refine⟨⟨a0.alloc a0.size _,HS _ (a0.alloc a0.size _)⟩,?_⟩;refine Uv ?_
   go_wp2_with fail
   refine⟨⟨a0.alloc a0.size _,HS _ (a0.alloc a0.size _)⟩,?_⟩;refine Xa ⟨⟨a0.alloc a0.size _,HS _ (a0.alloc a0.size _)⟩,?_⟩;rename_i b0;refine b0 _ _ ?_
   go_meet
   case rel=>exact⟨_,rfl,a0.alloc a0.size _,by simp,a0.size,heap_alloc_last _ _⟩
  unfold znz;obtain⟨W0,u0⟩:=U ((w.alloc (.cells #[I 0,I 0,I 0,I 0,I 0,Zq] 188)).drew);have k0:O (E w W0):=(by show Below _ _ _;rw[u0];exact bA.drew);have R0:O (W0.heap[w.heap.size]?=some (.cells #[I 0,I 0,I 0,I 0,I 0,Zq] 188 (0,0))):=(by show _=_;rw[u0];exact heap_alloc_last w _);have S0:w.heap.size<W0.heap.size:=(by rw[u0];simp)
  go_wp2_with fail
  rw[<-u0];clear u0;refine⟨⟨k0,HS _ k0⟩,?_⟩;refine Uv ?_
  go_wp2_with fail
  refine(P0 _ k0).mono ?_;rintro e1 W1 ⟨rfl,i0⟩;have a0:O (E w W1):=k0.trans (i0.mono k0.size);have G0:O (W1.heap[w.heap.size]?=some (.cells #[I 0,I 0,I 0,I 0,I 0,Zq] 188 (0,0))):=(i0.block _ S0).trans R0.out;have T0:w.heap.size<W1.heap.size:=Qj S0 i0.size;clear i0 R0 k0
  go_wp2_with fail
  refine⟨⟨a0,HS _ a0⟩,?_⟩;refine Yj rfl (kE (by intros;go_simp<;>rfl) (by go_simp<;>rfl) ?_);refine Uv ?_;refine Jx rfl (.tmp 5) (.tmp 20) 188 rfl w.heap.size rfl _ #[I 2,I al,I av,I 0,I 0,Zq] rfl 188 G0.out Tryz.infoNode6 rfl (by simp[oneCell']) ?_;have e0:=setRow_heap W1 w.heap.size _ #[I 2,I al,I av,I 0,I 0,Zq] _ _ G0.out;have h0:=below_setRow a0 lE #[I 2,I al,I av,I 0,I 0,Zq];generalize W1.setRow w.heap.size #[I 2,I al,I av,I 0,I 0,Zq]=W2 at*;have l0:=A e0;have v0:=A h0;have x1:w.heap.size<W2.heap.size:=by
   rcases Nat.lt_or_ge w.heap.size W2.heap.size with h|h
   ·exact h
   rw[Array.getElem?_eq_none h]at e0;cases e0
  clear e0 h0
  go_wp2_with fail
  refine⟨⟨v0,HS _ v0⟩,?_⟩;refine Xa ⟨⟨v0,HS _ v0⟩,?_⟩;rename_i b0;refine b0 _ _ ?_
  go_meet
  case rel=>exact⟨_,rfl,v0,x1,lE,l0⟩
 case rest=>
  obtain⟨nb,rfl,H0,U0,V0,X0⟩:=hcut;obtain⟨s0,s1,s2⟩:=HS _ H0;have Y0:=A H0;have L0:O (Yd w0 wc.drew Xb T B Fb wv acc lvs):=HW.below H0.drew;have Z0:=A X0;have y0:∀c,wv.ownBlock=some c->c<w.heap.size:=λc hc=>(HW.ow.lt c hc).2
  have a1:O (some nb≠wv.ownBlock):=λhh=>by have:=y0 nb hh.symm;omega
  clear X0 H0 y0
  go_wp2_with fail
  refine Vz E0 L0.be [(0,0),(0,1),(0,2),(0,3),(0,4),(0,6),(0,7),(0,8),(0,9),(0,10),(1,5),(0,12),(1,11),(1,13),(0,14),(2,15)] [15] [] (by kernel_rfl) (λ_ _ _ _ h=>h) (λops _=>?_)
  iterate 10 refine Zv rfl (by intros;go_simp<;>rfl) (by go_simp<;>rfl) ?_
  refine Zs ?_
  go_wp2_with fail
  refine(I0 _ _ _ L0).mono ?_;rintro e1 W1 ⟨rfl,wv1,lvs1,b1,z0,A0⟩;have y1:=A A0;have c1:=A b1;have d0:O (Yc wc W1 Xb B wv wv1):=(Yc.cS dA).trans z0
  have d1:O (some nb≠wv1.ownBlock):=λhh=>by
   rcases d0.ow with e|⟨g,e,hg⟩
   ·exact a1 (hh.trans e)
   rw[e]at hh;injection hh with hh;omega
  have f1:nb≠Xb:=(by omega);have g1:nb≠B:=(by have:=HW.x0;omega);have G0:O (W1.heap[nb]?=some (.cells #[I 2,I al,I av,I 0,I 0,Zq] 188 (0,0))):=(d0.bl nb U0 f1 g1 a1).trans Z0.out;have T0:nb<W1.heap.size:=Qj U0 d0.sz;clear b1 z0 A0 Z0 L0
  go_wp2_with fail
  refine⟨E0 _ c1.be,?_⟩;refine Zv rfl (by intros;go_simp<;>rfl) (by go_simp<;>rfl) ?_;refine Zs ?_
  go_wp2_with fail
  refine(J0 _ _ _ c1).mono ?_;rintro e2 W2 ⟨rfl,wv2,lvs2,i1,f0,B0⟩;have z1:O (zz6 (λ_=>False) wc acc lvs ac2 lvs2):=y1.trans d0.sz B0;have j1:=A i1;have M0:O (Yc w W2 Xb B wv wv2):=((Yc.cS Y0).trans d0).trans f0
  have k1:O (some nb≠wv2.ownBlock):=λhh=>by
   rcases f0.ow with e|⟨g,e,hg⟩
   ·exact d1 (hh.trans e)
   rw[e]at hh;injection hh with hh;omega
  have l0:O (W2.heap[nb]?=some (.cells #[I 2,I al,I av,I 0,I 0,Zq] 188 (0,0))):=(f0.bl nb T0 f1 g1 d1).trans G0.out
  have q:∀j u,(#[int .i64 2,I al,I av,I 0,I 0,Zq]:Array Value)[j]?=some u->W2.cell? (Y nb j)=some u:=λj u hj=>by simp only[cell?,l0.out];exact hj
  have fq:∀j,W2.frozen? (Y nb j)=false:=λj=>by simp[frozen?,l0.out]
  have q0:=q 0 _ rfl;have q1:=q 1 _ rfl;have q2:=q 2 _ rfl;have q3:=q 3 _ rfl;have q4:=q 4 _ rfl;have q5:=q 5 _ rfl;have f3:=fq 3;obtain⟨W3,g0⟩:=U (W2.setCell (Y nb 3) (I na));have l1:O (Yd w0 W3 Xb T B Fb wv2 ac2 lvs2):=(by show Yd _ _ _ _ _ _ _ _ _;rw[g0];exact j1.nK (by omega) l0 k1 3 _)
  have qo:∀j,j≠3->W3.cell? (Y nb j)=W2.cell? (Y nb j):=λj hj=>by rw[g0];exact Qg _ _ _ _ (by intro hh;injection hh with _ h5;omega)
  have r3:W3.cell? (Y nb 3)=some (I na):=(by rw[g0];exact cell?_setCell_same' _ _ _ (by rw[q3];rfl));have r0:=(qo 0 (by decide)).trans q0;have r1:=(qo 1 (by decide)).trans q1;have r2:=(qo 2 (by decide)).trans q2;have r4:=(qo 4 (by decide)).trans q4;have r5:=(qo 5 (by decide)).trans q5;have f4:W3.frozen? (Y nb 4)=false:=(by rw[g0,frozen?_setCell];exact fq 4);have N0:O (Yc w W3 Xb B wv wv2):=(by show Yc _ _ _ _ _ _;rw[g0];exact M0.set V0 3 _);have m1:O (∃cs,W3.heap[nb]?=some (.cells cs 188 (0,0))):=(by rw[g0];exact yv2 l0 3 _);have n1:=A g0;obtain⟨W4,m0⟩:=U (W3.setCell (Y nb 4) (I nb2));have A1:O (Yd w0 W4 Xb T B Fb wv2 ac2 lvs2):=by
   obtain⟨cs,B1⟩:=m1.out;show Yd _ _ _ _ _ _ _ _ _;rw[m0];exact l1.nK (by omega) B1 k1 4 _
  have po:∀j,j≠4->W4.cell? (Y nb j)=W3.cell? (Y nb j):=λj hj=>by rw[m0];exact Qg _ _ _ _ (by intro hh;injection hh with _ h5;omega)
  have p4:W4.cell? (Y nb 4)=some (I nb2):=(by rw[m0];exact cell?_setCell_same' _ _ _ (by rw[r4];rfl));have p0:=(po 0 (by decide)).trans r0;have p1:=(po 1 (by decide)).trans r1;have p2:=(po 2 (by decide)).trans r2;have p3:=(po 3 (by decide)).trans r3;have p5:=(po 5 (by decide)).trans r5;have C0:O (Yc w W4 Xb B wv wv2):=(by show Yc _ _ _ _ _ _;rw[m0];exact N0.set V0 4 _);have o1:=A m0;clear q fq i1 f0 B0 q0 q1 q2 q4 q5 qo g0 m0 po r0 r1 r2 r3 r5 m1
  go_wp2_with fail
  refine⟨E0 _ j1.be,?_⟩;refine Zs ?_
  go_wp2_with fail
  rw[<-n1.out];clear n1 q3 f3;refine⟨E0 _ l1.be,?_⟩;refine Zv rfl (by intros;go_simp<;>rfl) (by go_simp<;>rfl) ?_;refine Xs ?_
  go_wp2_with fail
  rw[<-o1.out];clear o1 r4 f4;refine Zu ?_
  go_wp2_with fail
  refine(K0 _ _ _ A1).mono ?_;rintro e3 W5 ⟨rfl,wv5,lvs5,h1,h2,h3⟩
  have HE:O (Vo (λ_=>False) w0 w Xb T B Fb wv acc lvs aX (.returned (I aX.1)) W5):=⟨rfl,wv5,lvs5,h1,C0.trans h2,λp hp=>by
   rcases h3 p hp with h|h|h|h
   ·rcases z1 p h with h|h|h|h
    ·exact .inl h
    ·exact h.elim
    ·exact .inr (.inr (.inl h))
    exact .inr (.inr (.inr λb hb=>Nat.le_trans Y0.size (h b hb)))
   ·exact .inr (.inr (.inl h))
   ·exact .inr (.inr (.inl h))
   exact .inr (.inr (.inr λb hb=>Nat.le_trans C0.sz (h b hb)))⟩
  clear h1 h2 h3;go_wp2;go_ret;exact HE
end
def Tryz.infoIntW:(Tryz.prog.info? 3).map (λi=>(i.zero,i.size,i.bytes))=some (some (I 0),1,8):=by kernel_rfl
namespace Fl
def jc(W:List ar->aa->Int×List ar)(s:aa):∀(l:List aa) (ws:List ar),bK W ws (l++[s])=((bK W ws l).1++[(W (bK W ws l).2 s).1],(W (bK W ws l).2 s).2)
 |[],_=>rfl
 |a::l,ws=>by simp only[cons_append,bK,jc W s l]
def iB(W:List ar->aa->Int×List ar):∀(l:List aa) (ws:List ar),(bK W ws l).1.length=l.length
 |[],_=>rfl
 |a::l,ws=>by simp only[bK,length_cons,iB W l]
end Fl
def yv3{lv:Value}(h:w.ownsRow base 3 1 lv ns.length (ns.map (int .i64))):Zw w.heap.size w lv ns:=by
 rcases id h.2 with⟨rfl,h0⟩|⟨g,cap,cur,rfl,hb,hg,b0,c0,d0,ht⟩
 ·exact⟨none,0,by rw[h0],by omega,by rw[h0];simp[maxLen],λa0=>absurd (Qi h0) a0⟩
 refine⟨_,cap,rfl,by omega,by omega,λ_=>⟨g,0,rfl,(h.lt g rfl).2,λi hi=>?_⟩⟩;have h4:=h.cells (g:=g) rfl i (I (ns.getD i 0)) (by rw[getElem?_map,Qa,Qb hi];rfl)
 have h5:((Y g 0):Addr).add i=(Y g i):=by unfold Addr.add;split<;>simp_all
 rw[h5]at h4;rw[Nat.zero_add];exact h4
def zv9{lv:Value}(h:w.ownsRow base 3 1 lv ns.length (ns.map (int .i64))):∀b,lv.ownBlock=some b->base<=b/\zwv w b:=λb hb=>by
 refine⟨(h.lt b hb).1,?_⟩;rcases id h.2 with⟨rfl,h0⟩|⟨g,cap,cur,rfl,a0,hg,-⟩
 ·cases hb
 injection hb with hb;subst hb;exact⟨cur,_,hg⟩
def ye6{e:TypeId}{k:Nat}(h:w.ownsRow base e k v n xs)(hv:∀g,v.ownBlock=some g->w'.heap[g]?=w.heap[g]?):w'.ownsRow base e k v n xs:=by
 refine⟨h.1,?_⟩;rcases h.2 with⟨rfl,h0⟩|⟨g,cap,cur,rfl,hb,hg,hr⟩
 ·exact .inl ⟨rfl,h0⟩
 exact .inr ⟨g,cap,cur,rfl,hb,by rw[hv g rfl];exact hg,hr⟩
def zk4(h:w.ownsRow base 188 6 v n xs):∀b,v.ownBlock=some b->¬zwv w b:=λb hb hl=>by
 rcases id h.2 with⟨rfl,h0⟩|⟨g,cap,cur,rfl,a0,hg,-⟩
 ·cases hb
 injection hb with hb;subst hb;obtain⟨cs,fr,h5⟩:=hl;rw[hg]at h5;injection h5 with h5;injection h5 with _ h6;exact absurd h6 (by decide)
def zp7{fr:Nat×Nat}(h:w.heap[nb]?=some (.cells cs t fr))(j:Nat)(v:Value):(w.setCell (Y nb j) v).heap[nb]?=some (.cells (cs.setIfInBounds j v) t fr):=by
 have hl:nb<w.heap.size:=by
  rcases Nat.lt_or_ge nb w.heap.size with h'|h'
  ·exact h'
  rw[Array.getElem?_eq_none h']at h;cases h
 have h2:w.heap[nb]=.cells cs t fr:=by rw[Array.getElem?_eq_getElem hl]at h;injection h
 have a0:nb<(w.setCell (Y nb j) v).heap.size:=by rw[Zy];exact hl
 rw[Array.getElem?_eq_getElem a0];simp only[setCell];rw[Array.getElem_modify];simp[h2]
def Yd.aP(h:Yd w0 w Xb T B Fb wv acc lvs){row:Option Nat}(hg:w.grownBy w' row)(hr:∀c,row=some c->Xb<c/\wv.ownBlock≠some c/\∀p,p∈Vy acc lvs->p.2≠[]->p.1.ownBlock≠some c):Yd w0 w' Xb T B Fb wv acc lvs:=by
 obtain⟨x1,x2,x3⟩:=h.x0
 have ne:∀c,c<=Xb->some c≠row:=λc hc hh=>by have:=(hr c hh.symm).1;omega
 have a0:wv.ownBlock=none\/wv.ownBlock≠row:=by
  cases hw:wv.ownBlock with
  |none=>exact .inl rfl
  |some g=>exact .inr (λhh=>(hr g hh.symm).2.1 hw)
 refine⟨h.x0,Qj h.hz hg.size,hg.cell h.c0 (ne Xb lE),hg.cell h.c1 (ne Xb lE),hg.cell h.c2 (ne Xb lE),λj=>(Qd (w:=w) (hg.block Xb h.hz (ne Xb lE))).trans (h.fz j),h.se.kept hg (ne T (by omega)) (ne B (by omega)),h.hl,h.ow.kept hg a0,λp hp=>?_,h.be.grown hg (by have:=h.hz;omega) (λk hk=>by have:=(hr k hk).1;omega)⟩;obtain⟨k1,k2⟩:=h.li p hp;have hn:p.2≠[]->∀b,p.1.ownBlock=some b->some b≠row:=λh1 b hb hh=>(hr b hh.symm).2.2 p hp h1 hb;exact⟨⟨zh5 k1.1 hg hn,k1.2⟩,λh1 b hb=>⟨(k2 h1 b hb).1,(k2 h1 b hb).2.of (hg.block b (k2 h1 b hb).2.lt (hn h1 b hb))⟩⟩
def Yc.grown{w'':World}(h:Yc w w' Xb B wv wv'){row:Option Nat}(hg:w'.grownBy w'' row)(hr:∀c,row=some c->w.heap.size<=c):Yc w w'' Xb B wv wv':=
 ⟨hg.os.trans h.os,hg.tape.trans h.tp,hg.output.trans h.ou,Nat.le_trans h.sz hg.size,λc h1 h2 h3 h4=>(hg.block c (Qj h1 h.sz) (λhh=>by have:=hr c hh.symm;omega)).trans (h.bl c h1 h2 h3 h4),h.ow⟩
structure zny(w0 w wr:World)(Xb T B Fb nb:Nat)(wv wv':Value)(u:Nat)(acc:List Fl.ar)(lvs:Vs)(ns:Is)(ac:List Fl.ar)(lvs':Vs)(lv:Value):Prop where
 wi:Yd w0 wr Xb T B Fb wv' ac lvs'
 st:Yc w wr Xb B wv wv'
 ne:some nb≠wv'.ownBlock
 lo:zz6 (λ_=>False) w acc lvs ac lvs'
 ll:∀p,p∈Vy ac lvs'->p.2≠[]->∀b,p.1.ownBlock=some b->lv.ownBlock≠some b
 ow:wr.ownsRow (nb+1) 3 1 lv ns.length (ns.map (int .i64))
 nd:wr.heap[nb]?=some (.cells #[I 7,I u,I 0,I 0,I 0,lv] 188 (0,0))
def zny.next{W1 W2 W3:World}{wv1:Value}{u:Nat}{ac1:List Fl.ar}{lvs1:Vs}{lv v':Value}{m:Int}(h:zny w0 w wr Xb T B Fb nb wv wv' u acc lvs ns ac lvs' lv)(f0:w.heap.size<=nb)(hX:Xb<nb)(hB:nb≠B)
  (h1:Yd w0 W1 Xb T B Fb wv1 ac1 lvs1) (hs:Yc wr W1 Xb B wv' wv1) (hl:zz6 (λ_=>False) wr ac lvs' ac1 lvs1) (hb:E W1 W2) (ho:W3.ownsRow (nb+1) 3 1 v' (ns.length+1) (ns.map (int .i64)++[I m])) (hg:W2.grownBy W3 lv.ownBlock) (hw:v'.ownBlock=lv.ownBlock\/v'.ownBlock=some W2.heap.size):
  zny w0 w (W3.setCell (Y nb 5) v') Xb T B Fb nb wv wv1 u acc lvs (ns++[m]) ac1 lvs1 v':=by
 have k0:=h.wi.x0;have g0:nb<wr.heap.size:=by
  rcases Nat.lt_or_ge nb wr.heap.size with h'|h'
  ·exact h'
  have h5:=h.nd;rw[Array.getElem?_eq_none h']at h5;cases h5
 have cH:=hs.sz;have l0:=hb.size;have m0:=hg.size
 have a0:∀g,lv.ownBlock=some g->nb<g/\g<wr.heap.size:=λg hh=>by have:=h.ow.lt g hh;omega
 have b0:some nb≠wv1.ownBlock:=λhh=>by
  rcases hs.ow with e|⟨g,e,h0⟩
  ·exact h.ne (hh.trans e)
  rw[e]at hh;injection hh with hh;omega
 have ll1:∀p,p∈Vy ac1 lvs1->p.2≠[]->∀b,p.1.ownBlock=some b->lv.ownBlock≠some b:=λp hp hn b c0 hh=>by
  rcases hl p hp with h5|h5|h5|h5
  ·exact h.ll p h5 hn b c0 hh
  ·exact h5
  ·exact hn h5
  have:=h5 b c0;have:=a0 b hh;omega
 have i0:=h1.below hb
 have d0:∀c,lv.ownBlock=some c->wv1.ownBlock≠some c:=λc hc hh=>by
  rcases hs.ow with e|⟨g,e,h0⟩
  ·exact zk4 h.wi.ow c (e.symm.trans hh) (zv9 h.ow c hc).2
  rw[e]at hh;injection hh with hh;have:=a0 c hc;omega
 have j0:Yd w0 W3 Xb T B Fb wv1 ac1 lvs1:=i0.aP hg (λc hc=>⟨by have:=a0 c hc;omega,d0 c hc,λp hp hn hh=>ll1 p hp hn c hh hc⟩);have e0:W3.heap[nb]?=some (.cells #[I 7,I u,I 0,I 0,I 0,lv] 188 (0,0)):=by
  refine(hg.block nb (by omega) (λhh=>by have:=a0 nb hh.symm;omega)).trans ((hb.block nb (by omega)).trans ((hs.bl nb g0 (by omega) hB h.ne).trans h.nd))
 have dx:Yc w W3 Xb B wv wv1:=(((h.st.trans hs).trans (Yc.cS hb)).grown hg (λc hc=>by have:=a0 c hc;omega));refine⟨j0.nK hX e0 b0 5 v',dx.set f0 5 v',b0,h.lo.trans h.st.sz hl,λp hp hn b c0 hh=>?_,?_,?_⟩
 ·rcases hw with e|e
  ·exact ll1 p hp hn b c0 (e.symm.trans hh)
  rw[e]at hh;injection hh with hh;have:=((h1.li p hp).2 hn b c0).2.lt;omega
 ·have h5:(W3.setCell (Y nb 5) v').ownsRow (nb+1) 3 1 v' (ns.length+1) (ns.map (int .i64)++[I m]):=ownsRow_setCell_below ho (by simp) v'
  rw[length_append,map_append];exact h5
 exact zp7 e0 5 v'
section
def zi8(N:Nat)(hN:N<=20000000)(d:Nat)(St:List Fl.ar->Fl.aa->Int×List Fl.ar)(u:Nat)(hu:u<=6)(v:Value)(l:List Fl.aa)(hF:Vd w0 Fb Pb Lb bC bH bv vv S p vs)(hl:Zl (d+1) S w0 v l)
  (dx:∀V wv' acc' lvs' pv s,s∈l->zy2 (Zl d) S w0 pv s->Yd w0 V Xb T B Fb wv' acc' lvs'->acc'.length<=N->F 142 #[M Xb,pv,I u] V (Vo (λ_=>False) w0 V Xb T B Fb wv' acc' lvs' (St acc' s)))
  (I0:∀k,k<=l.length->(Fl.bK St acc (l.take k)).2.length<=N/\∀n∈(Fl.bK St acc (l.take k)).1,0<=n/\n<=20000000) (h:Yd w0 w Xb T B Fb wv acc lvs):
  F 102 #[M Xb,v,I u] w (Vo (λ_=>False) w0 w Xb T B Fb wv acc lvs (Fl.cI (Fl.bK St acc l).2 ⟨7,(u:Int),0,0,0,(Fl.bK St acc l).1⟩)):=by
 obtain⟨ao,cap,rfl,Y0,Z0,x1,l0⟩:=id hl;have A0:=A l0;have a1:=A dx;have J0:=A I0;have HH:=A h;have b1:=A hF.hS;obtain⟨nb,hnb⟩:=U (w.heap.size);obtain⟨W0,r0⟩:=U (w.alloc (.cells #[I 7,I u,I 0,I 0,I 0,Zq] 188));have B0:O (zny w0 w W0 Xb T B Fb nb wv wv u acc lvs [] acc lvs Zq):=by
  have hb:E w W0:=(by rw[r0];exact bA);refine⟨h.below hb,Yc.cS hb,λhh=>?_,zz6.refl _ _ _ _,λp hp hn b hb2 hh=>(by cases hh),ownsRow_nil _ _ _ _,by rw[r0,hnb];exact heap_alloc_last _ _⟩;have:=(h.ow.lt nb hh.symm).2;omega
 have c1:Xb<nb:=by rw[hnb];exact h.hz
 have K0:O (nb≠B):=by have:=h.x0;show nb≠B;omega
 have y1:(l.length:Int)<=16:=by omega
 have L0:=A hnb;unfold maxLen at Z0;obtain⟨RES,k0⟩:=U (Fl.cI (Fl.bK St acc l).2 ⟨7,(u:Int),0,0,0,(Fl.bK St acc l).1⟩);rw[<-k0];have M0:=A k0;clear hl l0 dx I0 h hF k0
 go_enter func102,ntmps102
 go_wp2;rw[<-r0,<-hnb];clear r0 hnb
 go_loopw [14] (λi wr=>∃(k:Nat) (lv wv':Value) (lvs':Vs),k<=l.length/\i=I k/\zny w0 w wr Xb T B Fb nb wv wv' u acc lvs (Fl.bK St acc (l.take k)).1 (Fl.bK St acc (l.take k)).2 lvs' lv) (λi _=>l.length - (intOf i).toNat)
 case atStart=>exact⟨0,_,_,_,by omega,rfl,B0⟩
 case round=>
  obtain⟨k,lv,wv',lvs',hk,rfl,a0⟩:=hrel
  by_cases e0:k<l.length
  ·obtain⟨b,off,rfl,N0,g0⟩:=A0 (by intro e;rw[e]at e0;cases e0)
   obtain⟨pv,O0,s0⟩:=g0 k e0;obtain⟨s,hs⟩:=U (l.getD k noS);have C0:s=l[k]:=(by rw[hs,Qa,Qb e0];rfl);have dK:s∈l:=(by rw[C0];exact getElem_mem e0);rw[<-hs]at s0;obtain⟨la,lc,i0⟩:∃la lc,lv=J la (Fl.bK St acc (l.take k)).1.length lc:=by
    rcases id a0.ow.2 with⟨rfl,h0⟩|⟨g,cp,cur,rfl,-⟩
    ·exact⟨none,0,by rw[h0]⟩
    exact⟨_,cp,rfl⟩
   have t0:O (Fl.bK St acc (l.take (k+1))=((Fl.bK St acc (l.take k)).1++[(St (Fl.bK St acc (l.take k)).2 s).1],(St (Fl.bK St acc (l.take k)).2 s).2)):=by
    show _=_;rw[take_succ_eq_append_getElem e0,<-C0,Fl.jc]
   have P0:=(J0 k hk).1;have d1:(Fl.bK St acc (l.take k)).1.length<=16:=(by rw[Fl.iB,length_take];omega);generalize hE:Fl.bK St acc (l.take k)=Qy at*;obtain⟨ns,ac⟩:=Qy;simp only at a0 i0 t0 P0 d1;have j0:O (F 142 #[M Xb,pv,I u] wr.drew (Vo (λ_=>False) w0 wr.drew Xb T B Fb wv' ac lvs' (St ac s))):=a1 _ _ _ _ _ _ dK s0 (a0.wi.below dA) P0;obtain⟨rr,Q0⟩:=U (St ac s);obtain⟨m,ac1⟩:=rr;have hR:=Q0.symm;clear Q0;have ee:b<w0.heap.size:=b1 b N0;have f0:wr.cell? (Y b (off+k))=some pv:=cT a0.wi.be ee O0;have f1:∃sb,pv=M sb:=(by obtain⟨sb,-,-,-,e,-⟩:=s0;exact⟨sb,e⟩);obtain⟨sb,rfl⟩:=f1;have b0:=A a0;have g1:nb<wr.heap.size:=by
    rcases Nat.lt_or_ge nb wr.heap.size with h'|h'
    ·exact h'
    have h5:=a0.nd;rw[Array.getElem?_eq_none h']at h5;cases h5
   have u0:O (∀V:World,V.heap[nb]?=wr.heap[nb]?->V.cell? (Y nb 5)=some (J la ns.length lc)/\V.cell? (Y nb 0)=some (I 7)):=λV hV=>by
    have h5:=hV.trans b0.nd;rw[i0]at h5;exact⟨by simp only[cell?,h5];rfl,by simp only[cell?,h5];rfl⟩
   have j1:O (∀V:World,(V.cell? (Y nb 5)=some (J la ns.length lc)/\V.cell? (Y nb 0)=some (I 7))->(V.cell? (Y nb 5)=some (J la ns.length lc)/\V.cell? (Y nb 0)=some (I 7))):=λ_ h=>h;have D0:=A i0;have k1:(k:Int)<(l.length:Int):=(by omega);have l1:=A e0;have z1:=A hE;have A1:=A hR;rw[hR]at j0 t0;simp only at t0;clear g0 O0 N0 dK C0 hs s0 a0 hE hR e0 i0
   go_wp2_with fail
   refine Zm j1 (u0 _ rfl) [5,6,7] [9] [] (by kernel_rfl) (λ_ _ _ _ h=>h) (λops _=>?_)
   iterate 5 refine Zv rfl (by intros;go_simp<;>rfl) (by go_simp<;>rfl) ?_
   refine Zs ?_
   go_wp2_with fail
   refine j0.mono ?_;rintro e1 W1 ⟨rfl,wv1,lvs1,R0,m0,n0⟩;have m1:=A R0;have v0:O (Yc wr W1 Xb B wv' wv1):=(Yc.cS dA).trans m0;have n1:=A n0;have S0:W1.heap[nb]?=wr.heap[nb]?:=v0.bl nb g1 (by omega) K0 b0.ne;have o1:O (W1.ownsRow (nb+1) 3 1 (J la ns.length lc) ns.length (ns.map (int .i64))):=by
    rw[<-D0.out];refine ye6 b0.ow (λg hg=>v0.bl g (b0.ow.lt g hg).2 (by have:=(b0.ow.lt g hg).1;omega) (λe=>?_) (λhh=>zk4 b0.wi.ow g hh.symm (zv9 b0.ow g hg).2));have h5:=(b0.ow.lt g hg).1;have h6:=b0.wi.x0;omega
   have B1:=v0.sz;have E0:=A S0;clear R0 m0 n0 S0
   go_wp2_with fail
   refine⟨u0 _ E0,?_⟩;refine Zs ?_
   go_wp2_with fail
   obtain⟨W2,o0⟩:=U (W1.alloc (.cells #[I m] 3));rw[<-o0];have y0:O (E W1 W2):=(by show Below _ _ _;rw[o0];exact bA);have tc:∀j u,([I m]:Vs)[j]?=some u->W2.cell? (((Y W1.heap.size 0):Addr).add j)=some u:=(by rw[o0];exact yw3 (w:=W1) (l:=[I m]));have C1:W1.heap.size+1=W2.heap.size:=(by rw[o0];simp);have T0:O (W2.ownsRow (nb+1) 3 1 (J la ns.length lc) ns.length (ns.map (int .i64))):=zjy o1 y0.out;obtain⟨i1,p1,r1,s1,t1⟩:=info_parts Tryz.infoIntW;have U0:=u0 W2 ((y0.block nb (by omega)).trans E0);clear o0;refine⟨U0,?_⟩;refine Zs ?_
   go_wp2_with (at_builtin;refine Ap underlying22 p1 r1 s1 t1 rfl T0 rfl [I m] rfl rfl tc (by intro u hu;simp at hu;subst hu;rfl) (by unfold maxLen;omega) (by omega) (by omega) ?_)
   intro v' W3 d0 F0 V0;obtain⟨g3,k3,rfl⟩:∃g3 k3,v'=Sq g3 0 (ns.length+1) k3:=by
    rcases d0.2 with⟨h1,h2⟩|⟨g3,cp,cur,h1,_⟩
    ·omega
    exact⟨g3,cp,h1⟩
   have G0:O (zny w0 w (W3.setCell (Y nb 5) (Sq g3 0 (ns.length+1) k3)) Xb T B Fb nb wv wv1 u acc lvs (ns++[m]) ac1 lvs1 (Sq g3 0 (ns.length+1) k3)):=zny.next b0 (by rw[L0.out];exact Nat.le_refl _) c1 K0 m1 v0 n1 y0 d0 (by rw[D0.out];exact F0) (by rw[D0.out];exact V0);have H0:W3.heap[nb]?=wr.heap[nb]?:=(F0.block nb (by omega) (λhh=>by have:=(T0.lt nb hh.symm).1;omega)).trans ((y0.block nb (by omega)).trans E0);have X0:=u0 W3 H0;have c3:=X0.1;have f3:W3.frozen? (Y nb 5)=false:=(by have h5:=H0.trans b0.nd;simp[frozen?,h5]);clear d0 F0 V0 H0 tc U0
   go_wp2_with fail
   refine⟨X0,?_⟩;refine Zv rfl (by intros;go_simp<;>rfl) (by go_simp<;>rfl) ?_;refine Xs ?_
   go_wp2_with fail
   refine Zu ?_;go_wp2
   go_roundw
   case rel=>exact⟨k+1,_,wv1,lvs1,by have:=l1.out;omega,by go_num,by rw[t0.out];exact G0.out⟩
   case measure=>simp[intOf];omega
  have u1:k=l.length:=(by omega);subst u1;rw[take_length]at a0;have c0:=J0 l.length lE;rw[take_length]at c0;have bt:=Fl.iB St l acc;generalize Fl.bK St acc l=Qy at*;obtain⟨ns,ac⟩:=Qy;simp only at a0 c0 bt M0;obtain⟨la,lc,i0⟩:∃la lc,lv=J la ns.length lc:=by
   rcases id a0.ow.2 with⟨rfl,h0⟩|⟨g,cp,cur,rfl,-⟩
   ·exact⟨none,0,by rw[h0]⟩
   exact⟨_,cp,rfl⟩
  obtain⟨nd,z0⟩:=U (α:=Fl.ar) (⟨7,(u:Int),0,0,0,ns⟩);have p0:Fl.fits nd:=by
   have hR:∀z:Int,0<=z->z<=999999999->Fl.cd z=true:=λz h1 h2=>by simp only[Fl.cd,Qk,Qn];omega
   rw[z0];refine⟨hR _ (by show (0:Int)<=7;decide) (by show (7:Int)<=_;decide),hR _ (by show (0:Int)<=(u:Int);omega) (by show (u:Int)<=_;omega),hR _ (by show (0:Int)<=0;decide) (by show (0:Int)<=_;decide),hR _ (by show (0:Int)<=0;decide) (by show (0:Int)<=_;decide),hR _ (by show (0:Int)<=0;decide) (by show (0:Int)<=_;decide),by show ns.length<=16;omega,?_⟩;show ns.all Fl.cd=true;rw[all_eq_true];exact λz hz=>hR z (c0.2 z hz).1 (by have:=(c0.2 z hz).2;omega)
  have v1:O (F 143 #[M Xb,.agg #[I 7,I u,I 0,I 0,I 0,J la ns.length lc]] wr (Vo (λp=>p=(lv,ns)) w0 wr Xb T B Fb wv' ac lvs' RES)):=by
   have h5:=ztz (lvn:=lv) a0.wi p0 (by rw[z0];exact yv3 a0.ow) (λ_ b hb=>⟨by have:=(zv9 a0.ow b hb).1;omega,λhh=>zk4 a0.wi.ow b hh.symm (zv9 a0.ow b hb).2,(zv9 a0.ow b hb).2⟩) (by have:=c0.1;omega);unfold ndV at h5;rw[z0]at h5;simp only at h5;rw[M0.out];rw[i0]at h5⊢;exact h5
  have b0:=A a0;have h5:=a0.nd;rw[i0]at h5
  have q:∀j u',(#[int .i64 7,I u,I 0,I 0,I 0,J la ns.length lc]:Array Value)[j]?=some u'->wr.cell? (Y nb j)=some u':=λj u' hj=>by simp only[cell?,h5];exact hj
  have q0:=q 0 _ rfl;have q1:=q 1 _ rfl;have q2:=q 2 _ rfl;have q3:=q 3 _ rfl;have q4:=q 4 _ rfl;have q5:=q 5 _ rfl;clear q h5 a0 p0 z0 c0 bt i0
  go_wp2_with fail
  refine v1.mono ?_;rintro e W2 ⟨rfl,wv2,lvs2,h1,h2,h3⟩
  have HE:O (Vo (λ_=>False) w0 w Xb T B Fb wv acc lvs RES (.returned (I RES.1)) W2):=⟨rfl,wv2,lvs2,h1,b0.st.trans h2,λp hp=>by
   rcases h3 p hp with h|h|h|h
   ·exact b0.lo p h
   ·refine .inr (.inr (.inr λb hb=>?_))
    rw[h]at hb;have:=(zv9 b0.ow b hb).1;have:=L0.out;omega
   ·exact .inr (.inr (.inl h))
   exact .inr (.inr (.inr λb hb=>Nat.le_trans b0.st.sz (h b hb)))⟩
  clear h1 h2 h3;go_wp2;go_ret;exact HE
end
structure Ji(w0 w V:World)(Xb T B Fb nb:Nat)(wv wv':Value)(acc:List Fl.ar)(lvs:Vs)(ac:List Fl.ar)(lvs':Vs)(k u a b c:Int):Prop where
 wi:Yd w0 V Xb T B Fb wv' ac lvs'
 st:Yc w V Xb B wv wv'
 ne:some nb≠wv'.ownBlock
 lo:zz6 (λ_=>False) w acc lvs ac lvs'
 nd:V.heap[nb]?=some (.cells #[I k,I u,I a,I b,I c,Zq] 188 (0,0))
def Ji.lt(h:Ji w0 w V Xb T B Fb nb wv wv' acc lvs ac lvs' k u a b c):nb<V.heap.size:=by
 rcases Nat.lt_or_ge nb V.heap.size with h'|h'
 ·exact h'
 have h5:=h.nd;rw[Array.getElem?_eq_none h']at h5;cases h5
def Ji.cell{w0 w V:World}{Xb T B Fb nb:Nat}{wv wv':Value}{acc ac:List Fl.ar}{lvs lvs':Vs}{k u a b c:Int}(h:Ji w0 w V Xb T B Fb nb wv wv' acc lvs ac lvs' k u a b c)(j:Nat)(v:Value)(hj:(#[int .i64 k,I u,I a,I b,I c,Zq]:Array Value)[j]?=some v):V.cell? (Y nb j)=some v:=by
 simp only[cell?,h.nd];exact hj
def Ji.free(h:Ji w0 w V Xb T B Fb nb wv wv' acc lvs ac lvs' k u a b c)(j:Nat):V.frozen? (Y nb j)=false:=by simp[frozen?,h.nd]
def Ji.below{w0 w V V':World}{Xb T B Fb nb:Nat}{wv wv':Value}{acc ac:List Fl.ar}{lvs lvs':Vs}{k u a b c:Int}(h:Ji w0 w V Xb T B Fb nb wv wv' acc lvs ac lvs' k u a b c)(hb:E V V'):Ji w0 w V' Xb T B Fb nb wv wv' acc lvs ac lvs' k u a b c:=
 ⟨h.wi.below hb,h.st.trans (Yc.cS hb),h.ne,h.lo,(hb.block nb h.lt).trans h.nd⟩
def Ji.call{V':World}{wv2:Value}{ac2:List Fl.ar}{lvs2:Vs}(h:Ji w0 w V Xb T B Fb nb wv wv' acc lvs ac lvs' k u a b c)(hX:Xb<nb)(hB:nb≠B)(h1:Yd w0 V' Xb T B Fb wv2 ac2 lvs2)(hs:Yc V V' Xb B wv' wv2)(hl:zz6 (λ_=>False) V ac lvs' ac2 lvs2):Ji w0 w V' Xb T B Fb nb wv wv2 acc lvs ac2 lvs2 k u a b c:=by
 refine⟨h1,h.st.trans hs,λhh=>?_,h.lo.trans h.st.sz hl,(hs.bl nb h.lt (by omega) hB h.ne).trans h.nd⟩;rcases hs.ow with e|⟨g,e,a0⟩
 ·exact h.ne (hh.trans e)
 rw[e]at hh;injection hh with hh;have:=h.lt;omega
def Ji.set{w0 w V:World}{Xb T B Fb nb:Nat}{wv wv':Value}{acc ac:List Fl.ar}{lvs lvs':Vs}{k u a b c:Int}(h:Ji w0 w V Xb T B Fb nb wv wv' acc lvs ac lvs' k u a b c)(hX:Xb<nb)(hw:w.heap.size<=nb)(j:Nat)(v a' b' c':Int)(he:(#[int .i64 k,I u,I a,I b,I c,Zq]:Array Value).setIfInBounds j (I v)=#[I k,I u,I a',I b',I c',Zq]):Ji w0 w (V.setCell (Y nb j) (I v)) Xb T B Fb nb wv wv' acc lvs ac lvs' k u a' b' c':=by
 refine⟨h.wi.nK hX h.nd h.ne j _,h.st.set hw j _,h.ne,h.lo,?_⟩;have h5:=zp7 h.nd j (I v);rw[he]at h5;exact h5
def Ji.bB(h:Ji w0 w V Xb T B Fb nb wv wv' acc lvs ac lvs' k u a b c)(hk:0<=k/\k<=999999999)(hu:0<=u/\u<=999999999)(ha:0<=a/\a<=999999999)(hb:0<=b/\b<=999999999)(hc:0<=c/\c<=999999999)(hn:ac.length<=100000000):
  F 143 #[M Xb,.agg #[I k,I u,I a,I b,I c,Zq]] V (λe w'=>Vo (λ_=>False) w0 w Xb T B Fb wv acc lvs (Fl.cI ac ⟨k,u,a,b,c,[]⟩) e w'):=by
 have hR:∀z:Int,0<=z/\z<=999999999->Fl.cd z=true:=λz h1=>by simp only[Fl.cd,Qk,Qn];omega
 have h5:=ztz (nd:=⟨k,u,a,b,c,[]⟩) (lvn:=Zq) h.wi ⟨hR _ hk,hR _ hu,hR _ ha,hR _ hb,hR _ hc,by simp,by simp⟩ ⟨none,0,rfl,by simp,by simp[maxLen],λhh=>absurd rfl hh⟩ (λhh=>absurd rfl hh) hn;refine h5.mono ?_;rintro e W ⟨h6,wv2,lvs2,h7,h8,h9⟩;refine⟨h6,wv2,lvs2,h7,h.st.trans h8,λp hp=>?_⟩;rcases h9 p hp with h1|h1|h1|h1
 ·rcases h.lo p h1 with h2|h2|h2|h2
  ·exact .inl h2
  ·exact h2.elim
  ·exact .inr (.inr (.inl h2))
  exact .inr (.inr (.inr h2))
 ·exact .inr (.inr (.inl (by rw[h1])))
 ·exact .inr (.inr (.inl h1))
 exact .inr (.inr (.inr λb hb=>Nat.le_trans h.st.sz (h1 b hb)))
section
def yn7(Jb:Nat)(hM:Jb<=20000000)(d:Nat)(u:Nat)(hu:u<p.n){pv:Value}{s:Fl.aa}(h1:zy2 (Zl d) S w0 pv s)(hF:Vd w0 Fb Pb Lb bC bH bv vv S p vs)(hv:vs.length<=100)(hk:eJ vs.length p.aj.length s)(he:bI vs.length s.e)(ho:aY vs.length p.aj.length d s.aZ/\aY vs.length p.aj.length d s.aP)
  (IH:∀V wv' acc' lvs' v l (u':Nat),Zl d S w0 v l->aY vs.length p.aj.length d l->u'<p.n->Yd w0 V Xb T B Fb wv' acc' lvs'->acc'.length<=Jb->F 102 #[M Xb,v,I u'] V (Vo (λ_=>False) w0 V Xb T B Fb wv' acc' lvs' (Fl.aD p vs d acc' l u')))
  (hn:acc.length<=Jb) (b1 b2:Int×List Fl.ar) (lv:Nat) (elv:Fl.jn p u (Fl.aB p vs s.e)=(lv:Int)) (I0:b1=Fl.aD p vs d (Fl.dQ p vs acc s.e).2 s.aZ lv) (O0:b2=Fl.aD p vs d b1.2 s.aP lv) (t0:((Fl.dQ p vs acc s.e).2.length<=Jb/\0<=(Fl.dQ p vs acc s.e).1/\(Fl.dQ p vs acc s.e).1<=20000000)/\(b1.2.length<=Jb/\0<=b1.1/\b1.1<=20000000)/\b2.2.length<=Jb/\0<=b2.1/\b2.1<=20000000) (h:Yd w0 w Xb T B Fb wv acc lvs):
  F 142 #[M Xb,pv,I u] w (Vo (λ_=>False) w0 w Xb T B Fb wv acc lvs (Fl.dh (Fl.aD p vs d) p vs u acc s)):=by
 obtain⟨sb,vp,fv,ev,rfl,i1,r0,n0,V0,X0⟩:=h1;have cH:sb<w0.heap.size:=hF.hS sb i1;have h6:=hF.lv.lv.n6
 have u0:O (∀V,E w0 V->D V sb 0 (I s.kind)/\D V sb 2 (I s.x)/\D V sb 3 vp/\D V sb 4 fv/\D V sb 5 ev):=λV hV=>by
  have q:∀j,V.cell? (Y sb j)=w0.cell? (Y sb j):=λj=>hV.cell (p:=(Y sb j)) cH;exact⟨(q 0).trans (r0.c 0 (by omega)),(q 2).trans (r0.c 2 (by omega)),(q 3).trans (r0.c 3 (by omega)),(q 4).trans (r0.c 4 (by omega)),(q 5).trans (r0.c 5 (by omega))⟩
 obtain⟨vl,P0,evl⟩:=zu9 hF.lv.lv hF.ok he;obtain⟨lv',hlv',elv'⟩:=hF.lv.lv.join hu P0;have j1:lv'=lv:=by
  have h5:Fl.jn p u (Fl.aB p vs s.e)=(lv':Int):=(by unfold Fl.jn;rw[evl];exact elv');rw[elv]at h5;omega
 subst j1;have l0:O (∀V wv' lvs',Yd w0 V Xb T B Fb wv' acc lvs'->F 167 #[M Xb,vp] V (Vo (λ_=>False) w0 V Xb T B Fb wv' acc lvs' (Fl.dQ p vs acc s.e))):=λV wv' lvs' hV=>yn6 hV hF n0 he hv (by omega)
 have Y0:O (∀V,E w0 V->F 166 #[M Fb,vp] V λr w'=>r=.returned (I (vl:Nat))/\E V w'):=λV hV=>by
  have h5:=zsv (hF.below hV) (n0.kept (λ_ h=>h) (λb hb=>hV.block b (hF.hS b hb))) he;rw[evl]at h5;exact h5
 have HJ:O (∀V,E w0 V->F 100 #[M Lb,I u,I vl] V λr w'=>r=.returned (I (lv':Nat))/\w'=V):=λV hV=>by
  have h5:=zn4 (hF.below hV).lv.la h6 u vl hu P0;rw[elv']at h5;exact h5
 have Q0:O (∀V,E w0 V->D V Fb 0 (M Pb)/\D V Pb 0 (M Lb)):=λV hV=>⟨(hF.below hV).c0,(hF.below hV).lv.p0⟩;obtain⟨v1,R0⟩:=U (Fl.dQ p vs acc s.e);rw[<-R0]at l0 t0 I0
 have S0:O (∀V wv' lvs',Yd w0 V Xb T B Fb wv' v1.2 lvs'->F 102 #[M Xb,fv,I lv'] V (Vo (λ_=>False) w0 V Xb T B Fb wv' v1.2 lvs' b1)):=λV wv' lvs' hV=>by rw[I0];exact IH V wv' _ lvs' fv s.aZ lv' V0 ho.1 hlv' hV t0.1.1
 have Z0:O (∀V wv' lvs',Yd w0 V Xb T B Fb wv' b1.2 lvs'->F 102 #[M Xb,ev,I lv'] V (Vo (λ_=>False) w0 V Xb T B Fb wv' b1.2 lvs' b2)):=λV wv' lvs' hV=>by rw[O0];exact IH V wv' _ lvs' ev s.aP lv' X0 ho.2 hlv' hV t0.2.1.1
 have b0:O (Fl.dh (Fl.aD p vs d) p vs u acc s=if s.kind=5 then Fl.cI b2.2 ⟨5,u,v1.1,b1.1,b2.1,[]⟩ else if s.kind=6 then Fl.cI b1.2 ⟨6,u,v1.1,b1.1,0,[]⟩ else Fl.cI v1.2 ⟨s.kind,u,s.x,v1.1,0,[]⟩):=by
  show _=_;unfold Fl.dh;simp only;rw[elv,<-R0,<-I0,<-O0]
 obtain⟨RES,a1⟩:=U (Fl.dh (Fl.aD p vs d) p vs u acc s);rw[<-a1]at b0⊢;obtain⟨nb,hnb⟩:=U (w.heap.size);obtain⟨W0,J0⟩:=U (w.alloc (.cells #[I s.kind,I u,I 0,I 0,I 0,Zq] 188));have T0:O (Ji w0 w W0 Xb T B Fb nb wv wv acc lvs acc lvs s.kind u 0 0 0):=by
  have hb:E w W0:=(by rw[J0];exact bA);refine⟨h.below hb,Yc.cS hb,λhh=>?_,zz6.refl _ _ _ _,by rw[J0,hnb];exact heap_alloc_last _ _⟩;have:=(h.ow.lt nb hh.symm).2;omega
 have f0:Xb<nb:=by rw[hnb];exact h.hz
 have K0:nb≠B:=by have:=h.x0;have:=h.hz;omega
 have o0:w.heap.size<=nb:=by omega
 have p1:s.kind<=6:=by rcases hk with h|h|h|h<;>omega
 have k1:O (s.kind=3\/s.kind=4->s.x<=100):=λhh=>by
  rcases hk with h|h|h|h
  ·omega
  ·have:=hF.pk.ch;omega
  ·omega
  omega
 have l1:O ((s.kind=3\/s.kind=4)\/s.kind=5\/s.kind=6):=by rcases hk with h|h|h|h<;>(show (_\/_)\/_;omega)
 have j0:=A t0;obtain⟨s0,-,t3,-⟩:=u0 w h.be;have r1:sb<w.heap.size:=Qj cH h.be.size;have s1:Fb<w0.heap.size:=hF.hF;generalize s.kind=kd at*;generalize s.x=xx at*;obtain⟨v1n,v1l⟩:=v1;obtain⟨b1n,b1l⟩:=b1;obtain⟨b2n,b2l⟩:=b2;simp only at S0 Z0 b0 j0 l0;clear r0 n0 V0 X0 hF he ho IH R0 I0 O0 t0 a1 hk h evl elv elv' P0 hlv';unfold ptr
 go_enter func142,ntmps142
 go_wp2_with fail
 rw[<-J0,<-hnb];clear J0 hnb s0;refine(l0 _ _ _ T0.wi).mono ?_;rintro e1 W1 ⟨rfl,wv1,lvs1,c1,v0,y0⟩;have z0:O (Ji w0 w W1 Xb T B Fb nb wv wv1 acc lvs v1l lvs1 kd u 0 0 0):=T0.call f0 K0 c1 v0 y0
 have L0:O (∀V,E W1 V->D V Xb 0 (M Fb)/\D V Fb 0 (M Pb)/\D V Pb 0 (M Lb)/\D V sb 3 vp):=λV hV=>by
  have h5:=(z0.below hV).wi;exact⟨h5.c0,(Q0 V h5.be).1,(Q0 V h5.be).2,(u0 V h5.be).2.2.1⟩
 clear c1 v0 y0 T0 t3 l0
 go_wp2_with fail
 refine Zm L0 dA [19,20] [] [] (by kernel_rfl) (λ_ _ _ _ h=>h) (λops _=>?_)
 iterate 19 refine Zv rfl (by intros;go_simp<;>rfl) (by go_simp<;>rfl) ?_
 refine Zs ?_
 go_wp2_with fail
 refine(Y0 _ (z0.below dA).wi.be).mono ?_;rintro e2 W9 ⟨rfl,d1⟩;have A0:O (E W1 W9):=dA.trans d1;clear d1
 go_wp2_with fail
 refine⟨L0 _ A0,?_⟩;refine Zs ?_
 go_wp2_with fail
 refine(HJ _ (z0.below A0).wi.be).mono ?_;rintro e3 W2 ⟨rfl,rfl⟩
 go_wp2_with fail
 refine⟨L0 _ A0,?_⟩;refine Zv rfl (by intros;go_simp<;>rfl) (by go_simp<;>rfl) ?_;refine Zu ?_;have d0:O (Ji w0 w W2 Xb T B Fb nb wv wv1 acc lvs v1l lvs1 kd u 0 0 0):=z0.below A0.out;obtain⟨s0,s2,s3,s4,s5⟩:=u0 W2 d0.wi.be;have c2:=d0.cell 2 _ rfl;have c3:=d0.cell 3 _ rfl;have c4:=d0.cell 4 _ rfl;have f2:=d0.free 2;have f3:=d0.free 3;have f4:=d0.free 4
 have U0:(0:Int)<=(u:Int)/\(u:Int)<=999999999:=by omega
 clear L0 z0 A0 Y0 HJ Q0;rcases l1.out with f1|h5|h6'
 ·have HR:O (RES=Fl.cI v1l ⟨(kd:Int),u,xx,v1n,0,[]⟩):=by show _=_;rw[b0.out,Z (by omega),Z (by omega)]
  have M0:=d0.set f0 o0 2 (xx:Int) (xx:Int) 0 0 rfl;have a0:=M0.set f0 o0 3 v1n (xx:Int) v1n 0 rfl;have d3:=M0.cell 3 _ rfl;have g3:=M0.free 3;have q0:=a0.cell 0 _ rfl;have q1:=a0.cell 1 _ rfl;have q2:=a0.cell 2 _ rfl;have q3:=a0.cell 3 _ rfl;have q4:=a0.cell 4 _ rfl;have q5:=a0.cell 5 _ rfl;have HN:=a0.bB (by omega) U0 (by have:=k1 f1;omega) (by have:=j0.1;omega) (by omega) (by have:=j0.1;omega);rw[<-HR.out]at HN;have B0:=A HN;clear M0 a0 HN HR b0 d0;rcases f1 with h3|h4
  all_goals
   first|subst h3|subst h4
   go_wp2_with fail
   refine B0.mono ?_;rintro e W6 g0;have C0:=A g0;obtain⟨D0,-⟩:=id g0;subst D0;clear g0;go_wp2;go_ret;exact C0
 ·subst h5
  have HR:O (RES=Fl.cI b2l ⟨5,u,v1n,b1n,b2n,[]⟩):=(by show _=_;rw[b0.out,G rfl]);have E0:O (∀V,E w0 V->D V sb 4 fv/\D V sb 5 ev):=λV hV=>⟨(u0 V hV).2.2.2.1,(u0 V hV).2.2.2.2⟩;clear b0 c2 c3 c4 f2 f3 f4
  go_wp2_with fail
  refine Vz E0 (d0.below dA).wi.be [(0,0),(0,1),(0,2),(0,3),(0,4),(0,5),(0,6),(0,8),(0,9),(0,10),(0,11),(0,12),(0,13),(0,15),(1,7),(1,14),(1,16),(0,17),(1,18),(0,19),(2,20)] [20] [] (by kernel_rfl) (λ_ _ _ _ h=>h) (λops _=>?_)
  iterate 14 refine Zv rfl (by intros;go_simp<;>rfl) (by go_simp<;>rfl) ?_
  refine Zs ?_
  go_wp2_with fail
  refine(S0 _ _ _ (d0.below dA).wi).mono ?_;rintro e4 W4 ⟨rfl,wv4,lvs4,F0,h0,i0⟩;have N0:O (Ji w0 w W4 Xb T B Fb nb wv wv4 acc lvs b1l lvs4 (5:Nat) u 0 0 0):=(d0.below dA).call f0 K0 F0 h0 i0;clear F0 h0 i0 d0 s0 s2 s3 s4 s5
  go_wp2_with fail
  refine⟨E0 _ N0.wi.be,?_⟩;refine Zs ?_
  go_wp2_with fail
  refine(Z0 _ _ _ N0.wi).mono ?_;rintro e5 W5 ⟨rfl,wv5,lvs5,g1,G0,H0⟩;have a0:=N0.call f0 K0 g1 G0 H0;have k0:=a0.set f0 o0 2 v1n v1n 0 0 rfl;have e0:=k0.set f0 o0 3 b1n v1n b1n 0 rfl;have m0:=e0.set f0 o0 4 b2n v1n b1n b2n rfl;have c2:=a0.cell 2 _ rfl;have f2:=a0.free 2;have c3:=k0.cell 3 _ rfl;have f3:=k0.free 3;have c4:=e0.cell 4 _ rfl;have f4:=e0.free 4;have q0:=m0.cell 0 _ rfl;have q1:=m0.cell 1 _ rfl;have q2:=m0.cell 2 _ rfl;have q3:=m0.cell 3 _ rfl;have q4:=m0.cell 4 _ rfl;have q5:=m0.cell 5 _ rfl;have HN:=m0.bB (by omega) U0 (by have:=j0.1;omega) (by have:=j0.2.1;omega) (by have:=j0.2.2;omega) (by have:=j0.2.2;show b2l.length<=_;omega);have e5':((5:Nat):Int)=5:=rfl;rw[e5',<-HR.out]at HN;have B0:=A HN;have m1:O _:=E0 _ a0.wi.be;have n1:O _:=E0 _ k0.wi.be;have o1:O _:=E0 _ e0.wi.be;clear a0 k0 e0 m0 HN HR N0 g1 G0 H0 e5'
  go_wp2_with fail
  refine⟨m1,?_⟩;refine Zs ?_
  go_wp2_with fail
  refine⟨n1,?_⟩;refine Zv rfl (by intros;go_simp<;>rfl) (by go_simp<;>rfl) ?_;refine Zs ?_
  go_wp2_with fail
  refine⟨o1,?_⟩;refine Zv rfl (by intros;go_simp<;>rfl) (by go_simp<;>rfl) ?_;refine Xs ?_
  go_wp2_with fail
  refine Zu ?_
  go_wp2_with fail
  refine B0.mono ?_;rintro e W6 g0;have C0:=A g0;obtain⟨D0,-⟩:=id g0;subst D0;clear g0;go_wp2;go_ret;exact C0
 subst h6'
 have HR:O (RES=Fl.cI b1l ⟨6,u,v1n,b1n,0,[]⟩):=by show _=_;rw[b0.out,Z (by decide),G rfl]
 clear b0 c2 c3 c4 f2 f3 f4
 go_wp2_with fail
 refine(S0 _ _ _ d0.wi).mono ?_;rintro e4 W4 ⟨rfl,wv4,lvs4,F0,h0,i0⟩;have a0:=d0.call f0 K0 F0 h0 i0;have k0:=a0.set f0 o0 2 v1n v1n 0 0 rfl;have e0:=k0.set f0 o0 3 b1n v1n b1n 0 rfl;have c2:=a0.cell 2 _ rfl;have f2:=a0.free 2;have c3:=k0.cell 3 _ rfl;have f3:=k0.free 3;have q0:=e0.cell 0 _ rfl;have q1:=e0.cell 1 _ rfl;have q2:=e0.cell 2 _ rfl;have q3:=e0.cell 3 _ rfl;have q4:=e0.cell 4 _ rfl;have q5:=e0.cell 5 _ rfl;have HN:=e0.bB (by omega) U0 (by have:=j0.1;omega) (by have:=j0.2.1;omega) (by omega) (by have:=j0.2.1;show b1l.length<=_;omega);have e6':((6:Nat):Int)=6:=rfl;rw[e6',<-HR.out]at HN;have B0:=A HN;clear a0 k0 e0 HN HR d0 F0 h0 i0 s0 s2 s3 s4 s5 e6'
 go_wp2_with fail
 refine B0.mono ?_;rintro e W6 g0;have C0:=A g0;obtain⟨D0,-⟩:=id g0;subst D0;clear g0;go_wp2;go_ret;exact C0
end
namespace Fl
def mN:Nat->Nat
 |0=>1
 |d+1=>65+32*mN d
def fT(n c:Nat)(r:Int×List ar):Prop:=r.2.length<=n+c/\n<=r.2.length/\0<=r.1/\r.1<=n+c
def eE(acc:List ar)(nd:ar):fT acc.length 1 (cI acc nd):=by
 have:=zh6 acc nd;unfold fT;omega
def ld(p:aV)(vs:Is)(acc:List ar)(e:da):fT acc.length 3 (dQ p vs acc e):=by
 unfold dQ
 split
 ·have:=eE acc ⟨if e.a.var then 1 else 0,bZ p vs e.a,e.a.v,0,0,[]⟩
  unfold fT at this⊢;unfold bR;omega
 have h1:=eE acc ⟨if e.a.var then 1 else 0,bZ p vs e.a,e.a.v,0,0,[]⟩;have h2:=eE (bR p vs acc e.a).2 ⟨if e.b.var then 1 else 0,bZ p vs e.b,e.b.v,0,0,[]⟩;have h3:=eE (bR p vs (bR p vs acc e.a).2 e.b).2 ⟨2,aB p vs e,e.op,(bR p vs acc e.a).1,(bR p vs (bR p vs acc e.a).2 e.b).1,[]⟩
 change fT _ _ (bR p vs acc e.a) at h1
 change fT _ _ (bR p vs (bR p vs acc e.a).2 e.b) at h2
 unfold fT at*;omega
def kr(Wx:List ar->List aa->Int->Int×List ar)(c:Nat)(p:aV)(vs:Is)(u:Int)(acc:List ar)(s:aa)(h1:∀a l,fT a.length c (Wx a s.aZ l))(h2:∀a l,fT a.length c (Wx a s.aP l)):fT acc.length (4+2*c) (dh Wx p vs u acc s):=by
 unfold dh;simp only;have hv:=ld p vs acc s.e;have e1:=h1 (dQ p vs acc s.e).2 (jn p u (aB p vs s.e));have e2:=h2 (Wx (dQ p vs acc s.e).2 s.aZ (jn p u (aB p vs s.e))).2 (jn p u (aB p vs s.e))
 split
 ·have:=eE (Wx (Wx (dQ p vs acc s.e).2 s.aZ (jn p u (aB p vs s.e))).2 s.aP (jn p u (aB p vs s.e))).2 ⟨5,u,(dQ p vs acc s.e).1,(Wx (dQ p vs acc s.e).2 s.aZ (jn p u (aB p vs s.e))).1,(Wx (Wx (dQ p vs acc s.e).2 s.aZ (jn p u (aB p vs s.e))).2 s.aP (jn p u (aB p vs s.e))).1,[]⟩
  unfold fT at*;omega
 split
 ·have:=eE (Wx (dQ p vs acc s.e).2 s.aZ (jn p u (aB p vs s.e))).2 ⟨6,u,(dQ p vs acc s.e).1,(Wx (dQ p vs acc s.e).2 s.aZ (jn p u (aB p vs s.e))).1,0,[]⟩
  unfold fT at*;omega
 have:=eE (dQ p vs acc s.e).2 ⟨s.kind,u,s.x,(dQ p vs acc s.e).1,0,[]⟩;unfold fT at*;omega
def jO(W:List ar->aa->Int×List ar)(c:Nat):∀(l:List aa) (acc:List ar),(∀a s,s∈l->fT a.length c (W a s))->(bK W acc l).2.length<=acc.length+l.length*c/\acc.length<=(bK W acc l).2.length/\∀n∈(bK W acc l).1,0<=n/\n<=acc.length+l.length*c
 |[],acc,_=>⟨by simp[bK],by simp[bK],λn hn=>by cases hn⟩
 |s::l,acc,h=>by
  have h1:=h acc s (by simp);have h2:=jO W c l (W acc s).2 (λa t ht=>h a t (by simp[ht]));have e:(s::l).length*c=l.length*c+c:=(by rw[length_cons,Nat.succ_mul]);unfold fT at h1;refine⟨by show (bK W (W acc s).2 l).2.length<=_;omega,by show _<=(bK W (W acc s).2 l).2.length;omega,λn hn=>?_⟩;rcases mem_cons.1 (show n∈(W acc s).1::(bK W (W acc s).2 l).1 from hn) with rfl|hn
  ·omega
  have:=h2.2.2 n hn;omega
def eC(p:aV)(vs:Is):∀(d:Nat) (acc:List ar) (l:List aa) (u:Int),Small d l->fT acc.length (mN d) (aD p vs d acc l u)
 |0,acc,l,u,_=>eE acc _
 |d+1,acc,l,u,h=>by
  have h1:=jO (dh (aD p vs d) p vs u) (4+2*mN d) l acc (λa s hs=>kr _ _ p vs u a s (λa l=>eC p vs d a _ l (h.2 s hs).1) (λa l=>eC p vs d a _ l (h.2 s hs).2));have h2:=eE (bK (dh (aD p vs d) p vs u) acc l).2 ⟨7,u,0,0,0,(bK (dh (aD p vs d) p vs u) acc l).1⟩;have h3:l.length*(4+2*mN d)<=16*(4+2*mN d):=Nat.mul_le_mul_right _ h.1;show fT acc.length (65+32*mN d) (cI _ _);unfold fT at*;omega
end Fl
section
def zfv(hF:Vd w0 Fb Pb Lb bC bH bv vv S p vs):∀(d:Nat),d<=4->∀(V:World) (wv:Value) (acc:List Fl.ar) (lvs:Vs) (v:Value) (l:List Fl.aa) (u:Nat),Zl d S w0 v l->aY vs.length p.aj.length d l->u<p.n->Yd w0 V Xb T B Fb wv acc lvs->acc.length<=20000000 - 4000000*d->
  F 102 #[M Xb,v,I u] V (Vo (λ_=>False) w0 V Xb T B Fb wv acc lvs (Fl.aD p vs d acc l u))
 |0,_,V,wv,acc,lvs,v,l,u,hl,ho,hu,h,hn=>by
  obtain⟨rfl,rfl⟩:=hl;have h6:=hF.lv.lv.n6;exact zi8 20000000 lE 0 (λa _=>(0,a)) u (by omega) Zq [] hF ⟨none,0,rfl,by simp,by simp[maxLen],by simp,λhh=>absurd rfl hh⟩ (λ_ _ _ _ _ _ hs=>(by cases hs)) (λk hk=>⟨by simp[Fl.bK];omega,λn hn=>(by simp[Fl.bK]at hn)⟩) h
 |d+1,hd,V,wv,acc,lvs,v,l,u,hl,ho,hu,h,hn=>by
  have h6:=hF.lv.lv.n6;have a0:=Zl.small _ _ _ hl;have hv:vs.length<=100:=(by have:=hF.ok.1;have:=hF.pk.ce;have:=hF.pk.lo;omega);have hg:Fl.mN d<=101473:=by
   have:d=0\/d=1\/d=2\/d=3:=by omega
   rcases this with rfl|rfl|rfl|rfl<;>decide
  have hS:∀s∈l,∀(a:List Fl.ar),Fl.fT a.length (4+2*Fl.mN d) (Fl.dh (Fl.aD p vs d) p vs u a s):=λs hs a=>Fl.kr _ _ p vs u a s (λa l=>Fl.eC p vs d a _ l (a0.2 s hs).1) (λa l=>Fl.eC p vs d a _ l (a0.2 s hs).2);refine zi8 (19500000 - 4000000*d) (by omega) d (Fl.dh (Fl.aD p vs d) p vs u) u (by omega) v l hF hl (λV' wv' acc' lvs' pv s hs c0 hV hn'=>?_) (λk hk=>?_) h
  ·obtain⟨d0,b0,e0,f0⟩:=ho s hs
   obtain⟨vl,g0,evl⟩:=zu9 hF.lv.lv hF.ok b0;obtain⟨lv,h0,elv⟩:=hF.lv.lv.join hu g0;have ej:Fl.jn p u (Fl.aB p vs s.e)=(lv:Int):=(by unfold Fl.jn;rw[evl];exact elv);have g1:=Fl.ld p vs acc' s.e;have g2:=Fl.eC p vs d (Fl.dQ p vs acc' s.e).2 s.aZ lv (a0.2 s hs).1;have g3:=Fl.eC p vs d (Fl.aD p vs d (Fl.dQ p vs acc' s.e).2 s.aZ lv).2 s.aP lv (a0.2 s hs).2;unfold Fl.fT at g1 g2 g3;exact yn7 (20000000 - 4000000*d) (by omega) d u hu c0 hF hv d0 b0 ⟨e0,f0⟩ (λV wv acc lvs v l u a b c e f=>zfv hF d (by omega) V wv acc lvs v l u a b c e f) (by omega) _ _ lv ej rfl rfl ⟨⟨by omega,by omega,by omega⟩,⟨by omega,by omega,by omega⟩,by omega,by omega,by omega⟩ hV
  have h1:=Fl.jO (Fl.dh (Fl.aD p vs d) p vs u) (4+2*Fl.mN d) (l.take k) acc (λa s hs=>hS s (mem_of_mem_take hs) a);have h2:(l.take k).length<=16:=(by rw[length_take];have:=a0.1;omega);have h3:(l.take k).length*(4+2*Fl.mN d)<=16*(4+2*Fl.mN d):=Nat.mul_le_mul_right _ h2;refine⟨by omega,λn hn=>?_⟩;have:=h1.2.2 n hn;omega
end
namespace Fl
def eH(ns:List ar)(k:Nat):Bool:=(range k).any (λi=>eh (nth ns i) (nth ns k))
def bM(ns:List ar):Int:=match (range ns.length).find? (eH ns) with|some k=>(k:Int)|none=> -1
def iu(ns:List ar)(k:Nat)(hk:k<ns.length):eH ns k=true ↔ nth ns k∈ns.take k:=by
 unfold eH;rw[any_eq_true]
 constructor
 ·rintro⟨i,hi,he⟩
  simp only[mem_range]at hi;rw[<-(dg _ _).1 he]
  have:nth ns i=(ns.take k)[i]'(by simp;omega):=by simp[nth,Qa,Qb (show i<ns.length by omega)]
  rw[this];exact getElem_mem _
 intro h;obtain⟨i,hi,he⟩:=getElem_of_mem h
 have a0:i<k:=by simp at hi;omega
 refine⟨i,by simpa using a0,(dg _ _).2 ?_⟩;rw[<-he];simp[nth,Qa,Qb (show i<ns.length by omega)]
end Fl
def Yz.node{b off cap:Nat}{ns:List Fl.ar}(h:Yz B w (Sq b off n cap) ns)(hi:i<ns.length)(hB:B<=w.heap.size):∃lv,Vj w b (off+i*6) (Fl.nth ns i) lv:=by
 obtain⟨_,lv,h0,h1,h2,h3,h4,h5,h6⟩:=h.at hi;exact⟨lv,h1,h2,h3,h4,h5,h6,h0.mono hB⟩
structure SameRel(ns:List Fl.ar)(w wr:World)(j:Nat)(dt:List Fl.ar):Prop where
 hj:j<=ns.length
 bt:dt.length=j
 dK:∀x,x∈dt ↔ x∈ns.take j
 dS:∀t,t<j->Fl.eH ns t=false
 hs:zp5 wr (w.heap.size+1) w.heap.size dt
 hb:E w wr
 hz:w.heap.size+2<=wr.heap.size
def yy9(ns:List Fl.ar)(nv:Value)(w:World)(hn:Yz w.heap.size w nv ns)(hf:∀i,i<ns.length->Fl.fits (Fl.nth ns i))(bt:ns.length<=1000):
  F 132 #[nv] w (Rw (I (Fl.bM ns)) w):=by
 obtain⟨na,nc,rfl,_,hm,_⟩:=id hn;have HN:=A hn;clear hn hm
 go_enter func132,ntmps132
 go_wp2_with (go_at_call 101;refine(ywv _).mono ?_;rintro e w1 ⟨rfl,e0,f0,r0⟩)
 have n0:=A e0;have o0:=A f0;clear e0 f0
 go_wp2_with fail
 go_loopw [10] (λi wr=>∃(j:Nat) (dt:List Fl.ar),i=I j/\SameRel ns w wr j dt) (λi _=>ns.length - (intOf i).toNat)
 case atStart=>exact⟨0,[],rfl,⟨by omega,rfl,by simp,λt ht=>by omega,n0,o0,by omega⟩⟩
 case round=>
  obtain⟨j,dt,rfl,hr⟩:=hrel;have hj:=hr.hj;have HR:=A hr;clear hr
  by_cases a0:j<ns.length
  ·obtain⟨b,off,rfl⟩:∃b off,na=some (Y b off):=by
    obtain⟨ao',cap',hv',_,_,hx'⟩:=HN.out;obtain⟨b,off,ha,_⟩:=hx' (by intro h;rw[h]at a0;simp at a0);simp only[slice.injEq]at hv';exact⟨b,off,hv'.1.trans ha⟩
   obtain⟨lv,g0⟩:=(HN.below HR.hb).node a0 HR.hb.size;have h0:=hf j a0;have HC:O (F 107 #[Pp b (off+j*6)] wr (Rw (.agg (Yq (Fl.nth ns j)).toArray) wr)):=zs4 g0 h0.2.2.2.2.2.1;have s0:(j:Int)<(ns.length:Int):=(by omega);clear g0
   go_wp2_with (go_at_call 107;refine(HC.out).mono ?_;rintro e w2 ⟨rfl,b0⟩)
   have i0:zp5 w2 (w.heap.size+1) w.heap.size dt:=HR.hs.kept (row:=none) ⟨b0.os,b0.tape,b0.output,b0.size,λk hk _=>b0.block k hk⟩ (by simp) (by simp);have j0:O (E w w2):=HR.hb.trans (b0.mono HR.hb.size);have k0:w.heap.size+2<=w2.heap.size:=Nat.le_trans HR.hz b0.size;clear b0 HC;refine(yv0 i0 h0 (by have:=HR.bt;omega)).mono ?_;rintro e w3 ⟨c,t,rfl,ht,l0,c0⟩;have m0:O (E w w3):=j0.trans ⟨c0.os,c0.tape,c0.output,c0.size,λk hk=>c0.block k (by have:=j0.size;omega) (by simp;omega)⟩;have p0:w.heap.size+2<=w3.heap.size:=Nat.le_trans k0 c0.size;have q0:=A l0;have HT:=A ht;clear i0 l0 c0 ht k0
   cases t with
   |true=>
    have d0:Fl.eH ns j=true:=(Fl.iu ns j a0).2 ((HR.dK _).1 (HT.1 rfl));have HF:O (Fl.bM ns=(j:Int)):=by
     show Fl.bM ns=(j:Int);unfold Fl.bM;rw[fL _ _ j HR.dS a0 d0]
    clear d0;go_wp2;go_ret;exact⟨zy5 HF.symm,m0⟩
   |false=>
    have HD:O (Fl.eH ns j=false):=by
     show Fl.eH ns j=false;rw[Bool.eq_false_iff];intro h
     have:=HT.2 ((HR.dK _).2 ((Fl.iu ns j a0).1 h));cases this
    go_wp2
    go_roundw
    case rel=>
     refine⟨j+1,Fl.nth ns j::dt,by go_num,⟨by omega,by simp[HR.bt],λx=>?_,λt ht=>?_,q0,m0,p0⟩⟩
     ·rw[fK ns j a0,mem_cons,mem_append,mem_singleton,HR.dK x];exact or_comm
     by_cases h:t<j
     ·exact HR.dS t h
     have:t=j:=by omega
     subst this;exact HD
    case measure=>simp[intOf];omega
  have HF:O (Fl.bM ns= -1):=by
   show Fl.bM ns= -1;unfold Fl.bM;rw[ey _ _ (λk hk=>HR.dS k (by omega))]
  go_wp2;go_ret;exact⟨zy5 HF.symm,HR.hb⟩
namespace Fl
def dC(ns:List ar)(j k:Nat):Bool:=(range j).any (λt=>(prem (nth ns t)).any (λp=>p==(k:Int)))
def cg(ns:List ar):Int:=match (range (ns.length - 1)).find? (λk=> !dC ns ns.length k) with|some k=>(k:Int)|none=> -1
def kq(ns:List ar)(j k:Nat):dC ns (j+1) k=(dC ns j k||(prem (nth ns j)).any (λp=>p==(k:Int))):=by
 unfold dC;rw[range_succ,any_append];simp
end Fl
def zh7{b:Nat}{te:TypeId}{fr:Nat×Nat}(h:w.heap[b]?=some (.cells Zc te fr)):Yf w b 0:=by
 have q:∀i,w.cell? (Y b i)=Zc[i]?:=λi=>cell_of_row w b i Zc te fr h;intro k hk
 have:k=0\/k=1\/k=2\/k=3\/k=4\/k=5\/k=6\/k=7:=by omega
 rcases this with rfl|rfl|rfl|rfl|rfl|rfl|rfl|rfl<;>exact⟨(q _).trans rfl,(q _).trans rfl,(q _).trans rfl⟩
def Yf.below{b ro:Nat}(h:Yf w b ro)(hb:E w w'):Yf w' b ro:=λk hk=>by
 obtain⟨h1,h2,h3⟩:=h k hk;have a0:b<w.heap.size:=Qe w _ h1;exact⟨cT hb a0 h1,cT hb a0 h2,cT hb a0 h3⟩
structure zr1(w:World)(Qv n:Nat)(us:Nat->Bool):Prop where
 hu:∀i,i<n->w.cell? (Y Qv i)=some (.bool (us i))
 hf:∀i,w.frozen? (Y Qv i)=false
 aH:∀i v,w.cell? (Y Qv i)=some v->∃t,v=.bool t
def zr1.below{us:Nat->Bool}(h:zr1 w Qv n us)(hb:E w w')(hU:Qv<w.heap.size):zr1 w' Qv n us:=by
 have q:∀i,w'.cell? (Y Qv i)=w.cell? (Y Qv i):=λi=>hb.cell (p:=(Y Qv i)) hU;exact⟨λi hi=>(q i).trans (h.hu i hi),λi=>(hb.frozen (p:=(Y Qv i)) hU).trans (h.hf i),λi v hv=>h.aH i v ((q i).symm.trans hv)⟩
def zr1.set{us:Nat->Bool}(h:zr1 w Qv n us)(y:Nat)(hy:y<n):zr1 (w.setCell (Y Qv y) (.bool true)) Qv n (λi=>us i||i==y):=by
 have hs:D (w.setCell (Y Qv y) (.bool true)) Qv y (.bool true):=Ju (h.hu y hy);refine⟨λi hi=>?_,λi=>(frozen?_setCell _ _ _ _).trans (h.hf i),λi v hv=>?_⟩
 ·by_cases e:i=y
  ·subst e;rw[hs];simp
  rw[Yi (λe'=>e e'.symm),h.hu i hi];simp[e]
 by_cases e:i=y
 ·subst e;rw[hs]at hv;exact⟨true,by injection hv with hv;exact hv.symm⟩
 rw[Yi (λe'=>e e'.symm)]at hv;exact h.aH i v hv
def zr1.apart{us:Nat->Bool}(h:zr1 w Qv n us){b o:Nat}(hc:w.cell? (Y b o)=some (I x)):b≠Qv:=by
 intro e;subst e;obtain⟨t,ht⟩:=h.aH o _ hc;cases ht
structure zyx(ns:List Fl.ar)(w wr:World)(TB Qv:Nat)(us:Nat->Bool):Prop where
 hm:zr1 wr Qv ns.length us
 hr:Yf wr TB 0
 hb:E w wr
 hT:w.heap.size<=TB
 hU:TB<Qv
 hz:Qv<wr.heap.size
def zyx.below{ns:List Fl.ar}{w wr w':World}{TB Qv:Nat}{us:Nat->Bool}(h:zyx ns w wr TB Qv us)(hb:E wr w'):zyx ns w w' TB Qv us:=
 ⟨h.hm.below hb h.hz,h.hr.below hb,h.hb.trans (hb.mono h.hb.size),h.hT,h.hU,Qj h.hz hb.size⟩
def zyx.set{ns:List Fl.ar}{w wr:World}{TB Qv:Nat}{us:Nat->Bool}(h:zyx ns w wr TB Qv us)(y:Nat)(hy:y<ns.length):zyx ns w (wr.setCell (Y Qv y) (.bool true)) TB Qv (λi=>us i||i==y):=by
 have hT:=h.hT;have hU:=h.hU;refine⟨h.hm.set y hy,λk hk=>?_,h.hb.setCell (by show w.heap.size<=Qv;omega) _,hT,hU,by have:=h.hz;simpa [setCell] using this⟩;obtain⟨h1,h2,h3⟩:=h.hr k hk;have g:=Xr wr Qv y (.bool true)
 have a0:some TB≠some Qv:=by simp;omega
 exact⟨g.cell h1 a0,g.cell h2 a0,g.cell h3 a0⟩
def zyx.congr{ns:List Fl.ar}{TB:Nat}{us us':Nat->Bool}(h:zyx ns w wr TB Qv us)(he:∀i,i<ns.length->us i=us' i):zyx ns w wr TB Qv us':=
 ⟨⟨λi hi=>by rw[<-he i hi];exact h.hm.hu i hi,h.hm.hf,h.hm.aH⟩,h.hr,h.hb,h.hT,h.hU,h.hz⟩
structure yjy(w:World)(pao:Option Addr)(ps:Is):Prop where
 hx:ps≠[]->∃b off,pao=some (Y b off)/\∀i,i<ps.length->w.cell? (Y b (off+i))=some (I (ps.getD i 0))
def Tryz.infoBool:(Tryz.prog.info? 4).map (λi=>(i.zero,i.size,i.bytes))=some (some (.bool false),1,1):=by kernel_rfl
def zqv(ns:List Fl.ar)(nv:Value)(w:World)(hn:Yz w.heap.size w nv ns)(bt:ns.length<=1000)
  (hk:∀i,i<ns.length->0<=(Fl.nth ns i).kind/\(Fl.nth ns i).kind<8) (hp:∀i,i<ns.length->∀p∈prem (Fl.nth ns i),0<=p/\p<ns.length):
  F 56 #[nv] w (Rw (I (Fl.cg ns)) w):=by
 obtain⟨i0,hi,A0,B0,C0⟩:=info_parts Tryz.infoBool;obtain⟨na,nc,rfl,_,hm,_⟩:=id hn;have HN:=A hn;have HK:=A hk;have HP:=A hp;clear hn hm hk hp
 go_enter func56,ntmps56
 go_wp2_with (first|(go_at_call 42;refine(zqw _).mono ?_;rintro e w1 ⟨rfl,rfl⟩)|(refine zw7 rfl _ _ 134 rfl _ _ _ Zc rfl (by simp) rfl Tryz.infoRules zqx zn5 ?_)|(at_make;refine wpList_make_full _ rfl _ _ 39 rfl (w.heap.size+2) 4 i0 (.bool false) 1 underlying39 hi A0 B0 _ _ _ _ ns.length rfl rfl rfl rfl (by rw[C0];omega) (by unfold maxLen;omega) (by simp) ?_;intro w3 b0 k0))
 have s0:E w w3:=((bA).alloc (by simp) _).grown k0 (by simp;omega) (λk h=>by cases h);have g0:O (zyx ns w w3 (w.heap.size+1) (w.heap.size+1+1) (λ_=>false)):=by
  have l0:((w.alloc (.cells Zc 134)).alloc (.cells Zc 134)).heap[w.heap.size+1]?=some (.cells Zc 134 (0,0)):=by
   have:=heap_alloc_last (w.alloc (.cells Zc 134)) (.cells Zc 134)
   rwa [size_alloc]at this
  rcases b0.2 with⟨h,_⟩|⟨g,cap',cur,hv,P0,h0,Q0,m0,R0,D0⟩
  ·cases h
  simp only[slice.injEq,Ql,Addr.mk.injEq]at hv;obtain⟨⟨E0,_⟩,_,n0⟩:=hv;subst n0;rw[<-E0]at h0;have o0:cur.toList=replicate ns.length (.bool false):=by
   have hl:cur.toList.length=ns.length:=(by simp;omega);have h2:=D0;rw[show (Value.bool false).cells=#[.bool false] from rfl,toList_madeCells_one,Nat.mul_one,take_of_length_le (by omega)]at h2;exact h2
  have hc:∀i,w3.cell? (Y (w.heap.size+1+1) i)=(replicate ns.length (Value.bool false))[i]?:=λi=>by
   rw[cell_of_row w3 _ i cur _ _ (by simpa using h0),<-o0];simp
  refine⟨⟨λi hi=>by rw[hc];simp[hi],λi=>by simp[frozen?,(by simpa using h0:w3.heap[w.heap.size+1+1]?=_)],λi v hv=>?_⟩,zh7 ((k0.block _ (by simp) (by simp)).trans l0),s0,by omega,by omega,?_⟩
  ·rw[hc]at hv;exact⟨false,(mem_replicate.1 (mem_of_getElem? hv)).2⟩
  have:=(Array.getElem?_eq_some_iff.1 h0).1;simpa using this
 obtain⟨TB,jh⟩:=U (w.heap.size+1);rw[<-jh]at g0⊢;obtain⟨Qv,hU⟩:=U (TB+1);rw[<-hU]at g0⊢;clear b0 k0 s0 jh hU
 go_loopw [15] (λi wr=>∃(j:Nat),j<=ns.length/\i=I j/\zyx ns w wr TB Qv (Fl.dC ns j)) (λi _=>ns.length - (intOf i).toNat)
 case atStart=>exact⟨0,by omega,rfl,g0.congr (λi _=>rfl)⟩
 case round=>
  clear g0;obtain⟨j,hj,rfl,hr⟩:=hrel;have HR:=A hr;clear hr
  by_cases d0:j<ns.length
  ·obtain⟨b,off,rfl⟩:∃b off,na=some (Y b off):=by
    obtain⟨ao',cap',hv',_,_,hx'⟩:=HN.out;obtain⟨b,off,ha,_⟩:=hx' (by intro h;rw[h]at d0;simp at d0);simp only[slice.injEq]at hv';exact⟨b,off,hv'.1.trans ha⟩
   obtain⟨lv,p0⟩:=(HN.below HR.hb).node d0 HR.hb.size;have F0:=HK j d0;obtain⟨x,hx⟩:∃x:Nat,(Fl.nth ns j).kind=(x:Int):=⟨(Fl.nth ns j).kind.toNat,by omega⟩;have G0:x<8:=(by omega);have c0:=p0.c0;rw[hx]at c0;have h3:=(HR.hr x G0).2.2;have h3':wr.cell? (Y TB (x*4+3))=some (.func (.func (byF x)) #[] #[]):=(by simpa using h3);have H0:∀W,(callFunc (byF x) #[Pp b (off+j*6)]).run prog W=.ok (.enter (byF x) #[Pp b (off+j*6)]) W:=λW=>zn6 x _ W;have HC:O (F (byF x) #[Pp b (off+j*6)] wr.drew (Va (prem (Fl.nth ns j)) wr.drew)):=by
    rw[<-hx];exact zfz (p0.below (dA))
   have t0:(j:Int)<(ns.length:Int):=(by omega);have S0:(x:Int)<8:=(by omega);clear p0 h3 F0 hx
   go_wp2_with fail
   go_region_with (refine(HC.out).mono ?_;rintro e w4 ⟨pv,rfl,I0,u0⟩;obtain⟨pao,pcap,rfl,_,v0,e0⟩:=I0)
   have x0:O (zyx ns w w4 TB Qv (Fl.dC ns j)):=HR.below (dA.trans u0);obtain⟨ps,q0⟩:=U (prem (Fl.nth ns j));rw[<-q0]at v0 e0⊢;have y0:=A q0;have j0:O (yjy w4 pao ps):=⟨λJ0=>by obtain⟨b,off,ha,_,hc⟩:=e0 J0;exact⟨b,off,ha,hc⟩⟩;unfold maxLen at v0;clear e0 q0 u0 HC H0 c0 h3'
   go_wp2_with fail
   simp only[getElem_toArray,getElem_cons_succ,getElem_cons_zero,put,setIfInBounds_toArray,set_cons_succ,set_cons_zero]
   go_loopw [31] (λi wz=>∃(m:Nat),m<=ps.length/\i=I m/\yjy wz pao ps/\zyx ns w wz TB Qv (λk=>Fl.dC ns j k||(ps.take m).any (λp=>p==(k:Int)))) (λi _=>ps.length - (intOf i).toNat)
   case atStart=>exact⟨0,by omega,rfl,j0,x0.congr (λk _=>by simp)⟩
   case round=>
    clear x0 j0;obtain⟨m,K0,rfl,e0,hu⟩:=hrel;have j0:=A e0;have HU:=A hu;clear e0 hu
    by_cases a0:m<ps.length
    ·obtain⟨pb,po,rfl,r0⟩:=j0.hx (by intro h;rw[h]at a0;simp at a0)
     have m0:=r0 m a0;have hr:=HP j d0 (ps.getD m 0) (by rw[<-y0.out];exact oG a0);obtain⟨y,hy⟩:∃y:Nat,ps.getD m 0=(y:Int):=⟨(ps.getD m 0).toNat,by omega⟩;rw[hy]at m0;have z0:y<ns.length:=(by omega);have T0:(y:Int)<(ns.length:Int):=(by omega);have HY:=A hy;have uy:=HU.hm.hu y z0;have uf:=HU.hm.hf;have L0:pb≠Qv:=HU.hm.apart m0;have M0:(m:Int)<(ps.length:Int):=(by omega);have N0:=A r0;clear hr hy r0;go_wp2
     go_roundw
     case rel=>
      refine⟨m+1,by omega,by go_num,⟨λ_=>⟨pb,po,rfl,λi hi=>(Xr _ _ _ _).cell (N0 i hi) (by simpa using L0)⟩⟩,(HU.set y z0).congr (λk hk=>?_)⟩;rw[iM ps m a0,any_append,HY.out];simp only[any_cons,any_nil,Bool.or_false];rw[<-Bool.or_assoc]
      congr 1
      rw[Bool.eq_iff_iff,beq_iff_eq,beq_iff_eq];omega
     case measure=>simp[intOf];omega
    have HE:O (zyx ns w wr TB Qv (Fl.dC ns (j+1))):=HU.congr (λk _=>by rw[Fl.kq,<-y0.out,take_of_length_le (by omega)]);go_wp2
    go_roundw
    case rel=>exact⟨j+1,by omega,by go_num,HE⟩
    case measure=>simp[intOf];omega
  have t0:j=ns.length:=(by omega);subst t0;clear hj d0
  go_wp2_with fail
  go_loop [43] (λi=>∃m:Nat,m<=ns.length/\i=I m/\∀t,t<m->Fl.dC ns ns.length t=true) (λi=>ns.length - (intOf i).toNat)
  case atStart=>exact⟨0,by omega,rfl,λt ht=>by omega⟩
  case round=>
   obtain⟨m,K0,rfl,aH⟩:=hrel;have HA:=A aH;clear aH
   by_cases d0:(m:Int)<(ns.length:Int) - 1
   ·have um:=HR.hm.hu m (by omega)
    have M0:(m:Int)<(ns.length:Int):=(by omega)
    cases f0:Fl.dC ns ns.length m with
    |true=>
     rw[f0]at um;have O0:=A f0;clear f0;go_wp2
     go_round
     case rel=>exact⟨m+1,by omega,by go_num,λt ht=>by
      by_cases h:t<m
      ·exact HA t h
      have:t=m:=by omega
      subst this;exact O0.out⟩
     case measure=>simp[intOf];omega
    |false=>
     rw[f0]at um;have HF:O (Fl.cg ns=(m:Int)):=by
      show Fl.cg ns=(m:Int);unfold Fl.cg;rw[fL _ _ m (λt ht=>by rw[HA t ht];rfl) (by omega) (by rw[f0];rfl)]
     clear f0;go_wp2;go_ret;exact⟨zy5 HF.symm,HR.hb⟩
   have HF:O (Fl.cg ns= -1):=by
    show Fl.cg ns= -1;unfold Fl.cg;rw[ey _ _ (λk hk=>by rw[HA k (by omega)];rfl)]
   go_wp2;go_ret;exact⟨zy5 HF.symm,HR.hb⟩
namespace Fl
def gx(k:Nat)(nd:ar):Prop:=bD nd=true/\(prem nd).any (λp=>decide ((k:Int)<=p))=false
def jN(h:0<=x/\x<2147483648):cd x=true:=by simp[cd,h.1,h.2]
def mM(h:∀x∈l,0<=x/\x<2147483648)(i:Nat):cd (l.getD i 0)=true:=by
 rw[Qa]
 cases he:l[i]? with
 |none=>rfl
 |some x=>exact jN (h x (mem_of_getElem? he))
def mL(h:l.length<=i):l.getD i 0=0:=by
 rw[Qa,getElem?_eq_none h];rfl
def jM(h:∀x∈l,0<=x/\x<2147483648){f:Nat}(hl:l.length=f)(i:Nat):jB (f:Int) (i:Int) (l.getD i 0)=true:=by
 unfold jB;rw[mM h i,Bool.true_and,Bool.or_eq_true,Qn,Qn]
 by_cases hi:i<f
 ·left;omega
 right;exact mL (by omega)
def gD{p k:Nat}{nd:ar}{e:Int}(h:¬(cZ p k nd e).2.1<0)(hs:bD nd=true):gx k (cZ p k nd e).1:=by
 unfold cZ at*
 split at h
 ·exact absurd (show (-1:Int)<0 by decide) h
 rename_i hn;rw[Z hn];exact⟨hs,by simpa using hn⟩
def lD(s:K)(p k:Nat)(hp:p<=s.length)(h:¬(one s p k).2.1<0):gx k (one s p k).1:=by
 unfold one at*
 by_cases h0:p=s.length
 ·rw[G h0]at h;exact absurd (show (-1:Int)<0 by decide) h
 rw[Z h0]at h⊢;simp only at h⊢;have hx:(s.getD p 0).toNat<256:=(s.getD p 0).toNat_lt;generalize (s.getD p 0).toNat=x at*
 by_cases h1:aJ (x:Int)= -2
 ·rw[G h1]at h;exact absurd (show (-1:Int)<0 by decide) h
 rw[Z h1]at h⊢
 by_cases h2:(num s (p+1)).2.1<0
 ·rw[G h2]at h;exact absurd (show (-1:Int)<0 by decide) h
 rw[Z h2]at h⊢;obtain⟨v,q,hn,_,hq,hv⟩:=zs1 s (p+1) (by omega) h2;rw[hn]at h⊢;simp only[Qm]at h⊢;have a0:cd (v:Int)=true:=jN ⟨by omega,by omega⟩
 by_cases h3:aJ (x:Int)= -1
 ·rw[G h3]at h⊢
  by_cases h4:(num s q).2.1<0
  ·rw[G h4]at h;exact absurd (show (-1:Int)<0 by decide) h
  rw[Z h4]at h⊢
  by_cases h5:16<(num s q).1
  ·rw[G h5]at h;exact absurd (show (-1:Int)<0 by decide) h
  rw[Z h5]at h⊢;obtain⟨m,q2,hm,_,b0,_⟩:=zs1 s q hq h4;rw[hm]at h h5⊢;simp only[Qm]at h h5⊢
  by_cases h6:(cW s q2 m).2.1<0
  ·rw[G h6]at h;exact absurd (show (-1:Int)<0 by decide) h
  rw[Z h6]at h⊢;refine gD h ?_;rcases fM s q2 m b0 with h7|⟨_,_,h8,h9⟩
  ·omega
  simp only[bD,h3,a0,h8,jB,Qk,Qn,Bool.or_eq_true];refine⟨by omega,by first|trivial|rfl,by omega,⟨by first|rfl|trivial,.inr (by first|rfl|trivial)⟩,⟨by first|rfl|trivial,.inr (by first|rfl|trivial)⟩,⟨by first|rfl|trivial,.inr (by first|rfl|trivial)⟩,?_,.inl (by first|trivial|rfl)⟩;rw[all_eq_true];intro y hy;exact jN (h9 y hy)
 rw[Z h3]at h⊢;have c0:=gk (x:Int);obtain⟨f,hf⟩:∃f:Nat,aJ (x:Int)=(f:Int):=⟨(aJ (x:Int)).toNat,by omega⟩;rw[hf]at h⊢;simp only[Qm]at h⊢
 by_cases h6:(cW s q f).2.1<0
 ·rw[G h6]at h;exact absurd (show (-1:Int)<0 by decide) h
 rw[Z h6]at h⊢;refine gD h ?_;rcases fM s q f hq with h7|⟨_,_,h8,h9⟩
 ·omega
 have g0:=jM h9 h8 0;have g1:=jM h9 h8 1;have g2:=jM h9 h8 2;simp only[bD,hf,a0,Qk,Qn,Bool.or_eq_true];refine⟨by omega,by first|trivial|rfl,by simp,?_,?_,?_,by simp,.inr (by first|rfl|trivial)⟩
 ·simpa using g0
 ·simpa using g1
 simpa using g2
def eW{nd:ar}(h:bD nd=true):fits nd/\0<=nd.kind/\nd.kind<8:=by
 simp only[bD,Qk,Qn,jB]at h;obtain⟨h1,h2,h3,⟨h4,_⟩,⟨h5,_⟩,⟨h6,_⟩,h7,_⟩:=h
 have hk:0<=nd.kind/\nd.kind<8:=by unfold aJ at h1;(repeat' split at h1)<;>omega
 exact⟨⟨jN ⟨hk.1,by omega⟩,h2,h4,h5,h6,h3,h7⟩,hk⟩
def mJ{nd:ar}(h:bD nd=true):∀p∈prem nd,0<=p:=by
 obtain⟨⟨_,_,ha,hb,hc,_,hl⟩,_⟩:=eW h
 have q:∀{x:Int},cd x=true->0<=x:=λh=>by simp only[cd,Qk,Qn]at h;exact h.1
 intro p hp;unfold prem at hp
 repeat' split at hp
 all_goals try simp only[mem_cons,not_mem_nil,or_false]at hp
 all_goals first|(rcases hp with rfl|rfl|rfl<;>first|exact q ha|exact q hb|exact q hc)|(rcases hp with rfl|rfl<;>first|exact q ha|exact q hb|exact q hc)|(subst hp;first|exact q ha|exact q hb|exact q hc)|exact q (all_eq_true.1 hl p hp)|exact hp.elim
def gi(ns:List ar):Prop:=∀i,i<ns.length->gx i (nth ns i)
def jL{ns:List ar}{nd:ar}(h:gi ns)(hg:gx ns.length nd):gi (ns++[nd]):=by
 intro i hi;simp only[length_append,length_cons,length_nil]at hi
 by_cases h1:i<ns.length
 ·have:nth (ns++[nd]) i=nth ns i:=by simp[nth,Qa,getElem?_append_left h1]
  rw[this];exact h i h1
 have hi':i=ns.length:=by omega
 subst hi'
 have:nth (ns++[nd]) ns.length=nd:=by simp[nth,Qa]
 rw[this];exact hg
def jK{k:Nat}{nd:ar}(h:gx k nd){p:Int}(hp:p∈prem nd):0<=p/\p<k:=by
 refine⟨mJ h.1 p hp,?_⟩;have:=h.2;rw[any_eq_false]at this;have:=this p hp;simp only[Qn]at this;omega
def ie{ns:List ar}(h:gi ns):bf ns=if 0<=bM ns then bM ns else cg ns:=by
 have hb:∀k,k<ns.length->eQ ns k=eH ns k:=λk hk=>by
  have:=h k hk;unfold eQ eH;rw[this.1,this.2];rfl
 have hu:∀k,used ns k=dC ns ns.length k:=λk=>by
  unfold used dC;rw[Bool.eq_iff_iff,any_eq_true,any_eq_true]
  constructor
  ·rintro⟨j,hj,hh⟩;exact⟨j,hj,(Bool.and_eq_true_iff.1 hh).2⟩
  rintro⟨j,hj,hh⟩;refine⟨j,hj,?_⟩;rw[Qk];refine⟨?_,hh⟩;rw[any_eq_true]at hh;obtain⟨p,hp,he⟩:=hh;have:=jK (h j (by simpa using hj)) hp;rw[beq_iff_eq]at he;rw[Qn];omega
 have a0:(range ns.length).find? (eQ ns)=(range ns.length).find? (eH ns):=by
  have:∀(l:List Nat),(∀k∈l,k<ns.length)->l.find? (eQ ns)=l.find? (eH ns):=by
   intro l
   induction l with
   |nil=>intro _;rfl
   |cons x l ih=>intro hl;simp only[find?_cons,hb x (hl x (by simp)),ih (λk hk=>hl k (by simp[hk]))]
  exact this _ (λk hk=>by simpa using hk)
 unfold bf bM cg;rw[a0]
 cases hd:(range ns.length).find? (eH ns) with
 |some k=>simp only;rw[G (by omega)]
 |none=>
  simp only;rw[Z (by decide)]
  have:(λk=> !used ns k)=(λk=> !dC ns ns.length k):=by funext k;rw[hu]
  rw[this]
  cases (range (ns.length - 1)).find? (λk=> !dC ns ns.length k)<;>rfl
end Fl
def ysx(ns:List Fl.ar):Fl.bM ns<(ns.length:Int):=by
 unfold Fl.bM
 cases hf:(range ns.length).find? (Fl.eH ns) with
 |some k=>have:=mem_of_find?_eq_some hf;simp at this;simp only;omega
 |none=>simp only;omega
def yn8(ns:List Fl.ar):Fl.cg ns<(ns.length:Int):=by
 unfold Fl.cg
 cases hf:(range (ns.length - 1)).find? (λk=> !Fl.dC ns ns.length k) with
 |some k=>have:=mem_of_find?_eq_some hf;simp at this;simp only;omega
 |none=>simp only;omega
def yp5(ns:List Fl.ar)(st:Is)(w:World)(e:Ending)(w':World):Prop:=
 E w w'/\(0<=Fl.bf ns->e=.panicked (Zf 8 (st.getD (Fl.bf ns).toNat 0)))/\(¬0<=Fl.bf ns->e=.returned (.tuple #[]))
def ysw(ns:List Fl.ar)(st:Is)(nv sv:Value)(b:Nat)(w:World)(hn:Yz w.heap.size w nv ns)(hs:Zw w.heap.size w sv st)(hl:st.length=ns.length)(bt:ns.length<=1000)(hg:Fl.gi ns)(hc:w.cell? (Y b 34)=some sv):
  F 83 #[M b,nv] w (yp5 ns st w):=by
 have hlb:b<w.heap.size:=Qe w _ hc;have g0:∀i,i<ns.length->Fl.fits (Fl.nth ns i):=λi hi=>(Fl.eW (hg i hi).1).1;have h0:O (F 132 #[nv] w (Rw (I (Fl.bM ns)) w)):=yy9 ns nv w hn g0 bt
 have j0:O (∀w1,E w w1->F 56 #[nv] w1 (Rw (I (Fl.cg ns)) w1)):=λw1 h1=>
  zqv ns nv w1 ((hn.below h1).mono h1.size) bt (λi hi=>(Fl.eW (hg i hi).1).2) (λi hi p hp=>by have:=Fl.jK (hg i hi) hp;omega)
 have l0:O (Fl.bf ns=if 0<=Fl.bM ns then Fl.bM ns else Fl.cg ns):=Fl.ie hg;have o0:=ysx ns;have p0:=yn8 ns;obtain⟨sao,scap,rfl,_,t0,q0⟩:=hs;have r0:=A q0;have HC:=A hc;unfold maxLen at t0;clear q0 hc hn hg g0
 by_cases hd:0<=Fl.bM ns
 ·obtain⟨k,hk⟩:∃k:Nat,Fl.bM ns=(k:Int):=⟨(Fl.bM ns).toNat,by omega⟩
  have e0:k<st.length:=(by omega);obtain⟨sb,so,rfl,m0,i0⟩:=r0 (by intro h;rw[h]at e0;simp at e0);have a0:O (Fl.bf ns=(k:Int)):=(by show _=_;rw[l0.out,G hd,hk]);rw[hk]at h0 o0;have b0:=i0 k e0;have u0:(k:Int)<(st.length:Int):=(by omega);clear hd hk i0
  go_enter func83,ntmps83
  go_wp2_with fail
  refine(h0.out).mono ?_;rintro e w1 ⟨rfl,c0⟩;have c34:D w1 b 34 (Sq sb so st.length scap):=cT c0 hlb HC.out;have ck:D w1 sb (so+k) (I (st.getD k 0)):=cT c0 m0 b0;have d0:=A c0;clear c0 b0;generalize hx:st.getD k 0=x at*;have HX:=A hx;clear hx
  go_wp2_with fail
  refine(Vm _ _ _).mono ?_;rintro e w2 ⟨rfl,f0⟩;refine⟨rfl,d0.trans (f0.mono d0.size),λ_=>?_,λh=>absurd (by rw[a0.out];omega) h⟩;rw[a0.out,Qm,HX.out]
 obtain⟨d,n0⟩:=U (Fl.bM ns);rw[<-n0]at h0 hd o0
 have a0:O (Fl.bf ns=Fl.cg ns):=by show _=_;rw[l0.out,<-n0,Z hd]
 clear n0 l0
 by_cases hu:0<=Fl.cg ns
 ·obtain⟨k,hk⟩:∃k:Nat,Fl.cg ns=(k:Int):=⟨(Fl.cg ns).toNat,by omega⟩
  have e0:k<st.length:=(by omega);obtain⟨sb,so,rfl,m0,i0⟩:=r0 (by intro h;rw[h]at e0;simp at e0);rw[hk]at j0 p0 a0;have b0:=i0 k e0;have u0:(k:Int)<(st.length:Int):=(by omega);clear hu hk i0
  go_enter func83,ntmps83
  go_wp2_with fail
  refine(h0.out).mono ?_;rintro e w1 ⟨rfl,c0⟩;have d0:=A c0;clear c0
  go_wp2_with fail
  refine(j0 w1 d0).mono ?_;rintro e w2 ⟨rfl,f0⟩;have hb2':E w w2:=d0.trans (f0.mono d0.size);have c34:D w2 b 34 (Sq sb so st.length scap):=cT hb2' hlb HC.out;have ck:D w2 sb (so+k) (I (st.getD k 0)):=cT hb2' m0 b0;have k0:=A hb2';clear f0 b0 hb2';generalize hx:st.getD k 0=x at*;have HX:=A hx;clear hx
  go_wp2_with fail
  refine(Vm _ _ _).mono ?_;rintro e w3 ⟨rfl,v0⟩;refine⟨rfl,k0.trans (v0.mono k0.size),λ_=>?_,λh=>absurd (by rw[a0.out];omega) h⟩;rw[a0.out,Qm,HX.out]
 obtain⟨u,s0⟩:=U (Fl.cg ns);rw[<-s0]at j0 hu p0 a0;clear s0
 go_enter func83,ntmps83
 go_wp2_with fail
 refine(h0.out).mono ?_;rintro e w1 ⟨rfl,c0⟩;have d0:=A c0;clear c0
 go_wp2_with fail
 refine(j0 w1 d0).mono ?_;rintro e w2 ⟨rfl,f0⟩;have k0:O (E w w2):=d0.trans (f0.mono d0.size);clear f0;go_wp2
 go_end0
 exact⟨k0,λh=>absurd h (by rw[a0.out];omega),λ_=>rfl⟩
end Go.Proofs.YtjmcibbdedlcoaaGreatDoor
