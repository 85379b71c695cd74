import Derived.Test.YtjmcibbdedlcoaaGreatDoorM07
import Derived.Lib.AppendZerosOnto
set_option linter.all false
set_option maxRecDepth 100000
set_option maxHeartbeats 40000000
namespace Go.Proofs.YtjmcibbdedlcoaaGreatDoor
open Go.RowKit Go.Proofs.Tryz List World Value Fl
variable{w w' wr:World}{b base Jb q0 P0 k q Pb Lb:Nat}{v sv bC:Value}{xs lvs:Vs}{l ls st:Is}{s:K}{acc:List ar}{p:aV}{ops:Array Oper}{rest:List Oper}{o:Oper}{a:Act}{Q:Exit->Act->World->Prop}
structure Fr(w w':World)(b:Nat):Prop where
 g:w.grownBy w' (some b)
 o:∀j,j≠1->j≠34->w'.cell? (Y b j)=w.cell? (Y b j)
 f:∀j,w'.frozen? (Y b j)=w.frozen? (Y b j)
def Mv.fr(h:Mv w w' b):Fr w w' b:=⟨h.g,λj h1 _=>h.o j h1,h.f⟩
def Fr.trans{w w1 w2:World}{b:Nat}(h:Fr w w1 b)(k:Fr w1 w2 b):Fr w w2 b:=
 ⟨⟨k.g.os.trans h.g.os,k.g.tape.trans h.g.tape,k.g.output.trans h.g.output,Nat.le_trans h.g.size k.g.size,λi hi a0=>(k.g.block i (Qj hi h.g.size) a0).trans (h.g.block i hi a0)⟩,λj hj hj'=>(k.o j hj hj').trans (h.o j hj hj'),λj=>(k.f j).trans (h.f j)⟩
def Fr.dH{w1 w2:World}{row:Option Nat}(h:Fr w w1 b)(g:w1.grownBy w2 row)(hb:b<w.heap.size)(aH:∀k,row=some k->w.heap.size<=k):Fr w w2 b:=by
 have a0:∀k,k<w.heap.size->some k≠row:=λk hk e=>by have:=aH k e.symm;omega
 have hz:=h.g.size;refine⟨⟨g.os.trans h.g.os,g.tape.trans h.g.tape,g.output.trans h.g.output,Nat.le_trans h.g.size g.size,λk hk b0=>(g.block k (by omega) (a0 k hk)).trans (h.g.block k hk b0)⟩,λj hj hj'=>?_,λj=>?_⟩
 ·exact(Qc (w:=w1) (a:=(Y b j)) (g.block b (by omega) (a0 b hb))).trans (h.o j hj hj')
 exact(Qd (w:=w1) (a:=(Y b j)) (g.block b (by omega) (a0 b hb))).trans (h.f j)
def Fr.mH(w:World)(b:Nat)(u:Value):Fr w (w.setCell (Y b 34) u) b:=
 ⟨Xr w b 34 u,λj _ hj=>Yi (λe=>hj e.symm),λj=>frozen?_setCell _ _ _ _⟩
structure Xi(base:Nat)(w w':World):Prop where
 size:w.heap.size<=w'.heap.size
 block:∀k,base<=k->k<w.heap.size->w'.heap[k]?=w.heap[k]?
def Xi.alloc(base:Nat)(w:World)(o:Obj):Xi base w (w.alloc o):=⟨by simp,λk _ hk=>Below.heap_alloc _ _ _ hk⟩
def Xi.grown{row:Option Nat}(g:w.grownBy w' row)(h:∀k,row=some k->k<base):Xi base w w':=⟨g.size,λk hb hk=>g.block k hk (λe=>by have:=h k e.symm;omega)⟩
def Xi.below(h:E w w'):Xi base w w':=⟨h.size,λk _ hk=>h.block k hk⟩
def Xi.trans{base:Nat}{w w1 w2:World}(h:Xi base w w1)(k:Xi base w1 w2):Xi base w w2:=⟨Nat.le_trans h.size k.size,λi hb hi=>(k.block i hb (Qj hi h.size)).trans (h.block i hb hi)⟩
def yv4{e:TypeId}{size:Nat}{n:Nat}(h:w.ownsRow base e size v n xs)(s:Xi base w w'):w'.ownsRow base e size v n xs:=by
 refine⟨h.1,?_⟩;rcases h.2 with hn|⟨g,cap,cur,hv,hb,hg,rest⟩
 ·exact .inl hn
 exact .inr ⟨g,cap,cur,hv,hb,(s.block g hb (Array.getElem?_eq_some_iff.1 hg).1).trans hg,rest⟩
def zk5{lv:Value}{xs:Is}(h:Zw w.heap.size w lv xs)(hb:xs≠[]->∀b,lv.ownBlock=some b->base<=b)(s:Xi base w w'):Zw w'.heap.size w' lv xs:=by
 obtain⟨ao,cap,rfl,hc,hl,hx⟩:=h;refine⟨ao,cap,rfl,hc,hl,λb0=>?_⟩;obtain⟨b,off,rfl,c0,a0⟩:=hx b0;have d0:=hb b0 b rfl;exact⟨b,off,rfl,Qj c0 s.size,λi hi=>(Qc (w:=w) (a:=(Y b (off+i))) (s.block b d0 c0)).trans (a0 i hi)⟩
structure Li(base:Nat)(w:World)(fam:List (Value×Is))(sv nv:Value)(n1 n2:Nat)(xs ys:Vs):Prop where
 hs:w.ownsRow base 3 1 sv n1 xs
 hn:w.ownsRow base 188 6 nv n2 ys
 aH:∀p,p∈fam->Jy w p.1 p.2 sv nv/\(p.2≠[]->∀b,p.1.ownBlock=some b->base<=b)
section
variable{fam:List (Value×Is)}{nv:Value}{n1 n2:Nat}{ys:Vs}
def Li.stay(h:Li base w fam sv nv n1 n2 xs ys)(s:Xi base w w'):Li base w' fam sv nv n1 n2 xs ys:=
 ⟨yv4 h.hs s,yv4 h.hn s,λp hp=>⟨⟨zk5 (h.aH p hp).1.1 (h.aH p hp).2 s,(h.aH p hp).1.2⟩,(h.aH p hp).2⟩⟩
def Li.first(h:Li base w fam sv nv n1 n2 xs ys){sv':Value}{n1':Nat}{xs':Vs}(ho:w'.ownsRow base 3 1 sv' n1' xs')(hg:w.grownBy w' sv.ownBlock)(hw:sv'.ownBlock=sv.ownBlock\/sv'.ownBlock=some w.heap.size):Li base w' fam sv' nv n1' n2 xs' ys:=
 ⟨ho,h.hn.kept hg (zq8 h.hn h.hs (by decide)),λp hp=>⟨(h.aH p hp).1.first hg hw,(h.aH p hp).2⟩⟩
def Li.second(h:Li base w fam sv nv n1 n2 xs ys){nv':Value}{n2':Nat}{ys':Vs}(ho:w'.ownsRow base 188 6 nv' n2' ys')(hg:w.grownBy w' nv.ownBlock)(hw:nv'.ownBlock=nv.ownBlock\/nv'.ownBlock=some w.heap.size):Li base w' fam sv nv' n1 n2' xs ys':=
 ⟨h.hs.kept hg (zq8 h.hs h.hn (by decide)),ho,λp hp=>⟨(h.aH p hp).1.second hg hw,(h.aH p hp).2⟩⟩
def Li.add(h:Li base w fam sv nv n1 n2 xs ys){lvn:Value}{N:Nat}(hi:Zw w.heap.size w lvn l)(hf:∀b,lvn.ownBlock=some b->N<=b)(a0:∀b,sv.ownBlock=some b->b<N)(b0:∀b,nv.ownBlock=some b->b<N)(hN:base<=N):Li base w (fam++[(lvn,l)]) sv nv n1 n2 xs ys:=by
 refine⟨h.hs,h.hn,λp hp=>?_⟩;simp only[mem_append,mem_singleton]at hp;rcases hp with hp|rfl
 ·exact h.aH p hp
 refine⟨⟨hi,λhx=>?_⟩,λ_ b hb=>by have:=hf b hb;omega⟩;obtain⟨b,hb,c0⟩:=zr4 hi hx;have:=hf b hb;exact⟨λhh=>by have:=a0 b (hh.symm.trans hb);omega,λhh=>by have:=b0 b (hh.symm.trans hb);omega⟩
end
structure PL(s:K)(Jb q0:Nat)(w:World)(b P0:Nat)(lv:Value)(ls:Is)(wr:World)(k q:Nat)(sv nv:Value)(st:Is)(acc:List ar)(lvs:Vs):Prop where
 hk:k<=Jb
 hq:q<=s.length
 dx:st.length=k
 fg:acc.length=k
 gv:lvs.length=k
 fp:cF s Jb 0 q0 [] []=cF s (Jb - k) k q st acc
 aQ:gi acc
 hl:Li (P0+1) wr ((lv,ls)::Vy acc lvs) sv nv k k (st.map (int .i64)) (flat acc lvs)
 c0:wr.cell? (Y P0 0)=some lv
 c1:wr.cell? (Y P0 1)=some nv
 d0:wr.cell? (Y w.heap.size 0)=some Zq
 d1:wr.cell? (Y w.heap.size 1)=some Zq
 f0:∀j,wr.frozen? (Y w.heap.size j)=false
 f1:∀j,wr.frozen? (Y P0 j)=false
 fb:∀j,wr.frozen? (Y b j)=false
 fr:Fr w wr b
 a1:wr.cell? (Y b 1)=some (I (q:Int))
 kO:wr.cell? (Y b 34)=some sv
 hR:w.heap.size<P0
 hP:P0<wr.heap.size
 hb:b<w.heap.size
def PL.nodes{lv:Value}{nv:Value}(h:PL s Jb q0 w b P0 lv ls wr k q sv nv st acc lvs):Yz wr.heap.size wr nv acc:=
 zx0 (by rw[h.fg];exact h.hl.hn) (by rw[h.fg,h.gv]) (λi hi=>(h.hl.aH _ (by simp only[mem_cons];right;exact zx1 acc lvs i (by rw[h.fg,h.gv]) hi)).1.1)
def PL.ak{lv:Value}{nv:Value}(h:PL s Jb q0 w b P0 lv ls wr k q sv nv st acc lvs):Zw wr.heap.size wr lv ls:=(h.hl.aH (lv,ls) (by simp)).1.1
def PL.oI{lv:Value}{nv:Value}(h:PL s Jb q0 w b P0 lv ls wr k q sv nv st acc lvs):Zw wr.heap.size wr sv st:=Zw.dD h.hl.hs
open Go.Maps Go.WideMaps
def yjx(w:World):F 101 #[] w λe w'=>e=.returned (Pp (w.heap.size+1) 0)/\Jh w' (w.heap.size+1) w.heap.size []/\E w w'/\w'.heap.size=w.heap.size+2:=by
 have a0:= @run_makeMap prog
 go_enter func101,ntmps101
 go_wp2;go_ret;refine⟨rfl,⟨?_,0,.map [],lE,(ownsMap_made w _ _ _).alloc _,rfl,λnd _=>?_,λi hi=>(by cases hi)⟩,?_,?_⟩
 ·simp
 ·simp[Maps.has]
 ·exact((bA).alloc (by simp) _)
 simp
section
variable{Fb:Nat}{bH bv vv:Value}{S:Nat->Prop}{vs:Is}
def yn9(h:Vd w Fb Pb Lb bC bH bv vv S p vs):F 53 #[M Fb] w λe w'=>∃nv,e=.returned nv/\(∀w'',Xi w.heap.size w' w''->Yz w''.heap.size w'' nv (aD p vs 4 [] p.aZ (aI p)).2)/\E w w':=by
 obtain⟨lw,i0,elw⟩:∃lw:Nat,lw<p.n/\aI p=(lw:Int):=⟨(aI p).toNat,by have:=h.lv.lv.aI;omega,by have:=h.lv.lv.aI;omega⟩
 have j0:aY vs.length p.aj.length 4 p.aZ:=by rw[h.ok.1];exact h.pk.aZ
 have HN:=A (yjx w);have m0:O (∀V Xb T B,Yd w V Xb T B Fb Zq [] []->F 102 #[M Xb,bv,I lw] V (Vo (λ_=>False) w V Xb T B Fb Zq [] [] (aD p vs 4 [] p.aZ lw))):=λV Xb T B hV=>zfv h 4 (by omega) V _ [] [] bv p.aZ lw h.bo j0 i0 hV (by simp);rw[elw];generalize aD p vs 4 [] p.aZ lw=aX at*
 have HL:O (∀V,E w V->F 96 #[M Lb] V (Rq (I lw) V)):=λV hV=>by
  have h5:=zsx (h.below hV).lv.la;have e5:((eY p.n p.leq:Nat):Int)=(lw:Int):=elw;rw[e5]at h5;exact h5
 have HS:O (∀V,E w V->D V Fb 0 (M Pb)/\D V Pb 4 bv/\D V Pb 0 (M Lb)):=λV hV=>⟨(h.below hV).c0,(h.below hV).p4,(h.below hV).lv.p0⟩;clear elw j0 i0
 go_enter func53,ntmps53
 go_wp2_with fail
 refine HN.mono ?_;rintro e W1 ⟨rfl,k0,e0,f0⟩;obtain⟨W2,b0⟩:=U (W1.alloc (.cells #[M Fb,Zq,Pp (w.heap.size+1) 0] 219))
 have d0:E W1 W2:=by rw[b0];exact bA
 have n0:O (Yd w W2 (w.heap.size+2) (w.heap.size+1) w.heap.size Fb Zq [] []):=by
  have og:W1.grownBy W2 none:=⟨d0.os,d0.tape,d0.output,d0.size,λk hk _=>d0.block k hk⟩;refine⟨by omega,by rw[b0];simp;omega,by rw[b0,<-f0];simp,by rw[b0,<-f0];simp,by rw[b0,<-f0];simp,λj=>?_,k0.kept og (by simp) (by simp),rfl,ownsRow_nil _ _ _ _,λp hp=>(by cases hp),e0.trans (d0.mono e0.size)⟩;have h5:W2.heap[w.heap.size+2]?=some (.cells #[M Fb,Zq,Pp (w.heap.size+1) 0] 219 (0,0)):=(by rw[b0,<-f0];exact heap_alloc_last _ _);simp[frozen?,h5]
 have g0:O (E w W2):=e0.trans (d0.mono e0.size);clear k0 e0 d0 HN
 go_wp2_with fail
 rw[<-b0];clear b0 f0;refine Zm HS g0.drew [15,16] [] [] (by kernel_rfl) (λ_ _ _ _ h=>h) (λops _=>?_)
 iterate 15 refine Zv rfl (by intros;go_simp<;>rfl) (by go_simp<;>rfl) ?_
 refine Zs ?_
 go_wp2_with fail
 refine(HL _ g0.drew).mono ?_;rintro e1 W3 ⟨rfl,rfl⟩
 go_wp2_with fail
 refine⟨HS _ g0.drew,?_⟩;refine Zs ?_
 go_wp2_with fail
 refine(m0 _ _ _ _ (n0.below dA)).mono ?_;rintro e2 W4 ⟨rfl,wv4,lvs4,a0,h0,-⟩;have l0:=A a0.be;have c41:=a0.c1
 have HE:O (∀w'',Xi w.heap.size W4 w''->Yz w''.heap.size w'' wv4 aX.2):=λw'' hs=>by
  have hx:=a0.x0;refine zx0 (Zj a0.ow (λb hb=>hs.block b ?_ ?_)) a0.hl (λi hi=>zk5 (a0.li _ (zx1 _ _ i a0.hl hi)).1.1 (λhne b hb=>?_) hs)
  ·have:=(a0.ow.lt b hb).1;omega
  ·exact(a0.ow.lt b hb).2
  have:=((a0.li _ (zx1 _ _ i a0.hl hi)).2 hne b hb).1;omega
 clear a0 h0
 go_wp2_with fail
 refine⟨HS _ l0,?_⟩;refine Zu ?_;go_wp2;go_ret;exact⟨_,rfl,HE,l0⟩
end
end Go.Proofs.YtjmcibbdedlcoaaGreatDoor
namespace Go.Proofs.YtjmcibbdedlcoaaGreatDoor
open Go.RowKit Go.Proofs.Tryz List World Value Fl
variable{w w' wr:World}{b base Jb q0 P0 k q Pb Lb:Nat}{v sv bC:Value}{xs lvs:Vs}{l ls st:Is}{s:K}{acc:List ar}{p:aV}{ops:Array Oper}{rest:List Oper}{o:Oper}{a:Act}{Q:Exit->Act->World->Prop}
def zz7(n k:Nat)(v:Int):Vs:=replicate k (int .i64 v)++replicate (n - k) (int .i64 0)
def yjw(n k:Nat)(v:Int)(h:k<n):(zz7 n k v).toArray.setIfInBounds k (I v)=(zz7 n (k+1) v).toArray:=by
 rw[setIfInBounds_toArray]
 congr 1
 unfold zz7;rw[set_append_right _ _ (by simp)];simp only[length_replicate,Nat.sub_self];obtain⟨m,hm⟩:∃m,n - k=m+1:=⟨n - k - 1,by omega⟩;rw[hm,replicate_succ,set_cons_zero,show n - (k+1)=m by omega,replicate_succ',append_assoc];rfl
def ye7(n k:Nat)(v:Int)(h:k<n):(zz7 n k v).toArray[k]?=some (I 0):=by
 unfold zz7;rw[getElem?_toArray,getElem?_append_right (by simp)];simp only[length_replicate,Nat.sub_self];rw[getElem?_replicate,G (by omega)]
def yjv(W:World)(n:Nat)(hn:n<=100000):(Instr.makeSlice 22 (I n) (I n)).run prog W=.ok (Sq W.heap.size 0 n n) (W.alloc (.cells (zz7 n 0 0).toArray 3)):=by
 obtain⟨i0,b0,c0,a0,d0⟩:=info_parts Tryz.infoIntW;have h:=run_makeSlice (w:=W) 22 3 i0 (I 0) underlying22 b0 c0 .i64 .i64 (n:Int) (n:Int) (by omega) (Int.le_refl _) (by rw[a0];simp;omega) (by rw[d0];omega) (by omega);have e:madeCells (int .i64 0).cells ((n:Int).toNat*1)=(zz7 n 0 0).toArray:=by
  apply Array.ext
  ·simp[madeCells,zz7]
  intro i h1 h2;simp[madeCells,zz7,cells,Nat.mod_one]
 rw[h,a0,e,Qm]
section
def ze0(h:LvIn w Pb Lb p)(p3:w.cell? (Y Pb 3)=some (I p.ak))(hl:p.ak<=4):F 50 #[M Pb] w λe w'=>∃lv,e=.returned lv/\Zw w'.heap.size w' lv (replicate p.ak (aI p))/\E w w':=by
 obtain⟨n,hn⟩:=U (p.ak);rw[<-hn]at p3 hl⊢;have h0:O (∀W,(Instr.makeSlice 22 (I n) (I n)).run prog W=.ok (Sq W.heap.size 0 n n) (W.alloc (.cells (zz7 n 0 0).toArray 3))):=λW=>yjv W n (by omega);obtain⟨lw,elw⟩:∃lw:Nat,aI p=(lw:Int):=⟨(aI p).toNat,by have:=h.lv.aI;omega⟩
 have HL:O (∀V,E w V->F 96 #[M Lb] V (Rq (I lw) V)):=λV hV=>by
  have h5:=zsx (h.below hV).la;have e5:((eY p.n p.leq:Nat):Int)=(lw:Int):=elw;rw[e5]at h5;exact h5
 have HP:O (∀V,E w V->D V Pb 0 (M Lb)):=λV hV=>(h.below hV).p0;rw[elw];obtain⟨nb,hnb⟩:=U (w.heap.size);have hP:=h.hz.1;clear h hn elw
 go_enter func50,ntmps50
 go_wp2_with fail
 rw[h0.out];obtain⟨W0,d0⟩:=U (w.alloc (.cells (zz7 n 0 0).toArray 3))
 have i0:O (E w W0):=by show Below _ _ _;rw[d0];exact bA
 have j0:O (W0.heap[nb]?=some (.cells (zz7 n 0 lw).toArray 3 (0,0))):=by
  show _=_;rw[d0,hnb];exact heap_alloc_last w _
 have k0:=A hnb;rw[<-d0,<-hnb];clear d0 hnb
 go_wp2_with fail
 go_loopw [12] (λi wr=>∃k:Nat,k<=n/\i=I k/\wr.heap[nb]?=some (.cells (zz7 n k lw).toArray 3 (0,0))/\E w wr) (λi _=>n - (intOf i).toNat)
 case atStart=>exact⟨0,by omega,rfl,j0,i0⟩
 case round=>
  obtain⟨k,hk,rfl,a0,b0⟩:=hrel
  by_cases e0:k<n
  ·have l0:(k:Int)<(n:Int):=by omega
   have m0:O ((wr.setCell (Y nb k) (I lw)).heap[nb]?=some (.cells (zz7 n (k+1) lw).toArray 3 (0,0))):=by
    have h5:=zp7 a0 k (I lw);rw[yjw n k lw e0]at h5;exact h5
   have n0:O (E w (wr.setCell (Y nb k) (I lw))):=b0.setCell (by show w.heap.size<=nb;rw[k0.out];exact Nat.le_refl _) _;have c0:wr.cell? (Y nb k)=some (I 0):=(by simp only[cell?,a0];exact ye7 n k lw e0);have f0:wr.frozen? (Y nb k)=false:=(by simp[frozen?,a0]);have p0:=HP _ b0;have g0:=A b0;have o0:=A e0;clear a0 b0 e0
   go_wp2_with fail
   refine(HL _ g0).mono ?_;rintro e W1 ⟨rfl,rfl⟩;go_wp2
   go_roundw
   case rel=>exact⟨k+1,by have:=o0.out;omega,by go_num,m0,n0⟩
   case measure=>simp[intOf];omega
  have q0:k=n:=(by omega);subst q0;have HI:O (Zw wr.heap.size wr (Sq nb 0 k k) (replicate k (lw:Int))):=by
   refine⟨_,k,by rw[length_replicate],by simp,by simp[maxLen];omega,λ_=>⟨nb,0,rfl,?_,λi hi=>?_⟩⟩
   ·rcases Nat.lt_or_ge nb wr.heap.size with h|h
    ·exact h
    rw[Array.getElem?_eq_none h]at a0;cases a0
   rw[length_replicate]at hi;simp only[cell?,a0,zz7,Nat.sub_self,Nat.zero_add];simp[getElem?_replicate,Qa,hi]
  have g0:=A b0;clear a0 b0;go_wp2;go_ret;exact⟨_,rfl,HI,g0⟩
end
def Vv{B:Nat}(h:Zw B w v l):∃a c,v=J a l.length c:=by obtain⟨a,c,e,-⟩:=h;exact⟨a,c,e⟩
def Tryz.infoIntZ:(Tryz.prog.info? 3).map (λi=>(i.zero,i.size,i.bytes))=some (some (I 0),1,8):=by kernel_rfl
def zl4(f0:o.guard=none)(s x:Operand)
  (ho:o.op=.call {callee:=.builtin .append,args:=#[s,x],argTypes:=#[22,3]}) (hs:a.eval s=Zq) (k:Nat) (hx:a.eval x=I k) (h0:0<k) (hk:k<=100000)
  (h:∀(cap:Nat) (W':World),E w W'->k<=cap->cap<=maxLen->W'.ownsRow w.heap.size 3 1 (Sq w.heap.size 0 0 cap) 0 []->wpList prog ops Q rest (a.put o.dst (Sq w.heap.size 0 k cap)) W'):wpList prog ops Q (o::rest) a w:=by
 obtain⟨i0,hi,g0,j0,d0⟩:=info_parts Tryz.infoIntZ;have fp:=Go.Lib.run_append_grow_zeros (P:=prog) w 22 3 o.type 3 i0 (I 0) .i64 .i64 underlying22 underlying3 hi g0 none 0 0 [] (by simp[Builtin.firstCells]) k h0 (by rw[j0];omega) (by omega) (by omega) (by rw[d0];omega) (growslice_fits (by omega) (by rw[d0];omega));rw[Nat.zero_add]at fp;have e0:=grownCap_ge w k 0 3;have b0:=grownCap_le_maxLen w k 0 3 (by unfold maxLen;omega);obtain⟨cap,c0⟩:=U (grownCap w k 0 3);rw[<-c0]at fp e0 b0;obtain⟨cur,a0⟩:=U (([]:Vs).toArray++Builtin.zeroCells (int .i64 0).cells k++Builtin.zeroCells (int .i64 0).cells (cap - k));have cH:cur.size=cap*1:=by
  rw[a0,Array.size_append,Array.size_append,size_zeroCells,size_zeroCells];have:(int IntKind.i64 0).cells.size=1:=rfl;rw[this];simp;omega
 rw[<-a0]at fp;refine wpList_plain f0 λWx hK=>?_;have k0:=hK _ _ (h cap (w.drew.alloc (.cells cur 3)) (dA.alloc lE _) e0 b0 (ownsRow_made w.drew cur cap lE b0 cH));unfold Oper.wp execOp;simp only[ho,resolve,invoke,builtin,Sem.run_bind,Sem.run_pure,Result.andThen_ok,map_toArray,map_cons,map_nil,hs,hx,fp];exact k0
def zk6(w:World)(e:Ending)(w':World):Prop:=E w w'/\∃a c,e=.returned (J a 0 c)/\w'.ownsRow w.heap.size 3 1 (J a 0 c) 0 []
def ye8(w:World)(n:Nat)(hn:n<=100000):F 133 #[Zq,I n] w (zk6 w):=by
 have b0:(n:Int)<=100000:=by omega
 by_cases h0:n=0
 ·subst h0
  have HE:O (zk6 w (.returned Zq) w):=⟨Below.refl _ _,none,0,rfl,ownsRow_nil _ _ _ _⟩
  go_enter func133,ntmps133
  go_wp2;go_ret;exact HE
 have c0:(0:Int)<(n:Int):=by omega
 have a0:O (0<n):=by show 0<n;omega
 clear h0
 go_enter func133,ntmps133
 go_wp2_with (refine zl4 rfl (.tmp 20) (.tmp 21) rfl rfl n rfl a0 hn ?_)
 intro cap W' hb hc hm ho;have HE:O (zk6 w (.returned (Sq w.heap.size 0 0 cap)) W'):=⟨hb,_,_,rfl,ho⟩
 have d0:(n:Int)<=(cap:Int):=by omega
 have e0:(0:Int)<=(cap:Int):=by omega
 clear hb ho;go_wp2;go_ret;exact HE
def zo3(w:World)(base:Nat)(v:Value)(n:Nat)(xs:Vs)(a0:w.ownsRow base 3 1 v n xs)(c:Nat)(ty:TypeId){i:TypeInfo}(hi:prog.info? 3=some i):(Builtin.append_ #[22,22] ty #[v,J none 0 c]).run prog w=.ok v w:=by
 rcases a0.2 with⟨rfl,h0⟩|⟨g,cap,cur,rfl,hb,hg,b0,c0,d0,ht⟩
 ·simp[Builtin.append_,run_underlying underlying22,sizeOf,typeInfo,hi,Builtin.lenOf,Builtin.firstCells]
 simp[Builtin.append_,run_underlying underlying22,sizeOf,typeInfo,hi,Builtin.lenOf,Builtin.firstCells,b0,storeCells]
def zl5(e0:o.guard=none)(s x:Operand)
  (ho:o.op=.call {callee:=.builtin .append,args:=#[s,x],argTypes:=#[22,22]}) (base:Nat) (v:Value) (ys:Is) (hs:a.eval s=v) (a0:w.ownsRow base 3 1 v ys.length (ys.map (int .i64))) (xv:Value) (hx:a.eval x=xv) (B:Nat) (xs:Is) (h0:Zw B w xv xs) (o0:ys.length<=1000000) (bt:xs.length<=1000000) (c0:base<=w.heap.size)
  (h:∀v' w',w'.ownsRow base 3 1 v' (ys++xs).length ((ys++xs).map (int .i64))->w.grownBy w' v.ownBlock->wpList prog ops Q rest (a.put o.dst v') w'):wpList prog ops Q (o::rest) a w:=by
 obtain⟨i0,hi,j0,k0,l0⟩:=info_parts Tryz.infoIntZ;obtain⟨ao,cap,rfl,hc,hm,d0⟩:=h0;have f0:∀ad,ao=some ad->(∀j u,(xs.map (int .i64))[j]?=some u->w.cell? (ad.add j)=some u)->wpList prog ops Q (o::rest) a w:=by
  rintro ad rfl m0;refine wpList_append_own _ e0 s x 22 ho base 3 i0 (I 0) 1 8 underlying22 hi j0 k0 l0 rfl (by decide) _ _ _ hs a0 ad xs.length cap (xs.map (int .i64)) hx (by simp) m0 ?_ (by unfold maxLen;omega) (by omega) c0 ?_
  ·intro u hu;simp only[mem_map]at hu;obtain⟨y,_,rfl⟩:=hu;rfl
  intro v' w' hown' hg _;exact h v' w' (by rw[length_append,map_append];exact hown') hg
 by_cases g0:xs=[]
 ·subst g0
  cases ao with
  |some ad=>exact f0 ad rfl (by simp)
  |none=>
   have fp:=zo3 w base v ys.length _ a0 cap o.type hi;refine wpList_plain e0 λWx hK=>?_;unfold Oper.wp;simp only[length_nil]at hx;simp[execOp,ho,resolve,invoke,builtin,hs,hx,fp,Result.andThen];exact hK _ _ (h _ _ (by simpa using a0) ⟨rfl,rfl,rfl,lE,λ_ _ _=>rfl⟩)
 obtain⟨b,off,rfl,p0,b0⟩:=d0 g0;refine f0 _ rfl ?_;intro j u hj;rw[getElem?_map]at hj;obtain⟨y,hy,rfl⟩:=Option.map_eq_some_iff.1 hj;have n0:j<xs.length:=(List.getElem?_eq_some_iff.1 hy).1;have:=b0 j n0;rw[Qa,hy]at this
 have h2:((Y b off):Addr).add j=(Y b (off+j)):=by unfold Addr.add;split<;>simp_all
 rw[h2];simpa using this
def Jv(xs ys:Is)(k:Nat):Is:=if k=0 then [] else if k=1 then xs else xs++ys
def zuy(xs ys:Is)(k:Nat):Is:=if k=0 then xs else ys
def za1(xs ys:Is)(k:Nat)(hk:k<2):Jv xs ys (k+1)=Jv xs ys k++zuy xs ys k:=by
 rcases(show k=0\/k=1 by omega) with rfl|rfl<;>simp[Jv,zuy]
def ze1(w:World)(sb:Nat)(c0v c1v:Value)(xs ys:Is)(cH:sb<w.heap.size)(h0:w.cell? (Y sb 0)=some c0v)(h1:w.cell? (Y sb 1)=some c1v)(hx:Zw w.heap.size w c0v xs)(hy:Zw w.heap.size w c1v ys)(hl:xs.length<=10000/\ys.length<=10000):
  F 85 #[Sq sb 0 2 2] w λe w'=>E w w'/\∃v,e=.returned v/\w'.ownsRow w.heap.size 3 1 v (xs++ys).length ((xs++ys).map (int .i64)):=by
 have i0:O (∀k,k<2->∀W,E w W->∃a c,D W sb k (J a (zuy xs ys k).length c)/\Zw W.heap.size W (J a (zuy xs ys k).length c) (zuy xs ys k)/\(zuy xs ys k).length<=10000):=λk hk W hW=>by
  rcases(show k=0\/k=1 by omega) with rfl|rfl
  ·obtain⟨a,c,e⟩:=Vv hx
   subst e;exact⟨a,c,cT hW cH h0,(hx.below hW).mono hW.size,hl.1⟩
  obtain⟨a,c,e⟩:=Vv hy;subst e;exact⟨a,c,cT hW cH h1,(hy.below hW).mono hW.size,hl.2⟩
 have j0:O (∀k,k<=2->(Jv xs ys k).length<=20000):=λk hk=>by
  rcases(show k=0\/k=1\/k=2 by omega) with rfl|rfl|rfl<;>simp[Jv]<;>omega
 have q0:O (∀n,n<=100000->F 133 #[Zq,I (n:Nat)] w (zk6 w)):=λn hn=>ye8 w n hn;obtain⟨zs,e0⟩:=U (xs++ys);rw[<-e0];have r0:=A e0;clear h0 h1 hx hy e0
 go_enter func85,ntmps85
 go_wp2_with fail
 go_loopw [3,11] (λs i wr=>wr=w/\∃k:Nat,k<=2/\i=I k/\s=I ((Jv xs ys k).length:Nat)) (λ_ i _=>2 - (intOf i).toNat)
 case atStart=>exact⟨rfl,0,by omega,rfl,rfl⟩
 case round=>
  obtain⟨k0,k,hk,rfl,rfl⟩:=hrel;rw[k0];clear k0 wr;have D0:((Jv xs ys k).length:Int)<=20000:=(by have:=j0 k hk;omega)
  by_cases b0:k<2
  ·have s0:(k:Int)<2:=by omega
   obtain⟨a,c,ck,-,t0⟩:=i0 k b0 w (Below.refl _ _);have u0:((zuy xs ys k).length:Int)<=10000:=(by omega);have E0:(0:Int)<=((Jv xs ys k).length:Int)+((zuy xs ys k).length:Int):=(by omega);have f0:O (((Jv xs ys (k+1)).length:Int)=((Jv xs ys k).length:Int)+((zuy xs ys k).length:Int)):=(by show _=_;rw[za1 xs ys k b0,length_append];omega);generalize (Jv xs ys k).length=lk at*;generalize (zuy xs ys k).length=ek at*;go_wp2
   go_roundw
   case rel=>exact⟨by first|rfl|trivial,k+1,by omega,by go_num,by rw[f0.out]⟩
   case measure=>simp[intOf];omega
  have s0:¬(k:Int)<2:=(by omega)
  obtain rfl:k=2:=by omega
  have v0:O (F 133 #[Zq,I ((Jv xs ys 2).length:Nat)] w (zk6 w)):=q0 _ (by omega);generalize (Jv xs ys 2).length=tot at*
  go_wp2_with fail
  refine v0.mono ?_;rintro e W1 ⟨l0,a1,c1,rfl,m0⟩;have x0:=A l0;have y0:=A m0;clear l0 m0
  go_wp2_with fail
  go_loopw [6,27] (λv i wr=>E w wr/\∃k:Nat,k<=2/\i=I k/\wr.ownsRow w.heap.size 3 1 v (Jv xs ys k).length ((Jv xs ys k).map (int .i64))) (λ_ i _=>2 - (intOf i).toNat)
  case atStart=>exact⟨x0,0,by omega,rfl,y0⟩
  case round=>
   rename_i u6 u27;obtain⟨n0,k,z0,rfl,c0⟩:=hrel;have d0:=A n0;have a0:=A c0;clear n0 c0
   by_cases b0:k<2
   ·have g0:(k:Int)<2:=by omega
    obtain⟨a,c,ck,o0,t0⟩:=i0 k b0 wr d0.out;obtain⟨va,vc,rfl⟩:∃a c,u6=J a (Jv xs ys k).length c:=by
     rcases a0.2 with⟨e1,e2⟩|⟨g,cp,cur,e1,_⟩
     ·exact⟨none,0,by rw[e1,e2]⟩
     exact⟨_,cp,e1⟩
    have A0:=A o0;have B0:=j0 k z0
    have f0:O (∀v' w',w'.ownsRow w.heap.size 3 1 v' (Jv xs ys k++zuy xs ys k).length ((Jv xs ys k++zuy xs ys k).map (int .i64))->wr.grownBy w' (J va (Jv xs ys k).length vc).ownBlock->E w w'/\w'.ownsRow w.heap.size 3 1 v' (Jv xs ys (k+1)).length ((Jv xs ys (k+1)).map (int .i64))):=λv' w' h2 h3=>by
     rw[za1 xs ys k b0];exact⟨d0.grown h3 d0.size (λb hb=>(a0.lt b hb).1),h2⟩
    have C0:w.heap.size<=wr.heap.size:=d0.size;clear o0
    go_wp2_with (at_builtin;refine zl5 rfl (.tmp 31) (.tmp 32) rfl w.heap.size _ (Jv xs ys k) rfl a0 _ rfl wr.heap.size (zuy xs ys k) A0 (by omega) (by omega) C0 ?_)
    intro v' w' h2 h3;have p0:O _:=f0 v' w' (by rw[length_append,map_append];exact h2) h3;clear h2 h3;go_wp2
    go_roundw
    case rel=>exact⟨p0.1,k+1,by omega,by go_num,p0.2⟩
    case measure=>simp[intOf];omega
   have g0:¬(k:Int)<2:=(by omega)
   obtain rfl:k=2:=by omega
   have HE:O (wr.ownsRow w.heap.size 3 1 u6 zs.length (zs.map (int .i64))):=(by show ownsRow _ _ _ _ _ _ _;rw[r0.out];exact a0);clear a0;go_wp2;go_ret;exact⟨d0,u6,rfl,HE⟩
def zdv{lv:Value}{xs ys:Is}(hp:Pb<w.heap.size)(c1:w.cell? (Y Pb 1)=some bC)(hx:Zw w.heap.size w bC xs)(hy:Zw w.heap.size w lv ys)(hl:xs.length<=10000/\ys.length<=10000):
  F 46 #[M Pb,lv] w λe w'=>E w w'/\(∀j,w'.frozen? (Y w.heap.size j)=false)/\w.heap.size<w'.heap.size/\∃v,e=.returned v/\w'.ownsRow (w.heap.size+1) 3 1 v (xs++ys).length ((xs++ys).map (int .i64)):=by
 obtain⟨a0,k0,e0⟩:=Vv hx;obtain⟨a1,k1,e1⟩:=Vv hy;subst e0;subst e1;have hB:E w (w.alloc (.cells #[J a0 xs.length k0,J a1 ys.length k1] 22)):=bA;obtain⟨zs,b0⟩:=U (xs++ys);have HC:O (F 85 #[Sq w.heap.size 0 2 2] (w.alloc (.cells #[J a0 xs.length k0,J a1 ys.length k1] 22)) λe w'=>E w w'/\(∀j,w'.frozen? (Y w.heap.size j)=false)/\w.heap.size<w'.heap.size/\∃v,e=.returned v/\w'.ownsRow (w.heap.size+1) 3 1 v zs.length (zs.map (int .i64))):=by
  refine(ze1 (w.alloc (.cells #[J a0 xs.length k0,J a1 ys.length k1] 22)) w.heap.size _ _ xs ys (by simp) (by simp) (by simp) ((hx.below hB).mono hB.size) ((hy.below hB).mono hB.size) hl).mono ?_;rintro e w' ⟨hb,v,rfl,ho⟩;rw[<-b0]at ho;refine⟨hB.trans (hb.mono hB.size),λj=>(hb.frozen (p:=(Y w.heap.size j)) (by simp)).trans (by simp),by have:=hb.size;simp at this;omega,v,rfl,?_⟩;have e9:(w.alloc (.cells #[J a0 xs.length k0,J a1 ys.length k1] 22)).heap.size=w.heap.size+1:=(by simp);rw[e9]at ho;exact ho
 rw[<-b0];clear hx hy b0 hB
 go_enter func46,ntmps46
 go_wp2_with fail
 refine HC.mono ?_;rintro e w1 ⟨hb,c0,d0,v,rfl,ho⟩;obtain⟨la,lc,rfl⟩:∃la lc,v=J la zs.length lc:=by
  rcases id ho.2 with⟨rfl,h0⟩|⟨g,cp,cur,rfl,-⟩
  ·exact⟨none,0,by rw[h0]⟩
  exact⟨_,cp,rfl⟩
 have HE:O (E w w1/\(∀j,w1.frozen? (Y w.heap.size j)=false)/\w.heap.size<w1.heap.size/\w1.ownsRow (w.heap.size+1) 3 1 (J la zs.length lc) zs.length (zs.map (int .i64))):=⟨hb,c0,d0,ho⟩;clear hb ho c0 d0;go_wp2;go_ret;exact⟨HE.1,HE.2.1,HE.2.2.1,_,rfl,HE.2.2.2⟩
end Go.Proofs.YtjmcibbdedlcoaaGreatDoor
