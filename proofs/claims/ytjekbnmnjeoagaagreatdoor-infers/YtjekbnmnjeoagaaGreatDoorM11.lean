import Derived.Test.YtjekbnmnjeoagaaGreatDoorM10
import Derived.Lib.AppendZerosOnto
set_option linter.all false
set_option maxRecDepth 100000
set_option maxHeartbeats 40000000
namespace Go.Proofs.YtjekbnmnjeoagaaGreatDoor
open Go.RowKit Go.Proofs.Tryz
variable{w:World}{ops:Array Oper}{rest:List Oper}{o:Oper}{a:Act}{Q:Exit->Act->World->Prop}
def Tryz.infoIntZ:(Tryz.prog.info? 3).map (λi=>(i.zero,i.size,i.bytes))=some (some (Iq 0),1,8):=by kernel_rfl
def zp7(f0:o.guard=none)(s x:Operand)
  (ho:o.op=.call {callee:=.builtin .append,args:=#[s,x],argTypes:=#[27,3]}) (hs:a.eval s=Zq) (k:Nat) (hx:a.eval x=Iq k) (h0:0<k) (hk:k<=100000)
  (h:∀(cap:Nat) (W':World),Bq w W'->k<=cap->cap<=maxLen->W'.ownsRow w.heap.size 3 1 (.slice (some (Aq w.heap.size 0)) 0 cap) 0 []->wpList prog ops Q rest (a.put o.dst (.slice (some (Aq w.heap.size 0)) k cap)) W'):wpList prog ops Q (o::rest) a w:=by
 obtain⟨i0,hi,g0,j0,d0⟩:=info_parts Tryz.infoIntZ;have hrun:=Go.Lib.run_append_grow_zeros (P:=prog) w 27 3 o.type 3 i0 (Iq 0) .i64 .i64 underlying27 underlying3 hi g0 none 0 0 [] (by simp[Builtin.firstCells]) k h0 (by rw[j0];omega) (by omega) (by omega) (by rw[d0];omega) (growslice_fits (by omega) (by rw[d0];omega));rw[Nat.zero_add]at hrun;have e0:=grownCap_ge w k 0 3;have b0:=grownCap_le_maxLen w k 0 3 (by unfold maxLen;omega);obtain⟨cap,c0⟩:=nmE (grownCap w k 0 3);rw[<-c0]at hrun e0 b0;obtain⟨cur,a0⟩:=nmE (([]:List Value).toArray++Builtin.zeroCells (Value.int .i64 0).cells k++Builtin.zeroCells (Value.int .i64 0).cells (cap - k));have hsz:cur.size=cap*1:=by
  rw[a0,Array.size_append,Array.size_append,size_zeroCells,size_zeroCells];have:(Value.int IntKind.i64 0).cells.size=1:=rfl;rw[this];simp;omega
 rw[<-a0]at hrun;refine wpList_plain f0 λK hK=>?_;have k0:=hK _ _ (h cap (w.drew.alloc (.cells cur 3)) (dA.alloc (Nat.le_refl _) _) e0 b0 (World.ownsRow_made w.drew cur cap (Nat.le_refl _) b0 hsz));unfold Oper.wp execOp;simp only[ho,resolve,invoke,builtin,Sem.run_bind,Sem.run_pure,Result.andThen_ok,List.map_toArray,List.map_cons,List.map_nil,hs,hx,hrun];exact k0
def zo9(w:World)(e:Ending)(w':World):Prop:=Bq w w'/\∃a c,e=.returned (.slice a 0 c)/\w'.ownsRow w.heap.size 3 1 (.slice a 0 c) 0 []
def ym9(w:World)(n:Nat)(hn:n<=100000):Cq 199 #[Zq,Iq n] w (zo9 w):=by
 have b0:(n:Int)<=100000:=by omega
 by_cases h0:n=0
 ·subst h0
  have HE:Hid (zo9 w (.returned Zq) w):=⟨Below.refl _ _,none,0,rfl,World.ownsRow_nil _ _ _ _⟩
  go_enter func199,ntmps199
  go_wp2;go_ret;exact HE.out
 have c0:(0:Int)<(n:Int):=by omega
 have a0:Hid (0<n):=by show 0<n;omega
 clear h0
 go_enter func199,ntmps199
 go_wp2_with (refine zp7 rfl (.tmp 20) (.tmp 21) rfl rfl n rfl a0.out hn ?_)
 intro cap W' hb hc hm ho;have HE:Hid (zo9 w (.returned (.slice (some (Aq w.heap.size 0)) 0 cap)) W'):=⟨hb,_,_,rfl,ho⟩
 have d0:(n:Int)<=(cap:Int):=by omega
 have e0:(0:Int)<=(cap:Int):=by omega
 clear hb ho;go_wp2;go_ret;exact HE.out
def zr1(w:World)(base:Nat)(v:Value)(n:Nat)(xs:List Value)(a0:w.ownsRow base 3 1 v n xs)(c:Nat)(ty:TypeId){i:TypeInfo}(hi:prog.info? 3=some i):(Builtin.append_ #[27,27] ty #[v,.slice none 0 c]).run prog w=.ok v w:=by
 rcases a0.2 with⟨rfl,h0⟩|⟨g,cap,cur,rfl,hb,hg,b0,c0,d0,ht⟩
 ·simp[Builtin.append_,run_underlying underlying27,sizeOf,typeInfo,hi,Builtin.lenOf,Builtin.firstCells]
 simp[Builtin.append_,run_underlying underlying27,sizeOf,typeInfo,hi,Builtin.lenOf,Builtin.firstCells,b0,storeCells]
def zp8(e0:o.guard=none)(s x:Operand)
  (ho:o.op=.call {callee:=.builtin .append,args:=#[s,x],argTypes:=#[27,27]}) (base:Nat) (v:Value) (ys:List Int) (hs:a.eval s=v) (a0:w.ownsRow base 3 1 v ys.length (ys.map (Value.int .i64))) (xv:Value) (hx:a.eval x=xv) (B:Nat) (xs:List Int) (h0:Zw B w xv xs) (o0:ys.length<=1000000) (hlen:xs.length<=1000000) (c0:base<=w.heap.size)
  (h:∀v' w',w'.ownsRow base 3 1 v' (ys++xs).length ((ys++xs).map (Value.int .i64))->w.grownBy w' v.ownBlock->wpList prog ops Q rest (a.put o.dst v') w'):wpList prog ops Q (o::rest) a w:=by
 obtain⟨i0,hi,j0,k0,l0⟩:=info_parts Tryz.infoIntZ;obtain⟨ao,cap,rfl,hc,hm,d0⟩:=h0;have f0:∀ad,ao=some ad->(∀j u,(xs.map (Value.int .i64))[j]?=some u->w.cell? (ad.add j)=some u)->wpList prog ops Q (o::rest) a w:=by
  rintro ad rfl m0;refine wpList_append_own _ e0 s x 27 ho base 3 i0 (Iq 0) 1 8 underlying27 hi j0 k0 l0 rfl (by decide) _ _ _ hs a0 ad xs.length cap (xs.map (Value.int .i64)) hx (by simp) m0 ?_ (by unfold maxLen;omega) (by omega) c0 ?_
  ·intro u hu;simp only[List.mem_map]at hu;obtain⟨y,_,rfl⟩:=hu;rfl
  intro v' w' hown' hg _;exact h v' w' (by rw[List.length_append,List.map_append];exact hown') hg
 by_cases g0:xs=[]
 ·subst g0
  cases ao with
  |some ad=>exact f0 ad rfl (by simp)
  |none=>
   have hrun:=zr1 w base v ys.length _ a0 cap o.type hi;refine wpList_plain e0 λK hK=>?_;unfold Oper.wp;simp only[List.length_nil]at hx;simp[execOp,ho,resolve,invoke,builtin,hs,hx,hrun,Result.andThen];exact hK _ _ (h _ _ (by simpa using a0) ⟨rfl,rfl,rfl,Nat.le_refl _,λ_ _ _=>rfl⟩)
 obtain⟨b,off,rfl,p0,b0⟩:=d0 g0;refine f0 _ rfl ?_;intro j u hj;rw[List.getElem?_map]at hj;obtain⟨y,hy,rfl⟩:=Option.map_eq_some_iff.1 hj;have n0:j<xs.length:=(List.getElem?_eq_some_iff.1 hy).1;have:=b0 j n0;rw[Qa,hy]at this
 have h2:((Aq b off):Addr).add j=(Aq b (off+j)):=by unfold Addr.add;split<;>simp_all
 rw[h2];simpa using this
def Up(xs ys:List Int)(k:Nat):List Int:=if k=0 then [] else if k=1 then xs else xs++ys
def zww(xs ys:List Int)(k:Nat):List Int:=if k=0 then xs else ys
def zgx(xs ys:List Int)(k:Nat)(hk:k<2):Up xs ys (k+1)=Up xs ys k++zww xs ys k:=by
 rcases(show k=0\/k=1 by omega) with rfl|rfl<;>simp[Up,zww]
def yu6(w:World)(sb:Nat)(c0v c1v:Value)(xs ys:List Int)(hsz:sb<w.heap.size)(h0:w.cell? (Aq sb 0)=some c0v)(h1:w.cell? (Aq sb 1)=some c1v)(hx:Zw w.heap.size w c0v xs)(hy:Zw w.heap.size w c1v ys)(hl:xs.length<=10000/\ys.length<=10000):
  Cq 133 #[.slice (some (Aq sb 0)) 2 2] w λe w'=>Bq w w'/\∃v,e=.returned v/\w'.ownsRow w.heap.size 3 1 v (xs++ys).length ((xs++ys).map (Value.int .i64)):=by
 have i0:Hid (∀k,k<2->∀W,Bq w W->∃a c,W.cell? (Aq sb k)=some (.slice a (zww xs ys k).length c)/\Zw W.heap.size W (.slice a (zww xs ys k).length c) (zww xs ys k)/\(zww xs ys k).length<=10000):=λk hk W hW=>by
  rcases(show k=0\/k=1 by omega) with rfl|rfl
  ·obtain⟨a,c,e⟩:=zy6 hx
   subst e;exact⟨a,c,(hW.cell (p:=(Aq sb 0)) hsz).trans h0,(hx.below hW).mono hW.size,hl.1⟩
  obtain⟨a,c,e⟩:=zy6 hy;subst e;exact⟨a,c,(hW.cell (p:=(Aq sb 1)) hsz).trans h1,(hy.below hW).mono hW.size,hl.2⟩
 have j0:Hid (∀k,k<=2->(Up xs ys k).length<=20000):=λk hk=>by
  rcases(show k=0\/k=1\/k=2 by omega) with rfl|rfl|rfl<;>simp[Up]<;>omega
 have q0:Hid (∀n,n<=100000->Cq 199 #[Zq,Iq (n:Nat)] w (zo9 w)):=λn hn=>ym9 w n hn;obtain⟨zs,e0⟩:=nmE (xs++ys);rw[<-e0];have r0:=Zz e0;clear h0 h1 hx hy e0
 go_enter func133,ntmps133
 go_wp2_with fail
 go_loopw [3,11] (λs i wr=>wr=w/\∃k:Nat,k<=2/\i=Iq k/\s=Iq ((Up xs ys k).length:Nat)) (λ_ i _=>2 - (intOf i).toNat)
 case atStart=>exact⟨rfl,0,by omega,rfl,rfl⟩
 case round=>
  obtain⟨k0,k,hk,rfl,rfl⟩:=hrel;rw[k0];clear k0 wr;have D0:((Up xs ys k).length:Int)<=20000:=(by have:=j0.out k hk;omega)
  by_cases b0:k<2
  ·have s0:(k:Int)<2:=by omega
   obtain⟨a,c,ck,-,t0⟩:=i0.out k b0 w (Below.refl _ _);have u0:((zww xs ys k).length:Int)<=10000:=(by omega);have E0:(0:Int)<=((Up xs ys k).length:Int)+((zww xs ys k).length:Int):=(by omega);have f0:Hid (((Up xs ys (k+1)).length:Int)=((Up xs ys k).length:Int)+((zww xs ys k).length:Int)):=(by show _=_;rw[zgx xs ys k b0,List.length_append];omega);generalize (Up xs ys k).length=lk at*;generalize (zww xs ys k).length=ek at*;go_wp2
   go_roundw
   case rel=>exact⟨by first|rfl|trivial,k+1,by omega,by go_num,by rw[f0.out]⟩
   case measure=>simp[intOf];omega
  have s0:¬(k:Int)<2:=(by omega)
  obtain rfl:k=2:=by omega
  have v0:Hid (Cq 199 #[Zq,Iq ((Up xs ys 2).length:Nat)] w (zo9 w)):=q0.out _ (by omega);generalize (Up xs ys 2).length=tot at*
  go_wp2_with fail
  refine v0.out.mono ?_;rintro e W1 ⟨l0,a1,c1,rfl,m0⟩;have x0:=Zz l0;have y0:=Zz m0;clear l0 m0
  go_wp2_with fail
  go_loopw [6,27] (λv i wr=>Bq w wr/\∃k:Nat,k<=2/\i=Iq k/\wr.ownsRow w.heap.size 3 1 v (Up xs ys k).length ((Up xs ys k).map (Value.int .i64))) (λ_ i _=>2 - (intOf i).toNat)
  case atStart=>exact⟨x0.out,0,by omega,rfl,y0.out⟩
  case round=>
   rename_i u6 u27;obtain⟨n0,k,z0,rfl,c0⟩:=hrel;have d0:=Zz n0;have a0:=Zz c0;clear n0 c0
   by_cases b0:k<2
   ·have g0:(k:Int)<2:=by omega
    obtain⟨a,c,ck,o0,t0⟩:=i0.out k b0 wr d0.out;obtain⟨va,vc,rfl⟩:∃a c,u6=.slice a (Up xs ys k).length c:=by
     rcases a0.out.2 with⟨e1,e2⟩|⟨g,cp,cur,e1,_⟩
     ·exact⟨none,0,by rw[e1,e2]⟩
     exact⟨_,cp,e1⟩
    have A0:=Zz o0;have B0:=j0.out k z0
    have f0:Hid (∀v' w',w'.ownsRow w.heap.size 3 1 v' (Up xs ys k++zww xs ys k).length ((Up xs ys k++zww xs ys k).map (Value.int .i64))->wr.grownBy w' (Value.slice va (Up xs ys k).length vc).ownBlock->Bq w w'/\w'.ownsRow w.heap.size 3 1 v' (Up xs ys (k+1)).length ((Up xs ys (k+1)).map (Value.int .i64))):=λv' w' h2 h3=>by
     rw[zgx xs ys k b0];exact⟨d0.out.grown h3 d0.out.size (λb hb=>(a0.out.lt b hb).1),h2⟩
    have C0:w.heap.size<=wr.heap.size:=d0.out.size;clear o0
    go_wp2_with (at_builtin;refine zp8 rfl (.tmp 31) (.tmp 32) rfl w.heap.size _ (Up xs ys k) rfl a0.out _ rfl wr.heap.size (zww xs ys k) A0.out (by omega) (by omega) C0 ?_)
    intro v' w' h2 h3;have p0:Hid _:=f0.out v' w' (by rw[List.length_append,List.map_append];exact h2) h3;clear h2 h3;go_wp2
    go_roundw
    case rel=>exact⟨p0.out.1,k+1,by omega,by go_num,p0.out.2⟩
    case measure=>simp[intOf];omega
   have g0:¬(k:Int)<2:=(by omega)
   obtain rfl:k=2:=by omega
   have HE:Hid (wr.ownsRow w.heap.size 3 1 u6 zs.length (zs.map (Value.int .i64))):=(by show World.ownsRow _ _ _ _ _ _ _;rw[r0.out];exact a0.out);clear a0;go_wp2;go_ret;exact⟨d0.out,u6,rfl,HE.out⟩
def zh3{Pb:Nat}{clv lv:Value}{xs ys:List Int}(hp:Pb<w.heap.size)(c1:w.cell? (Aq Pb 1)=some clv)(hx:Zw w.heap.size w clv xs)(hy:Zw w.heap.size w lv ys)(hl:xs.length<=10000/\ys.length<=10000):
  Cq 94 #[Pq Pb,lv] w λe w'=>Bq w w'/\(∀j,w'.frozen? (Aq w.heap.size j)=false)/\w.heap.size<w'.heap.size/\∃v,e=.returned v/\w'.ownsRow (w.heap.size+1) 3 1 v (xs++ys).length ((xs++ys).map (Value.int .i64)):=by
 obtain⟨a0,k0,e0⟩:=zy6 hx;obtain⟨a1,k1,e1⟩:=zy6 hy;subst e0;subst e1;have hB:Bq w (w.alloc (.cells #[.slice a0 xs.length k0,.slice a1 ys.length k1] 27)):=bA;obtain⟨zs,b0⟩:=nmE (xs++ys);have HC:Hid (Cq 133 #[.slice (some (Aq w.heap.size 0)) 2 2] (w.alloc (.cells #[.slice a0 xs.length k0,.slice a1 ys.length k1] 27)) λe w'=>Bq w w'/\(∀j,w'.frozen? (Aq w.heap.size j)=false)/\w.heap.size<w'.heap.size/\∃v,e=.returned v/\w'.ownsRow (w.heap.size+1) 3 1 v zs.length (zs.map (Value.int .i64))):=by
  refine(yu6 (w.alloc (.cells #[.slice a0 xs.length k0,.slice a1 ys.length k1] 27)) w.heap.size _ _ xs ys (by simp) (by simp) (by simp) ((hx.below hB).mono hB.size) ((hy.below hB).mono hB.size) hl).mono ?_;rintro e w' ⟨hb,v,rfl,ho⟩;rw[<-b0]at ho;refine⟨hB.trans (hb.mono hB.size),λj=>(hb.frozen (p:=(Aq w.heap.size j)) (by simp)).trans (by simp),by have:=hb.size;simp at this;omega,v,rfl,?_⟩;have e9:(w.alloc (.cells #[.slice a0 xs.length k0,.slice a1 ys.length k1] 27)).heap.size=w.heap.size+1:=(by simp);rw[e9]at ho;exact ho
 rw[<-b0];clear hx hy b0 hB
 go_enter func94,ntmps94
 go_wp2_with fail
 refine HC.out.mono ?_;rintro e w1 ⟨hb,c0,d0,v,rfl,ho⟩;obtain⟨la,lc,rfl⟩:∃la lc,v=.slice la zs.length lc:=by
  rcases id ho.2 with⟨rfl,h0⟩|⟨g,cp,cur,rfl,-⟩
  ·exact⟨none,0,by rw[h0]⟩
  exact⟨_,cp,rfl⟩
 have HE:Hid (Bq w w1/\(∀j,w1.frozen? (Aq w.heap.size j)=false)/\w.heap.size<w1.heap.size/\w1.ownsRow (w.heap.size+1) 3 1 (.slice la zs.length lc) zs.length (zs.map (Value.int .i64))):=⟨hb,c0,d0,ho⟩;clear hb ho c0 d0;go_wp2;go_ret;exact⟨HE.out.1,HE.out.2.1,HE.out.2.2.1,_,rfl,HE.out.2.2.2⟩
end Go.Proofs.YtjekbnmnjeoagaaGreatDoor
