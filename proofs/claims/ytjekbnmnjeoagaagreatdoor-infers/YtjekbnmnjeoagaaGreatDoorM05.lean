import Derived.Test.YtjekbnmnjeoagaaGreatDoorM02
import Derived.Test.YtjekbnmnjeoagaaGreatDoorM04
import Derived.Deep.WholeRow
import Derived.StillTailTactics
import Derived.Deep.RegionWith
import Derived.BigQuiet
import Derived.Maps.OwnSet
import Derived.ChangeMaps5
set_option linter.all false
set_option maxRecDepth 100000
set_option maxHeartbeats 40000000
namespace Go.Proofs.YtjekbnmnjeoagaaGreatDoor
open Go.RowKit Go.Proofs.Tryz
variable{P:Program}{w w':World}{a:Act}{Q:Exit->Act->World->Prop}{id b n base Lb Pb:Nat}{l:List Oper}{names:List (List UInt8)}{S:Nat->Prop}{v:Value}{t:Fl.Tab}{e:Fl.Expr}{vs:List Int}
section
variable{ops:Array Oper}{rest:List Oper}{o:Oper}
def Um(a0:o.guard=none)(t:TypeId)(parts:Array (Nat×Operand))(ho:o.op=.build t parts)(arr:Array Value)
  (hrun:(Instr.build t (parts.map λ(i,x)=>(i,a.eval x))).run P w=.ok (.agg arr) w) (h:wpList P ops Q rest (a.put o.dst (.agg arr)) w):wpList P ops Q (o::rest) a w:=
 wpList_plain a0 λ_ hK=>by
  have b0:=hK _ _ h;unfold Oper.wp execOp;simp only[ho,Sem.run_bind,hrun,Result.andThen_ok,Sem.run_pure];exact b0
def Js(a0:o.guard=none)(x y:Operand)(t:TypeId)(ho:o.op=.store t x y)(w:World)(c c':Array Value)(hx:a.eval x=Pq w.heap.size)(hy:a.eval y=.agg c')
  (hi:(P.info? t).map (·.size)=some c'.size) (hsz:c.size=c'.size) (h1:c'.all (·.oneCell')=true) (h:wpList P ops Q rest (a.put o.dst undef) (w.alloc (.cells c' t))):wpList P ops Q (o::rest) a (w.alloc (.cells c t)):=
 wpList_plain a0 λ_ hK=>by
  have b0:=hK _ _ h;unfold Oper.wp execOp;simp only[ho,Sem.run_bind,hx,hy,run_storeAt_new w t c c' hi hsz h1,Result.andThen_ok,Sem.run_pure];exact b0
def zx0(a0:o.guard=none)(x y:Operand)(t:TypeId)(ho:o.op=.store t x y)(w:World)(N:Nat)(c c':Array Value)(hx:a.eval x=Pq N)(hN:w.heap.size=N)(hy:a.eval y=.agg c')
  (hi:(P.info? t).map (·.size)=some c'.size) (hsz:c.size=c'.size) (h1:c'.all (·.oneCell')=true) (h:wpList P ops Q rest (a.put o.dst undef) (w.alloc (.cells c' t))):wpList P ops Q (o::rest) a (w.alloc (.cells c t)):=by
 subst hN;exact Js a0 x y t ho w c c' hx hy hi hsz h1 h
def zix(x y:Operand)(t:TypeId)(ho:o.op=.store t x y)(w:World)(c c':Array Value)(hx:a.eval x=Pq w.heap.size)(hy:a.eval y=.agg c')
  (hi:(P.info? t).map (·.size)=some c'.size) (hsz:c.size=c'.size) (h1:c'.all (·.oneCell')=true):(execOp a.eval o).run P (w.alloc (.cells c t))=.ok .skip (w.alloc (.cells c' t)):=by
 unfold execOp;simp only[ho,Sem.run_bind,hx,hy,run_storeAt_new w t c c' hi hsz h1,Result.andThen_ok,Sem.run_pure]
def zty(a0:o.guard=none)(x:Operand)(t:TypeId)(ho:o.op=.load t x)(g:Nat)(hx:a.eval x=Pq g)(arr:Array Value)(te:TypeId)(fr:Nat×Nat)(hg:w.heap[g]?=some (.cells arr te fr))
  (d:TypeDesc) (hu:P.underlying t=some d) (hd:(match d with| .struct _| .array _ _=>true|_=>false)=true) (hi:(P.info? t).map (·.size)=some arr.size) (h:wpList P ops Q rest (a.put o.dst (.agg arr)) w):wpList P ops Q (o::rest) a w:=
 wpList_plain a0 λ_ hK=>by
  have b0:=hK _ _ h;unfold Oper.wp execOp;simp only[ho,Sem.run_bind,hx,Instr.loadAt,Instr.sureAddr,Sem.run_pure,Result.andThen_ok,run_loadVar_row w g te t arr fr d hg hu hd hi];exact b0
def Xy(a0:o.guard=none)(x y:Operand)(t:TypeId)(ho:o.op=.store t x y)(g:Nat)(hx:a.eval x=Pq g)(c c':Array Value)(hy:a.eval y=.agg c')(te:TypeId)(hg:w.heap[g]?=some (.cells c te (0,0)))
  (hi:(P.info? t).map (·.size)=some c'.size) (hsz:c.size=c'.size) (h1:c'.all (·.oneCell')=true) (h:wpList P ops Q rest (a.put o.dst undef) (w.setRow g c')):wpList P ops Q (o::rest) a w:=
 wpList_plain a0 λ_ hK=>by
  have b0:=hK _ _ h;unfold Oper.wp execOp;simp only[ho,Sem.run_bind,hx,hy,Instr.storeAt,Instr.sureAddr,Sem.run_pure,Result.andThen_ok,run_storeVar_row w g te t c c' hg hi hsz h1];exact b0
def Xr{L:Act->Prop}(a0:o.guard=none)(v:Value)(hrun:(execOp a.eval o).run P w=.ok (.value v) w)(h:wpStill P ops w L rest (a.put o.dst v)):wpStill P ops w L (o::rest) a:=by
 unfold wpStill;simp only[Region.wanted,a0,if_true,Oper.still,hrun,Oper.stillUpon,true_and];exact h
def Jh(x:Operand)(t:TypeId)(ho:o.op=.load t x)(g:Nat)(hx:a.eval x=Pq g)(arr:Array Value)(te:TypeId)(fr:Nat×Nat)(hg:w.heap[g]?=some (.cells arr te fr))
  (d:TypeDesc) (hu:P.underlying t=some d) (hd:(match d with| .struct _| .array _ _=>true|_=>false)=true) (hi:(P.info? t).map (·.size)=some arr.size):(execOp a.eval o).run P w=.ok (.value (.agg arr)) w:=by
 unfold execOp;simp only[ho,Sem.run_bind,hx,Instr.loadAt,Instr.sureAddr,Sem.run_pure,Result.andThen_ok,run_loadVar_row w g te t arr fr d hg hu hd hi]
def Uh(m x:Operand)(t:TypeId)(ho:o.op=.lookup t m x true)(mv kv v:Value)(hm:a.eval m=mv)(hx:a.eval x=kv)(hrun:(Instr.lookup t mv kv true).run P w=.ok v w):(execOp a.eval o).run P w=.ok (.value v) w:=by
 unfold execOp;simp only[ho,Sem.run_bind,hm,hx,hrun,Result.andThen_ok,Sem.run_pure]
def zp1{fn:Func}{p:Tmp}{ty:TypeId}(h:fn.results=#[.cell p ty])(tmps:Array Value)(w:World)(ad:Addr)(v:Value)(ha:tmps.getD p undef=.pointer (some ad))(hl:(loadVar ty ad).run P w=.ok v w):
  (results fn tmps).run P w=.ok v w:=by
 have ha':tmps[p]?.getD undef=.pointer (some ad):=by rw[<-ha,Array.getD_eq_getD_getElem?]
 simp only[results,h];simp[Sem.run_bind,Result.andThen,ha',asAddr,hl]
end
def zpw(n p:Int)(w:World):Cq 127 #[Iq n,Iq p] w λe w'=>e=.panicked (Yv n p)/\Bq w w':=by
 go_enter func127,ntmps127
 go_wp2;exact⟨rfl,rfl,Below.refl _ _⟩
def Xq(n g d g' d':Nat)(hm:P.follows .mixedOrders=true)(hB:Region.lexTailB .any l.toArray n=true)(hg:((l.toArray[g]?).bind λx=>x.dst)=some d)(hg':((l.toArray[g']?).bind λx=>x.dst)=some d')
  (h:∀ops:Array Oper,((ops[g]?).bind λx=>x.dst)=some d->((ops[g']?).bind λx=>x.dst)=some d'->wpStill P ops {w with drawn:=w.drawn+1} (λa'=>wpList P ops Q (l.drop n) a' {w with drawn:=w.drawn+1}) (l.take n) a):(Code.region id l.toArray true).wp P Q a w:=
 wp_region_still_tail n hm hB (h _ hg hg')
def yrw(g d g' d':Nat)(hm:P.follows .mixedOrders=true)(hB:Region.lexB .any l.toArray=true)(hg:((l.toArray[g]?).bind λx=>x.dst)=some d)(hg':((l.toArray[g']?).bind λx=>x.dst)=some d')
  (h:∀ops:Array Oper,((ops[g]?).bind λx=>x.dst)=some d->((ops[g']?).bind λx=>x.dst)=some d'->wpStill P ops {w with drawn:=w.drawn+1} (λa'=>Q .normal a' {w with drawn:=w.drawn+1}) l a):(Code.region id l.toArray true).wp P Q a w:=
 wp_region_still_lit hm hB (h _ hg hg')
def Vw:Array Value:=#[
 .string ⟨#[108,101,118,101,108]⟩,.string ⟨#[110]⟩,.bool true,.func (.func 185) #[] #[],.string ⟨#[98,101,108,111,119]⟩,.string ⟨#[110,110]⟩,.bool true,.func (.func 186) #[] #[],.string ⟨#[99,101,108,108]⟩,.string ⟨#[110,110]⟩,.bool true,.func (.func 187) #[] #[],.string ⟨#[99,104,97,110,110,101,108]⟩,.string ⟨#[110,110]⟩,.bool true,.func (.func 188) #[] #[],.string ⟨#[98,101,103,105,110]⟩,.string ⟨#[]⟩,.bool true,.func (.func 189) #[] #[],.string ⟨#[115,101,116]⟩,.string ⟨#[110,97]⟩,.bool false,.func (.func 190) #[] #[],.string ⟨#[115,101,116]⟩,.string ⟨#[110,97,111,97]⟩,.bool false,.func (.func 190) #[] #[],.string ⟨#[111,117,116]⟩,.string ⟨#[110,97]⟩,.bool false,.func (.func 191) #[] #[],.string ⟨#[105,102]⟩,.string ⟨#[97]⟩,.bool false,.func (.func 192) #[] #[],.string ⟨#[101,108,115,101]⟩,.string ⟨#[]⟩,.bool false,.func (.func 193) #[] #[],.string ⟨#[119,104,105,108,101]⟩,.string ⟨#[97]⟩,.bool false,.func (.func 194) #[] #[],.string ⟨#[101,110,100]⟩,.string ⟨#[]⟩,.bool false,.func (.func 195) #[] #[]]
def zpv(k:Nat):Nat:=[185,186,187,188,189,190,190,191,192,193,194,195].getD k 0
def yrv(k:Nat)(h:k<12):Vw[k*4]?=some (.string ⟨(Fl.rule k).1.toArray⟩)/\Vw[k*4+1]?=some (.string ⟨(Fl.rule k).2.1.toArray⟩)/\Vw[k*4+2]?=some (.bool (Fl.rule k).2.2)/\Vw[k*4+3]?=some (.func (.func (zpv k)) #[] #[]):=by
 rcases(show k=0\/k=1\/k=2\/k=3\/k=4\/k=5\/k=6\/k=7\/k=8\/k=9\/k=10\/k=11 by omega) with rfl|rfl|rfl|rfl|rfl|rfl|rfl|rfl|rfl|rfl|rfl|rfl<;>exact⟨rfl,rfl,rfl,rfl⟩
def yq0(k:Nat)(h:k<12):(∀c∈(Fl.rule k).2.1,c=110\/c=97\/c=111)/\(Fl.rule k).2.1.length<=4:=by
 rcases(show k=0\/k=1\/k=2\/k=3\/k=4\/k=5\/k=6\/k=7\/k=8\/k=9\/k=10\/k=11 by omega) with rfl|rfl|rfl|rfl|rfl|rfl|rfl|rfl|rfl|rfl|rfl|rfl<;>decide
def zkx(k:Nat)(h:k<12):∀args W,(callFunc (zpv k) args).run prog W=.ok (.enter (zpv k) args) W:=by
 intro args W;rcases(show k=0\/k=1\/k=2\/k=3\/k=4\/k=5\/k=6\/k=7\/k=8\/k=9\/k=10\/k=11 by omega) with rfl|rfl|rfl|rfl|rfl|rfl|rfl|rfl|rfl|rfl|rfl|rfl<;>kernel_rfl
def ze8(w:World):Cq 128 #[] w λe w'=>e=.returned (.slice (some (Aq w.heap.size 0)) 12 12)/\w'=w.alloc (.cells Vw 313):=by
 go_enter func128,ntmps128
 go_wp2_with fail
 go_ret;exact⟨rfl,rfl⟩
def Xk(b:Nat)(n:Int)(w:World):Cq 132 #[Pq b,.bool true,Iq n] w λe w'=>e=.returned (.tuple #[])/\w'=w:=by
 go_enter func132,ntmps132
 go_wp2
 go_end0
 exact⟨rfl,rfl⟩
def Yj(b:Nat)(n p:Int)(w:World)(hp:w.cell? (Aq b 1)=some (Iq p)):Cq 132 #[Pq b,.bool false,Iq n] w λe w'=>e=.panicked (Yv n p)/\Bq w w':=by
 go_enter func132,ntmps132
 go_wp2_with (go_at_call 127;refine(zpw _ _ _).mono ?_;rintro e w' ⟨rfl,hb⟩)
 exact⟨rfl,rfl,hb⟩
def Tryz.infoLineRule:(Tryz.prog.info? 313).map (·.size)=some 4:=by kernel_rfl
def lrOne(a b:ByteArray)(c:Bool)(f:Nat):(#[.string a,.string b,.bool c,.func (.func f) #[] #[]]:Array Value).all (·.oneCell')=true:=by kernel_rfl
def yzx(R T:Nat)(b off n cap:Nat)(ws:List (List UInt8))(line:Int)(begun:Bool)(w:World)(G:World->Prop)(Rp:Int->Int->World->Prop)
  (hT:w.heap[T]?=some (.cells Vw 313 (0,0))) (R0:Zh w.heap.size w (.slice (some (Aq b off)) n cap) ws) (S0:ws≠[])
  (hl:w.cell? (Aq R 1)=some (Iq line)) (T0:w.cell? (Aq R 2)=some (.bool begun))
  (p0:(∀k,k<12->Fl.isRule ws k=false)->∀W,Bq w W->Rp 2 line W)
  (U0:∀k,k<12->Fl.isRule ws k=true->(Fl.rule k).2.2=begun->∀W,Bq w W->Rp 3 line W)
  (g0:∀k,k<12->Fl.isRule ws k=true->(Fl.rule k).2.2≠begun->∀W v,Bq w W->Zh w.heap.size W v (ws.drop 1)->v.ownBlock=some b->Cq (zpv k) #[Pq R,v] W λe W'=>(e=.returned (.tuple #[])/\G W')\/∃n p,e=.panicked (Yv n p)/\Rp n p W'):
  Cq 131 #[Pq R,.slice (some (Aq T 0)) 12 12,.slice (some (Aq b off)) n cap] w λe W'=>(e=.returned (.tuple #[])/\G W')\/∃n p,e=.panicked (Yv n p)/\Rp n p W':=by
 have HT:=Zz hT;have HW:=Zz R0;have HL:=Zz hl;have V0:=Zz T0;have H0:=Zz p0;have W0:=Zz U0;have h0:=Zz g0;clear hT R0 hl T0 p0 U0 g0
 go_enter func131,ntmps131
 go_wp2_with fail
 go_loopw [10] (λi wr=>∃(k:Nat),k<=12/\i=Iq k/\Bq w wr/\∀j,j<k->Fl.isRule ws j=false) (λi _=>12 - (intOf i).toNat)
 case atStart=>exact⟨0,by omega,rfl,Below.refl _ _,λj hj=>by omega⟩
 case round=>
  obtain⟨k,hk,rfl,b0,hno⟩:=hrel;have B0:=Zz hno;have HB:=Zz b0;have i1:T<w.heap.size:=(Array.getElem?_eq_some_iff.1 HT.out).1;have s0:R<w.heap.size:=Qe w (Aq R 1) HL.out;have j1:=b0.size;clear hno
  by_cases i0:k<12
  ·have X0:wr.heap[T]?=some (.cells Vw 313 (0,0)):=(b0.block T i1).trans HT.out
   obtain⟨Y0,Z0,a1,b1⟩:=yrv k i0
   have hc:∀j v,Vw[k*4+j]?=some v->wr.cell? (Aq T (k*4+j))=some v:=λj v hv=>by
    unfold World.cell?;simp only[X0];simpa using hv
   have q0:wr.cell? (Aq T (k*4))=some (.string ⟨(Fl.rule k).1.toArray⟩):=hc 0 _ (by simpa using Y0);have q1:=hc 1 _ Z0;have q2:=hc 2 _ a1;have q3:=hc 3 _ b1;obtain⟨wd,I0⟩:=nmE ((Fl.rule k).1);obtain⟨sh,C0⟩:=nmE ((Fl.rule k).2.1);obtain⟨ah,J0⟩:=nmE ((Fl.rule k).2.2);obtain⟨fn,K0⟩:=nmE (zpv k);rw[<-I0]at q0;rw[<-C0]at q1;rw[<-J0]at q2;rw[<-K0]at q3;obtain⟨ao',cap',c1,u1,L0,v1,k1,d1⟩:=HW.out;simp only[Value.slice.injEq]at c1;obtain⟨rfl,rfl,rfl⟩:=c1;obtain⟨b',off',e1,l1,j0⟩:=d1 S0;simp only[Option.some.injEq,Addr.mk.injEq,and_true]at e1;obtain⟨rfl,rfl⟩:=e1;obtain⟨x,hx⟩:=nmE (ws.getD 0 []);have M0:0<ws.length:=List.length_pos_iff.2 S0;have N0:wr.cell? (Aq b off)=some (.string ⟨x.toArray⟩):=by
    rw[b0.cell (p:=(Aq b off)) l1,hx];have:=j0 0 M0;simpa [strV] using this
   have HX:=Zz hx;have D0:=Zz K0;have E0:=Zz J0;have t0:Hid (Fl.isRule ws k=(x==wd && Fl.fitAll sh (ws.drop 1))):=(by show _=_;rw[hx,I0,C0];rfl);have F0:Hid ((∀c∈sh,c=110\/c=97\/c=111)/\sh.length<=4):=(by show _/\_;rw[C0];exact yq0 k i0);have x1:(k:Int)<12:=(by omega);clear hc Y0 Z0 a1 b1 I0 C0 J0 K0 hx j0 X0 d1 k1
   go_wp2_with (refine Js rfl _ _ 313 rfl wr _ #[.string ⟨wd.toArray⟩,.string ⟨sh.toArray⟩,.bool ah,.func (.func fn) #[] #[]] rfl rfl Tryz.infoLineRule (by rfl) (lrOne _ _ _ _) ?_)
   obtain⟨W1,e0⟩:=nmE (wr.alloc (.cells #[.string ⟨wd.toArray⟩,.string ⟨sh.toArray⟩,.bool ah,.func (.func fn) #[] #[]] 313));obtain⟨rb,k0⟩:=nmE (wr.heap.size);rw[<-e0,<-k0];have f1:Bq w W1:=(by rw[e0];exact b0.alloc j1 _);have r0:W1.cell? (Aq rb 0)=some (.string ⟨wd.toArray⟩):=(by rw[e0,k0];exact World.cell?_alloc_new _ _ _ _);have r1:W1.cell? (Aq rb 1)=some (.string ⟨sh.toArray⟩):=(by rw[e0,k0];exact World.cell?_alloc_new _ _ _ _);have r2:W1.cell? (Aq rb 2)=some (.bool ah):=(by rw[e0,k0];exact World.cell?_alloc_new _ _ _ _);have r3:W1.cell? (Aq rb 3)=some (.func (.func fn) #[] #[]):=(by rw[e0,k0];exact World.cell?_alloc_new _ _ _ _);have g1:W1.cell? (Aq b off)=some (.string ⟨x.toArray⟩):=(by rw[e0];exact(Qf _ _ _ (Qe wr _ N0)).trans N0);have u0:=Zz f1;have y1:w.heap.size<W1.heap.size:=(by rw[e0];simp;omega);have G0:rb<W1.heap.size:=(by rw[e0,k0];simp);clear q0 q1 q2 q3 N0 e0 k0 b0 f1;unfold maxLen at L0
   cases O0:x==wd with
   |false=>
    have v0:Hid (∀j,j<k+1->Fl.isRule ws j=false):=λj hj=>by
     by_cases x0:j=k
     ·subst x0;rw[t0.out,O0];rfl
     exact B0.out j (by omega)
    refine Xq 11 6 _ 6 _ (by kernel_rfl) (by kernel_rfl) rfl rfl (λops hY h1=>?_);simp only[List.take_succ_cons,List.take_zero,List.drop_succ_cons,List.drop_zero]
    iterate 11 still_step
    refine wpStill_nil ?_;go_wp2
    go_roundw
    case rel=>exact⟨k+1,by omega,by go_num,u0.out.drew,v0.out⟩
    case measure=>simp[intOf];omega
   |true=>
    have m1:(1:Int)<=(ws.length:Int):=(by omega);have n1:(ws.length:Int)<=(cap:Int):=(by omega)
    by_cases y0:cap=1
    ·subst y0
     refine Xq 11 6 _ 6 _ (by kernel_rfl) (by kernel_rfl) rfl rfl (λops hY h1=>?_);simp only[List.take_succ_cons,List.take_zero,List.drop_succ_cons,List.drop_zero]
     iterate 11 still_step
     refine wpStill_nil ?_
     go_wp2_with fail
     have l0:∀W,Bq w W->Zh w.heap.size W (.slice (some (Aq b off)) 0 0) (ws.drop 1):=λW hW=>by
      have:ws.drop 1=[]:=List.drop_eq_nil_of_le (by omega);rw[this];exact⟨_,_,rfl,by simp,by simp[maxLen],by simp,by simp,λh=>absurd rfl h⟩
     have P0:=Zz l0;have HF:=zdw w.heap.size sh (.slice (some (Aq b off)) 0 0) (ws.drop 1) W1.drew (l0 _ u0.out.drew) (by simp;omega) F0.out.1 F0.out.2;clear l0;refine HF.mono ?_;clear HF;rintro e W2 ⟨rfl,c0⟩;have d0:Hid (Bq w W2):=u0.out.drew.trans (c0.mono (by simp;omega));have s2:W2.cell? (Aq rb 2)=some (.bool ah):=(c0.cell (p:=(Aq rb 2)) (by simpa using G0)).trans r2;have s3:W2.cell? (Aq rb 3)=some (.func (.func fn) #[] #[]):=(c0.cell (p:=(Aq rb 3)) (by simpa using G0)).trans r3;have t2:W2.cell? (Aq R 2)=some (.bool begun):=(d0.out.cell (p:=(Aq R 2)) s0).trans V0.out;have t1:W2.cell? (Aq R 1)=some (Iq line):=(d0.out.cell (p:=(Aq R 1)) s0).trans HL.out;have o1:w.heap.size<W2.heap.size:=(by have:=c0.size;simp at this;omega);clear c0 r0 r1 r2 r3 g1
     cases a0:Fl.fitAll sh (ws.drop 1) with
     |false=>
      have v0:Hid (∀j,j<k+1->Fl.isRule ws j=false):=λj hj=>by
       by_cases x0:j=k
       ·subst x0;rw[t0.out,a0];simp
       exact B0.out j (by omega)
      clear a0 s2 s3 t1 t2;go_wp2
      go_roundw
      case rel=>exact⟨k+1,by omega,by go_num,d0.out,v0.out⟩
      case measure=>simp[intOf];omega
     |true=>
      have z0:Hid (Fl.isRule ws k=true):=(by show _=_;rw[t0.out,O0,a0];rfl);clear a0
      by_cases m0:ah=begun
      ·subst m0
       have f0:Hid (Cq 132 #[Pq R,.bool false,Iq 3] W2.drew λe w'=>e=.panicked (Yv 3 line)/\Below W2.drew.heap.size W2.drew w'):=Yj R 3 line W2.drew t1;have b9:(ah !=ah)=false:=(by simp)
       go_wp2_with fail
       go_still_tail 8,(by kernel_rfl)
       go_wp2_with fail
       refine f0.out.mono ?_;rintro e W3 ⟨rfl,Q0⟩;exact⟨rfl,.inr ⟨_,_,rfl,W0.out k i0 z0.out E0.out.symm W3 (d0.out.drew.trans (Q0.mono (by simp;omega)))⟩⟩
      have b9:(ah==begun)=false:=beq_eq_false_iff_ne.2 m0;have f0:Hid (Cq 132 #[Pq R,.bool true,Iq 3] W2.drew λe w'=>e=.returned (.tuple #[])/\w'=W2.drew):=Xk R 3 W2.drew;have p1:∀args W,(callFunc fn args).run prog W=.ok (.enter fn args) W:=(by rw[D0.out];exact zkx k i0)
      go_wp2_with fail
      go_still_tail 8,(by kernel_rfl)
      go_wp2_with fail
      refine f0.out.mono ?_;rintro e W3 ⟨rfl,n0⟩;have u3:W3.cell? (Aq rb 3)=some (.func (.func fn) #[] #[]):=(by rw[n0];exact s3);have A0:Hid (Bq w W3):=(by rw[n0];exact d0.out.drew);clear n0 s2 s3 t1 t2 f0
      go_wp2_with fail
      go_still_tail 5,(by kernel_rfl)
      go_wp2_with fail
      have o0:=h0.out k i0 z0.out (by rw[<-E0.out];exact m0) W3.drew (.slice (some (Aq b off)) 0 0) A0.out.drew (P0.out _ A0.out.drew) rfl;rw[<-D0.out]at o0;refine o0.mono ?_;clear o0;rintro e W4 (⟨rfl,hG⟩|⟨n,p,rfl,hR⟩)
      ·have HG:=Zz hG
       clear hG;go_wp2
       (try simp only[Exit.inBlock,Exit.then])
       refine bodyPost_ret (results_none rfl _ _ _) rfl ?_;exact .inl ⟨rfl,HG.out⟩
      exact⟨rfl,.inr ⟨_,_,rfl,hR⟩⟩
    skip
    refine Xq 11 6 _ 6 _ (by kernel_rfl) (by kernel_rfl) rfl rfl (λops hY h1=>?_);simp only[List.take_succ_cons,List.take_zero,List.drop_succ_cons,List.drop_zero]
    iterate 11 still_step
    refine wpStill_nil ?_
    go_wp2_with fail
    have l0:∀W,Bq w W->Zh w.heap.size W (.slice (some (Aq b (off+1))) (ws.length - 1) (cap - 1)) (ws.drop 1):=λW hW=>by
     exact(HW.out.below hW).drop 1 (by omega)
    have P0:=Zz l0;have HF:=zdw w.heap.size sh (.slice (some (Aq b (off+1))) (ws.length - 1) (cap - 1)) (ws.drop 1) W1.drew (l0 _ u0.out.drew) (by simp;omega) F0.out.1 F0.out.2;clear l0;refine HF.mono ?_;clear HF;rintro e W2 ⟨rfl,c0⟩;have d0:Hid (Bq w W2):=u0.out.drew.trans (c0.mono (by simp;omega));have s2:W2.cell? (Aq rb 2)=some (.bool ah):=(c0.cell (p:=(Aq rb 2)) (by simpa using G0)).trans r2;have s3:W2.cell? (Aq rb 3)=some (.func (.func fn) #[] #[]):=(c0.cell (p:=(Aq rb 3)) (by simpa using G0)).trans r3;have t2:W2.cell? (Aq R 2)=some (.bool begun):=(d0.out.cell (p:=(Aq R 2)) s0).trans V0.out;have t1:W2.cell? (Aq R 1)=some (Iq line):=(d0.out.cell (p:=(Aq R 1)) s0).trans HL.out;have o1:w.heap.size<W2.heap.size:=(by have:=c0.size;simp at this;omega);clear c0 r0 r1 r2 r3 g1
    cases a0:Fl.fitAll sh (ws.drop 1) with
    |false=>
     have v0:Hid (∀j,j<k+1->Fl.isRule ws j=false):=λj hj=>by
      by_cases x0:j=k
      ·subst x0;rw[t0.out,a0];simp
      exact B0.out j (by omega)
     clear a0 s2 s3 t1 t2;go_wp2
     go_roundw
     case rel=>exact⟨k+1,by omega,by go_num,d0.out,v0.out⟩
     case measure=>simp[intOf];omega
    |true=>
     have z0:Hid (Fl.isRule ws k=true):=(by show _=_;rw[t0.out,O0,a0];rfl);clear a0
     by_cases m0:ah=begun
     ·subst m0
      have f0:Hid (Cq 132 #[Pq R,.bool false,Iq 3] W2.drew λe w'=>e=.panicked (Yv 3 line)/\Below W2.drew.heap.size W2.drew w'):=Yj R 3 line W2.drew t1;have b9:(ah !=ah)=false:=(by simp)
      go_wp2_with fail
      go_still_tail 8,(by kernel_rfl)
      go_wp2_with fail
      refine f0.out.mono ?_;rintro e W3 ⟨rfl,Q0⟩;exact⟨rfl,.inr ⟨_,_,rfl,W0.out k i0 z0.out E0.out.symm W3 (d0.out.drew.trans (Q0.mono (by simp;omega)))⟩⟩
     have b9:(ah==begun)=false:=beq_eq_false_iff_ne.2 m0;have f0:Hid (Cq 132 #[Pq R,.bool true,Iq 3] W2.drew λe w'=>e=.returned (.tuple #[])/\w'=W2.drew):=Xk R 3 W2.drew;have p1:∀args W,(callFunc fn args).run prog W=.ok (.enter fn args) W:=(by rw[D0.out];exact zkx k i0)
     go_wp2_with fail
     go_still_tail 8,(by kernel_rfl)
     go_wp2_with fail
     refine f0.out.mono ?_;rintro e W3 ⟨rfl,n0⟩;have u3:W3.cell? (Aq rb 3)=some (.func (.func fn) #[] #[]):=(by rw[n0];exact s3);have A0:Hid (Bq w W3):=(by rw[n0];exact d0.out.drew);clear n0 s2 s3 t1 t2 f0
     go_wp2_with fail
     go_still_tail 5,(by kernel_rfl)
     go_wp2_with fail
     have o0:=h0.out k i0 z0.out (by rw[<-E0.out];exact m0) W3.drew (.slice (some (Aq b (off+1))) (ws.length - 1) (cap - 1)) A0.out.drew (P0.out _ A0.out.drew) rfl;rw[<-D0.out]at o0;refine o0.mono ?_;clear o0;rintro e W4 (⟨rfl,hG⟩|⟨n,p,rfl,hR⟩)
     ·have HG:=Zz hG
      clear hG;go_wp2
      (try simp only[Exit.inBlock,Exit.then])
      refine bodyPost_ret (results_none rfl _ _ _) rfl ?_;exact .inl ⟨rfl,HG.out⟩
     exact⟨rfl,.inr ⟨_,_,rfl,hR⟩⟩
  obtain rfl:k=12:=by omega
  have s1:Hid (∀W,Bq w W->Cq 132 #[Pq R,.bool false,Iq 2] W λe w'=>e=.panicked (Yv 2 line)/\Bq W w'):=λW hW=>Yj R 2 line W ((hW.cell (p:=(Aq R 1)) s0).trans HL.out);clear b0
  go_wp2_with fail
  refine(s1.out _ HB.out).mono ?_;rintro e w2 ⟨rfl,c0⟩;exact⟨rfl,.inr ⟨_,_,rfl,H0.out B0.out w2 (HB.out.trans (c0.mono (by omega)))⟩⟩
open Go.Maps Go.WideMaps
namespace Fl
def placeFrom_shift(w:List UInt8):∀(l:List (List UInt8)) (i:Nat),placeFrom i w l=if placeFrom 0 w l<0 then -1 else(i:Int)+placeFrom 0 w l
 |[],i=>by simp[placeFrom]
 |x::r,i=>by
  simp only[placeFrom]
  by_cases hx:(x==w)=true
  ·simp only[hx,if_true];simp
  simp only[show (x==w)=false by simpa using hx,Bool.false_eq_true,if_false];rw[placeFrom_shift w r (i+1),placeFrom_shift w r (0+1)]
  by_cases h:placeFrom 0 w r<0
  ·simp[h]
  simp only[h,if_false];rw[if_neg (by omega)];omega
def place_cases(l:List (List UInt8))(w:List UInt8):place l w= -1\/(0<=place l w/\place l w<l.length):=by
 unfold place
 induction l with
 |nil=>left;rfl
 |cons x r ih=>
  simp only[placeFrom,List.length_cons]
  by_cases hx:(x==w)=true
  ·right;simp only[hx,if_true];omega
  simp only[show (x==w)=false by simpa using hx,Bool.false_eq_true,if_false];rw[placeFrom_shift];rcases ih with h|h
  ·left;rw[h];rfl
  right;rw[if_neg (by omega)];omega
def place_append(a b:List (List UInt8))(w:List UInt8):place (a++b) w=if 0<=place a w then place a w else if 0<=place b w then(a.length:Int)+place b w else -1:=by
 induction a with
 |nil=>
  rcases place_cases b w with h|h
  ·simp[place,placeFrom]at h⊢;rw[h];simp
  have:¬(0<=place ([]:List (List UInt8)) w):=by simp[place,placeFrom]
  simp only[List.nil_append,this,if_false,h.1,if_true,List.length_nil];omega
 |cons x r ih=>
  unfold place at ih⊢;simp only[List.cons_append,placeFrom,List.length_cons]
  by_cases hx:(x==w)=true
  ·simp[hx]
  simp only[show (x==w)=false by simpa using hx,Bool.false_eq_true,if_false];rw[placeFrom_shift w (r++b),placeFrom_shift w r (0+1),ih];have h1:=place_cases r w;have h2:=place_cases b w;unfold place at h1 h2;rcases h1 with h1|h1
  ·rw[h1];simp only[show ¬(0:Int)<= -1 by omega,if_false]
   rcases h2 with h2|h2
   ·rw[h2];simp
   simp only[h2.1,if_true];rw[if_neg (by omega)];simp only[show (-1:Int)<0 by omega,if_true,show ¬(0:Int)<= -1 by omega,if_false];push_cast;omega
  simp only[h1.1,if_true];rw[if_neg (by omega),if_pos (by omega)]
def place_snoc_same(a:List (List UInt8))(w:List UInt8)(h:place a w<0):place (a++[w]) w=a.length:=by
 rw[place_append,if_neg (by omega)]
 have:place [w] w=0:=by simp[place,placeFrom]
 rw[this];simp
def place_snoc_other(a:List (List UInt8))(w x:List UInt8)(h:x≠w):place (a++[w]) x=place a x:=by
 rw[place_append]
 have:place [w] x= -1:=by simp[place,placeFrom,Ne.symm h]
 rw[this];rcases place_cases a x with h1|h1
 ·rw[h1];simp
 simp[h1.1]
end Fl
def Yx(w:World)(b:Nat)(names:List (List UInt8)):Prop:=
 ∃n D,w.ownsMap (H:=Unit) prog 9 (plainElem prog 3) b n D/\n<=names.length/\Maps.size D=names.length/\Tidy D/\IsMap D/\
  ∀x,Maps.has D (.string x)=decide (0<=Fl.place names x)/\D.atKey (.string x) (.lit (.int .i64 0))=.lit (.int .i64 (max 0 (Fl.place names x)))
def zo0:Keyed prog 9:=string_keyed underlying9
def ym4(w:World):(zeroValue 3).run prog w=.ok (.int .i64 0) w:=by kernel_rfl
def yq1(x:List UInt8)(h:x.length<=100000):keyOf prog 9 (.string ⟨x.toArray⟩)=some (.string x):=by
 have:=keyOf_string_mk (P:=prog) underlying9 (s:=⟨x.toArray⟩) (by show x.toArray.size<=_;simp[maxLen];omega);simpa using this
def Yx.kept{w w':World}{b:Nat}{names:List (List UInt8)}(h:Yx w b names){row:Option Nat}(g:w.grownBy w' row)(hb:some b≠row):Yx w' b names:=by
 obtain⟨n,D,h1,h2⟩:=h;exact⟨n,D,h1.kept g hb,h2⟩
def Yx.block(h:Yx w b names)(hb:w'.heap[b]?=w.heap[b]?):Yx w' b names:=by
 obtain⟨n,D,⟨es,clock,h1,h1'⟩,h2⟩:=h;exact⟨n,D,⟨es,clock,by rw[hb];exact h1,h1'⟩,h2⟩
def Yx.lt{w:World}{b:Nat}{names:List (List UInt8)}(h:Yx w b names):b<w.heap.size:=by
 obtain⟨n,D,h1,h2⟩:=h;exact h1.lt
def Yx.made(w:World):Yx (w.alloc (.map #[] 0)) w.heap.size []:=
 ⟨0,.map [],World.ownsMap_made w _ _ _,Nat.le_refl _,rfl,(World.ownsMap_made (H:=Unit) w prog 9 (plainElem prog 3)).tidy zo0,(World.ownsMap_made (H:=Unit) w prog 9 (plainElem prog 3)).isMap,λx=>⟨by simp[Maps.has,Fl.place,Fl.placeFrom],by simp[DataW.atKey,Fl.place,Fl.placeFrom];decide⟩⟩
def Yx.look(h:Yx w b names)(x:List UInt8)(hx:x.length<=100000):
  (Instr.lookup 175 (.map (some b)) (.string ⟨x.toArray⟩) true).run prog w=.ok (.tuple #[.int .i64 (max 0 (Fl.place names x)),.bool (decide (0<=Fl.place names x))]) w:=by
 obtain⟨n,D,h1,h2,h3,h4,h5,h6⟩:=h;obtain⟨v,ps,hr,hv⟩:=h1.look_ok zo0 underlying175 (ym4 w) (zd:=.lit (.int .i64 0)) (zp:=[]) (plainElem_int underlying3 (by decide)) (yq1 x hx);obtain⟨c,rfl,hc,_⟩:=plainElem_int_inv underlying3 hv;rw[(h6 x).2]at hc;rw[hr,(h6 x).1];simp only[Prod.mk.injEq,DataW.lit.injEq,Lit.int.injEq,true_and]at hc;rw[hc.1]
def Yx.look2(h:Yx w b names)(x:List UInt8)(hx:x.length<=100000):
  ∃(mx:Int) (tb:Bool),(Instr.lookup 175 (.map (some b)) (.string ⟨x.toArray⟩) true).run prog w=.ok (.tuple #[.int .i64 mx,.bool tb]) w/\tb=decide (0<=Fl.place names x)/\mx=max 0 (Fl.place names x):=⟨_,_,h.look x hx,rfl,rfl⟩
def Yx.len{w:World}{b:Nat}{names:List (List UInt8)}(h:Yx w b names)(ty:TypeId):(Builtin.len_ #[175] ty #[.map (some b)]).run prog w=.ok (.int .i64 names.length) w:=by
 obtain⟨n,D,h1,h2,h3,h4⟩:=h;rw[h1.len underlying175 ty,h3]
def Yx.put(h:Yx w b names)(x:List UInt8)(hx:x.length<=100000)(hno:Fl.place names x<0)(hn:names.length<=100):
  ∃w',(Instr.mapUpdate 175 (.map (some b)) (.string ⟨x.toArray⟩) (.int .i64 names.length)).run prog w=.ok () w'/\Yx w' b (names++[x])/\w.grownBy w' (some b):=by
 obtain⟨n,D,h1,h2,h3,h4,h5,h6⟩:=h;obtain⟨w',hr,ho,ht⟩:=h1.store zo0 underlying175 (by unfold maxLen;omega) (yq1 x hx) (plainElem_int underlying3 (show (Lit.int .i64 (names.length:Int)).wf=true from WalkArith.wf_i64 (by omega)));refine⟨w',hr,⟨n+1,_,ho,by simp;omega,?_,ho.tidy zo0,ho.isMap,λy=>?_⟩,ht.grown⟩
 ·rw[size_put h4,(h6 x).1,h3];simp[hno]
 by_cases hy:y=x
 ·subst hy
  rw[has_put_same h5 (by simp[WideAt.IsKeyLit]),atKey_put_same h5 (by simp[WideAt.IsKeyLit]),Fl.place_snoc_same _ _ hno];simp
 have a0:(Lit.string y)≠ .string x:=by simpa using hy
 rw[has_put_other a0,atKey_put_other a0,Fl.place_snoc_other _ _ _ hy];exact h6 y
end Go.Proofs.YtjekbnmnjeoagaaGreatDoor
namespace Go.Proofs.YtjekbnmnjeoagaaGreatDoor
open Go.RowKit Go.Proofs.Tryz
variable{P:Program}{w w':World}{a:Act}{Q:Exit->Act->World->Prop}{id b n base Lb Pb:Nat}{l:List Oper}{names:List (List UInt8)}{S:Nat->Prop}{v:Value}{t:Fl.Tab}{e:Fl.Expr}{vs:List Int}
structure Ze(w:World)(b n:Nat)(f:Nat->Value):Prop where
 c:∀j,j<n->w.cell? (Aq b j)=some (f j)
 z:∀j,w.frozen? (Aq b j)=false
abbrev rw_(l:List Value):Nat->Value:=λi=>l.getD i undef
def ptr(b:Nat):Value:=Pq b
def Ze.block{f:Nat->Value}(h:Ze w b n f)(hb:w'.heap[b]?=w.heap[b]?):Ze w' b n f:=
 ⟨λj hj=>(Qc (a:=(Aq b j)) hb).trans (h.c j hj),λj=>(Qd (a:=(Aq b j)) hb).trans (h.z j)⟩
def Ze.set{f:Nat->Value}(h:Ze w b n f){j:Nat}(hj:j<n)(v:Value):Ze (w.setCell (Aq b j) v) b n (λi=>if i=j then v else f i):=by
 refine⟨λi hi=>?_,λi=>by rw[World.frozen?_setCell];exact h.z i⟩
 by_cases a0:i=j
 ·subst a0;rw[if_pos rfl];exact World.cell?_setCell_same' _ _ _ (by simp[h.c i hi])
 rw[if_neg a0];refine(Qg _ _ _ _ ?_).trans (h.c i hi);intro hh;injection hh with _ h2;exact a0 (by omega)
def Ze.lt{f:Nat->Value}(h:Ze w b n f)(hn:0<n):b<w.heap.size:=Qe w (Aq b 0) (h.c 0 hn)
def Ze.new(w:World)(l:List Value)(t:TypeId):Ze (w.alloc (.cells l.toArray t)) w.heap.size l.length (rw_ l):=by
 refine⟨λj hj=>?_,λj=>by rw[World.frozen?,heap_alloc_new];simp⟩;rw[World.cell?_alloc_new];simp[rw_,Qa,hj]
def Ze.congr{f g:Nat->Value}(h:Ze w b n f)(hg:∀j,j<n->f j=g j):Ze w b n g:=⟨λj hj=>by rw[<-hg j hj];exact h.c j hj,h.z⟩
def Zx(w:World)(b j:Nat)(v:Value)(k:Nat)(hk:k≠b):(w.setCell (Aq b j) v).heap[k]?=w.heap[k]?:=Below.heap_setCell w (Aq b j) v k hk
def Zy(w:World)(a:Addr)(v:Value):(w.setCell a v).heap.size=w.heap.size:=by simp[World.setCell]
def Xn(S:Nat->Prop)(w:World)(p:Value)(a:Fl.Atom):Prop:=
 ∃vb,p=ptr vb/\S vb/\Ze w vb 4 (rw_ [Iq (if a.var then 1 else 0),Iq a.v,.pointer none,.pointer none])
def zw9(S:Nat->Prop)(w:World)(p:Value)(e:Fl.Expr):Prop:=
 (e.op= -1/\Xn S w p e.a)\/(0<=e.op/\∃vb x y,p=ptr vb/\S vb/\Ze w vb 4 (rw_ [Iq 2,Iq e.op,x,y])/\Xn S w x e.a/\Xn S w y e.b)
def zzz(K:(Nat->Prop)->World->Value->List Fl.Stmt->Prop)(S:Nat->Prop)(w:World)(p:Value)(s:Fl.Stmt):Prop:=
 ∃sb vp fv ev,p=ptr sb/\S sb/\Ze w sb 6 (rw_ [Iq s.kind,Iq s.line,Iq s.x,vp,fv,ev])/\zw9 S w vp s.e/\K S w fv s.body/\K S w ev s.other
def noS:Fl.Stmt:=⟨0,0,0,⟨-1,⟨false,0⟩,⟨false,0⟩⟩,[],[]⟩
def Zg:Nat->(Nat->Prop)->World->Value->List Fl.Stmt->Prop
 |0,_,_,v,l=>l=[]/\v=Zq
 |d+1,S,w,v,l=>∃ao cap,v=.slice ao l.length cap/\l.length<=cap/\cap<=maxLen/\l.length<=16/\
   (l≠[]->∃b off,ao=some (Aq b off)/\S b/\∀i,i<l.length->∃p,w.cell? (Aq b (off+i))=some p/\zzz (Zg d) S w p (l.getD i noS))
section
variable{S':Nat->Prop}
def Xn.kept{p:Value}{a:Fl.Atom}(h:Xn S w p a)(hS:∀b,S b->S' b)(hw:∀b,S b->w'.heap[b]?=w.heap[b]?):Xn S' w' p a:=by
 obtain⟨vb,h1,h2,h3⟩:=h;exact⟨vb,h1,hS _ h2,h3.block (hw _ h2)⟩
def zw9.kept{p:Value}{e:Fl.Expr}(h:zw9 S w p e)(hS:∀b,S b->S' b)(hw:∀b,S b->w'.heap[b]?=w.heap[b]?):zw9 S' w' p e:=by
 rcases h with⟨h1,h2⟩|⟨h1,vb,x,y,h2,h3,h4,h5,h6⟩
 ·exact .inl ⟨h1,h2.kept hS hw⟩
 exact .inr ⟨h1,vb,x,y,h2,hS _ h3,h4.block (hw _ h3),h5.kept hS hw,h6.kept hS hw⟩
def zzz.kept{K:(Nat->Prop)->World->Value->List Fl.Stmt->Prop}(hK:∀v l,K S w v l->K S' w' v l){p:Value}{s:Fl.Stmt}(h:zzz K S w p s)(hS:∀b,S b->S' b)(hw:∀b,S b->w'.heap[b]?=w.heap[b]?):zzz K S' w' p s:=by
 obtain⟨sb,vp,fv,ev,h1,h2,h3,h4,h5,h6⟩:=h;exact⟨sb,vp,fv,ev,h1,hS _ h2,h3.block (hw _ h2),h4.kept hS hw,hK _ _ h5,hK _ _ h6⟩
def Zg.kept(hS:∀b,S b->S' b)(hw:∀b,S b->w'.heap[b]?=w.heap[b]?):∀(d:Nat) (v:Value) (l:List Fl.Stmt),Zg d S w v l->Zg d S' w' v l
 |0,_,_,h=>h
 |d+1,v,l,h=>by
  obtain⟨ao,cap,h1,h2,h3,h4,h5⟩:=h;refine⟨ao,cap,h1,h2,h3,h4,λa0=>?_⟩;obtain⟨b,off,e,hb,hc⟩:=h5 a0;refine⟨b,off,e,hS b hb,λi hi=>?_⟩;obtain⟨p,hp,b0⟩:=hc i hi;exact⟨p,(Qc (a:=(Aq b (off+i))) (hw b hb)).trans hp,b0.kept (λv l h=>Zg.kept hS hw d v l h) hS hw⟩
end
def Zg.nil(d:Nat)(S:Nat->Prop)(w:World):Zg d S w Zq []:=by
 cases d with
 |zero=>exact⟨rfl,rfl⟩
 |succ d=>exact⟨none,0,rfl,by simp,by simp[maxLen],by simp,λh=>absurd rfl h⟩
def Yr(d:Nat)(S:Nat->Prop)(base:Nat)(w:World)(v:Value)(ts:List Fl.Stmt)(tl:List Value):Prop:=
 ∃ps:List Value,w.ownsRow base 251 1 v (ps.length+tl.length) (ps++tl)/\ps.length=ts.length/\∀i,i<ts.length->zzz (Zg d) S w (ps.getD i undef) (ts.getD i noS)
def Yr.kept{d:Nat}{S S':Nat->Prop}{base:Nat}{w w':World}{v:Value}{ts:List Fl.Stmt}{tl:List Value}(h:Yr d S base w v ts tl)(hS:∀b,S b->S' b)(hw:∀b,S b->w'.heap[b]?=w.heap[b]?)(hv:∀b,v.ownBlock=some b->w'.heap[b]?=w.heap[b]?):Yr d S' base w' v ts tl:=by
 obtain⟨ps,h1,h2,h3⟩:=h;refine⟨ps,⟨h1.1,?_⟩,h2,λi hi=>(h3 i hi).kept (λv l h=>Zg.kept hS hw d v l h) hS hw⟩;rcases h1.2 with⟨rfl,h0⟩|⟨g,cap,cur,rfl,hb,hg,hr⟩
 ·exact .inl ⟨rfl,h0⟩
 exact .inr ⟨g,cap,cur,rfl,hb,by rw[hv g rfl];exact hg,hr⟩
def Yr.closed{d:Nat}{ts:List Fl.Stmt}(h:Yr d S base w v ts [])(hv:∀b,v.ownBlock=some b->S b)(hl:ts.length<=16):Zg (d+1) S w v ts:=by
 obtain⟨ps,h1,h2,h3⟩:=h;simp only[List.append_nil,List.length_nil,Nat.add_zero]at h1;rcases h1.2 with⟨rfl,h0⟩|⟨g,cap,cur,rfl,hb,hg,b0,a0,c0,ht⟩
 ·have:ts=[]:=Qi (by omega)
  subst this;exact Zg.nil _ _ _
 refine⟨_,cap,by rw[<-h2],by omega,a0,hl,λd0=>⟨g,0,rfl,hv g rfl,λi hi=>⟨ps.getD i undef,?_,h3 i hi⟩⟩⟩;have h4:=h1.cells (g:=g) rfl i (ps.getD i undef) (by rw[Qa,Qb (by omega)];simp)
 have h5:((Aq g 0):Addr).add i=(Aq g (0+i)):=by unfold Addr.add;split<;>simp_all
 rw[h5]at h4;exact h4
structure GF where
 sb:Nat
 ob:Nat
 vp:Value
 fv:Value
 ev:Value
def GF.act(g:GF)(f:Fl.Frame):Value:=if f.had then g.ev else g.fv
structure zxx(who:Nat->Nat)(base:Nat)(w:World)(d i:Nat)(tl:List Value)(f:Fl.Frame)(g:GF):Prop where
 ts:who g.sb=10+3*i
 to:who g.ob=11+3*i
 ta:∀b,(g.act f).ownBlock=some b->who b=12+3*i
 co:Ze w g.ob 2 (rw_ [ptr g.sb,.bool f.had])
 cs:Ze w g.sb 6 (rw_ [Iq f.kind,Iq f.line,Iq 0,g.vp,g.fv,g.ev])
 hv:zw9 (λb=>who b=0) w g.vp f.e
 pa:Yr d (λb=>who b=0) base w (g.act f) (if f.had then f.els else f.first) tl
 pf:f.had=true->Zg (d+1) (λb=>who b=0) w g.fv f.first
 pe:f.had=false->g.ev=Zq/\f.els=[]
def Vv(who:Nat->Nat)(base:Nat)(w:World):Nat->List Value->List Fl.Frame->List GF->Prop
 |_,_,[],[]=>True
 |d,tl,f::fs,g::gs=>zxx who base w d fs.length tl f g/\Vv who base w (d+1) [ptr g.sb] fs gs
 |_,_,_,_=>False
def zxx.kept{who who':Nat->Nat}{base:Nat}{w w':World}{d i:Nat}{tl:List Value}{f:Fl.Frame}{g:GF}(h:zxx who base w d i tl f g)(hS:∀b,who b=0\/who b=10+3*i\/who b=11+3*i\/who b=12+3*i->who' b=who b/\w'.heap[b]?=w.heap[b]?):zxx who' base w' d i tl f g:=by
 have h0:∀b,who b=0->who' b=0:=λb hb=>by rw[(hS b (.inl hb)).1];exact hb
 have h1:∀b,who b=0->w'.heap[b]?=w.heap[b]?:=λb hb=>(hS b (.inl hb)).2;exact⟨by rw[(hS _ (.inr (.inl h.ts))).1];exact h.ts,by rw[(hS _ (.inr (.inr (.inl h.to)))).1];exact h.to,λb hb=>by have:=h.ta b hb;rw[(hS b (.inr (.inr (.inr this)))).1];exact this,h.co.block (hS _ (.inr (.inr (.inl h.to)))).2,h.cs.block (hS _ (.inr (.inl h.ts))).2,h.hv.kept h0 h1,h.pa.kept h0 h1 (λb hb=>(hS b (.inr (.inr (.inr (h.ta b hb))))).2),λhh=>Zg.kept h0 h1 _ _ _ (h.pf hh),h.pe⟩
def Vv.kept{who who':Nat->Nat}{base:Nat}{w w':World}:∀{d:Nat} {tl:List Value} {fs:List Fl.Frame} {gs:List GF},Vv who base w d tl fs gs->(∀b,who b=0\/(10<=who b/\who b<10+3*fs.length)->who' b=who b/\w'.heap[b]?=w.heap[b]?)->Vv who' base w' d tl fs gs
 |_,_,[],[],_,_=>trivial
 |d,tl,f::fs,g::gs,h,hS=>by
  refine⟨h.1.kept (λb hb=>hS b ?_),Vv.kept h.2 (λb hb=>hS b ?_)⟩
  ·simp only[List.length_cons];omega
  simp only[List.length_cons];omega
 |_,_,[],_::_,h,_=>h.elim
 |_,_,_::_,[],h,_=>h.elim
def Vv.len{who:Nat->Nat}{base:Nat}{w:World}:∀{d:Nat} {tl:List Value} {fs:List Fl.Frame} {gs:List GF},Vv who base w d tl fs gs->gs.length=fs.length
 |_,_,[],[],_=>rfl
 |d,tl,f::fs,g::gs,h=>by simp[Vv.len h.2]
 |_,_,[],_::_,h=>h.elim
 |_,_,_::_,[],h=>h.elim
structure Jr(w:World)(Lb n:Nat)(t:Fl.Tab):Prop where
 z:∀j,w.frozen? (Aq Lb j)=false
 c0:w.cell? (Aq Lb 0)=some (Iq n)
 cu:∀i j,i<n->j<n->w.cell? (Aq Lb (1+6*i+j))=some (.bool (t i j))
 cj:∀i j,i<n->j<n->w.cell? (Aq Lb (37+6*i+j))=some (Iq (Fl.join n t i j))
 cl:w.cell? (Aq Lb 73)=some (Iq (Fl.bottom n t))
def Jr.block(h:Jr w Lb n t)(hb:w'.heap[Lb]?=w.heap[Lb]?):Jr w' Lb n t:=
 have q:∀j,w'.cell? (Aq Lb j)=w.cell? (Aq Lb j):=λj=>Qc (a:=(Aq Lb j)) hb
 ⟨λj=>(Qd (a:=(Aq Lb j)) hb).trans (h.z j),(q _).trans h.c0,λi j hi hj=>(q _).trans (h.cu i j hi hj),λi j hi hj=>(q _).trans (h.cj i j hi hj),(q _).trans h.cl⟩
structure Yb where
 who:Nat->Nat
 pl:Value
 clv:Value
 chv:Value
 bv:Value
 ov:Value
 gs:List GF
 t:Fl.Tab
def Xd(Pb lm vm cm:Nat)(line:Int)(r:Fl.RS)(m:Yb)(j:Nat):Value:=
 if j=0 then ptr Pb else if j=1 then Iq line else if j=2 then .bool r.begun else if j=3 then Iq r.levels.length
 else if j=40 then .map (some lm) else if j=41 then .map (some vm) else if j=42 then .map (some cm) else if j=43 then m.ov else if j=44 then Iq r.stmts
 else .bool (m.t ((j - 4) / 6) ((j - 4) % 6))
def Yn(l:List Nat):List Value:=l.map λ(x:Nat)=>Value.int .i64 (x:Int)
def Jq(k:Nat):Nat->List Fl.Frame->Prop
 |_,[]=>True
 |t,f::fs=>f.first.length+(if f.had then 0 else t)<=k/\f.els.length+(if f.had then t else 0)<=k/\Jq k 1 fs
def Jq.mono{k k':Nat}(hk:k<=k'):∀{t t':Nat} {fs:List Fl.Frame},t'<=t->Jq k t fs->Jq k' t' fs
 |_,_,[],_,_=>trivial
 |t,t',f::fs,ht,h=>by
  refine⟨?_,?_,Jq.mono hk (Nat.le_refl _) h.2.2⟩
  ·have:=h.1;split at this<;>simp_all<;>omega
  have:=h.2.1;split at this<;>simp_all<;>omega
def zn5(k:Nat)(fs:List Fl.Frame)(n:Nat):Prop:=n+min fs.length 1<=k/\Jq k 0 fs
def zn5.mono{k k':Nat}{fs:List Fl.Frame}{n:Nat}(h:zn5 k fs n)(hk:k<=k'):zn5 k' fs n:=⟨by have:=h.1;omega,Jq.mono hk (Nat.le_refl _) h.2⟩
structure RsOk(r:Fl.RS):Prop where
 cn:zn5 r.stmts r.fr r.top.length
 lv:r.levels.length<=6
 ce:r.cells.length<=6
 ch:r.chans.length<=3
 lo:r.locals.length<=4
 st:r.stmts<=16
 fr:r.fr.length<=3
 cl:r.cellLv.length=r.cells.length
 hl:r.chanLv.length=r.chans.length
 pairs:r.low.length=r.high.length
 below:∀p∈r.low.zip r.high,p.1<r.levels.length/\p.2<r.levels.length
 clv:∀x∈r.cellLv,x<r.levels.length
 chv:∀x∈r.chanLv,x<r.levels.length
 kinds:∀f∈r.fr,f.kind=5\/f.kind=6
 head:r.begun=false->r.locals=[]/\r.stmts=0/\r.top=[]/\r.fr=[]
 lat:r.begun=true->Fl.lattice r.levels.length r.tab=true
def Vn:List GF->List Value
 |[]=>[]
 |g::gs=>match Vn gs with
  |[]=>[ptr g.sb]
  |v::_=>[v]
structure zvz(base:Nat)(w:World)(r:Fl.RS)(m:Yb):Prop where
 wh:∀b,m.who b≠5->base<=b/\b<w.heap.size
 oc:w.ownsRow base 3 1 m.clv r.cellLv.length (Yn r.cellLv)
 tc:∀b,m.clv.ownBlock=some b->m.who b=3
 oh:w.ownsRow base 3 1 m.chv r.chanLv.length (Yn r.chanLv)
 th:∀b,m.chv.ownBlock=some b->m.who b=4
 pb:Yr 3 (λb=>m.who b=0) base w m.bv r.top (Vn m.gs)
 tb:∀b,m.bv.ownBlock=some b->m.who b=1
 fa:Vv m.who base w (3 - r.fr.length) [] r.fr m.gs
 oo:w.ownsRow base 353 1 m.ov r.fr.length ((m.gs.map λg=>ptr g.ob).reverse)
 to:∀b,m.ov.ownBlock=some b->m.who b=2
 la:r.begun=true->∃Lb,m.pl=ptr Lb/\m.who Lb=0/\Jr w Lb r.levels.length r.tab
structure Zr(lo base R Pb lm vm cm:Nat)(w0 w:World)(r:Fl.RS)(line:Int)(m:Yb):Prop where
 ok:RsOk r
 bel:Below lo w0 w
 fx:∀b,b<base->b≠R->b≠Pb->b≠lm->b≠vm->b≠cm->w.heap[b]?=w0.heap[b]?
 hlo:lo<=R/\lo<=Pb/\lo<=lm/\lo<=vm/\lo<=cm
 hba:R<base/\Pb<base/\lm<base/\vm<base/\cm<base/\base<=w.heap.size
 nd:R≠Pb/\R≠lm/\R≠vm/\R≠cm/\Pb≠lm/\Pb≠vm/\Pb≠cm/\lm≠vm/\lm≠cm/\vm≠cm
 cR:Ze w R 45 (Xd Pb lm vm cm line r m)
 cP:Ze w Pb 5 (rw_ [m.pl,m.clv,m.chv,Iq r.locals.length,m.bv])
 nl:Yx w lm r.levels
 nv:Yx w vm (r.cells++r.locals)
 nc:Yx w cm r.chans
 tab:∀i j,i<6->j<6->m.t i j=(decide (i<r.levels.length) && Fl.tab0 r.low r.high i j)
 re:zvz base w r m
def Yy{e:TypeId}{k:Nat}{xs:List Value}(h:w.ownsRow base e k v n xs)(hv:∀b,v.ownBlock=some b->w'.heap[b]?=w.heap[b]?):w'.ownsRow base e k v n xs:=by
 refine⟨h.1,?_⟩;rcases h.2 with⟨rfl,h0⟩|⟨g,cap,cur,rfl,hb,hg,hr⟩
 ·exact .inl ⟨rfl,h0⟩
 exact .inr ⟨g,cap,cur,rfl,hb,by rw[hv g rfl];exact hg,hr⟩
def zvz.kept{base:Nat}{w w':World}{r:Fl.RS}{m:Yb}(h:zvz base w r m)(hz:w.heap.size<=w'.heap.size)(qw:∀b,m.who b≠5->w'.heap[b]?=w.heap[b]?):zvz base w' r m:=
 {wh:=λb hw=>by have:=h.wh b hw;omega,oc:=Yy h.oc (λb hv=>qw b (by rw[h.tc b hv];decide)),tc:=h.tc,oh:=Yy h.oh (λb hv=>qw b (by rw[h.th b hv];decide)),th:=h.th,pb:=h.pb.kept (λ_ h=>h) (λb hv=>qw b (by rw[hv];decide)) (λb hv=>qw b (by rw[h.tb b hv];decide)),tb:=h.tb,fa:=h.fa.kept (λb hv=>⟨rfl,qw b (by omega)⟩),oo:=Yy h.oo (λb hv=>qw b (by rw[h.to b hv];decide)),to:=h.to,la:=λhg=>by obtain⟨Lb,l1,l2,l3⟩:=h.la hg;exact⟨Lb,l1,l2,l3.block (qw Lb (by rw[l2];decide))⟩}
section
variable{lo R lm vm cm:Nat}{w0:World}{r:Fl.RS}{line:Int}{m:Yb}
def Zr.below(h:Zr lo base R Pb lm vm cm w0 w r line m)(hb:Bq w w'):Zr lo base R Pb lm vm cm w0 w' r line m:=by
 obtain⟨b1,b2,b3,b4,b5,b6⟩:=h.hba;have hz:=hb.size;have q:∀b,b<w.heap.size->w'.heap[b]?=w.heap[b]?:=λb a0=>hb.block b a0;exact{ok:=h.ok,bel:=h.bel.trans (hb.mono (by have:=h.hlo;omega)),fx:=λb f1 f2 f3 f4 f5 f6=>(q b (by omega)).trans (h.fx b f1 f2 f3 f4 f5 f6),hlo:=h.hlo,hba:=⟨b1,b2,b3,b4,b5,by omega⟩,nd:=h.nd,cR:=h.cR.block (q _ (by omega)),cP:=h.cP.block (q _ (by omega)),nl:=h.nl.block (q _ (by omega)),nv:=h.nv.block (q _ (by omega)),nc:=h.nc.block (q _ (by omega)),tab:=h.tab,re:=h.re.kept hz (λb hw=>q b (h.re.wh b hw).2)}
def Zr.drew(h:Zr lo base R Pb lm vm cm w0 w r line m):Zr lo base R Pb lm vm cm w0 w.drew r line m:=h.below dA
end
end Go.Proofs.YtjekbnmnjeoagaaGreatDoor
namespace Go.Proofs.YtjekbnmnjeoagaaGreatDoor
open Go.Proofs.Tryz
variable{P:Program}{w w':World}{a:Act}{Q:Exit->Act->World->Prop}{id b n base Lb Pb:Nat}{l:List Oper}{names:List (List UInt8)}{S:Nat->Prop}{v:Value}{t:Fl.Tab}{e:Fl.Expr}{vs:List Int}
namespace Fl
def nd(x:List Node)(k:Int):Node:=nth x k.toNat
def role(k:Int):Nat:=if k<=2 then 0 else if k<=6 then 1 else 2
def vars(p:Prog)(ls:List Int):List Int:=p.cells.map (λ(x:Nat)=>(x:Int))++ls
def under(p:Prog)(a b:Int):Bool:=p.leq a.toNat b.toNat
def mayGo(p:Prog)(x:List Node)(n:Node)(lv:List Int):Bool:=
 decide (n.a<lv.length) && (decide (role (nd x n.b).kind=0) && (under p (nd x n.b).level (lv.getD n.a.toNat 0) && under p n.level (lv.getD n.a.toNat 0)))
def guards(p:Prog)(x:List Node)(n:Node)(w:Int):Bool:=
 decide (role (nd x n.a).kind=0) && (decide (role (nd x w).kind=2) && (under p (nd x n.a).level (nd x w).level && under p n.level (nd x w).level))
def ruleOf(p:Prog)(ls:List Int)(x:List Node)(n:Node):Bool:=
 if n.kind=0 then true
 else if n.kind=1 then decide (n.a<(vars p ls).length) && under p ((vars p ls).getD n.a.toNat 0) n.level
 else if n.kind=2 then decide (n.a<5) && (decide (role (nd x n.b).kind=0) && (decide (role (nd x n.c).kind=0) && (under p (nd x n.b).level n.level && under p (nd x n.c).level n.level)))
 else if n.kind=3 then mayGo p x n (vars p ls)
 else if n.kind=4 then mayGo p x n (p.chans.map λ(y:Nat)=>(y:Int))
 else if n.kind=5 then guards p x n n.b && guards p x n n.c
 else if n.kind=6 then guards p x n n.b
 else n.list.all λk=>decide (role (nd x k).kind=1) && under p n.level (nd x k).level
def follows(p:Prog)(ls:List Int)(x:List Node)(n:Node):Bool:=decide (n.level<p.n) && ruleOf p ls x n
def ofAtom(x:List Node)(k:Int)(a:Atom):Bool:=decide ((nd x k).kind=if a.var then 1 else 0) && decide ((nd x k).a=a.v)
def ofExpr(x:List Node)(k:Int)(e:Expr):Bool:=
 if e.op<0 then ofAtom x k e.a else decide ((nd x k).kind=2) && (decide ((nd x k).a=e.op) && (ofAtom x (nd x k).b e.a && ofAtom x (nd x k).c e.b))
def ofOne(K:Int->List Stmt->Bool)(x:List Node)(k:Int)(s:Stmt):Bool:=
  decide ((nd x k).kind=s.kind) &&
  (if s.kind=5 then ofExpr x (nd x k).a s.e && (K (nd x k).b s.body && K (nd x k).c s.other)
   else if s.kind=6 then ofExpr x (nd x k).a s.e && K (nd x k).b s.body
   else decide ((nd x k).a=s.x) && ofExpr x (nd x k).b s.e)
def ofAll:Nat->List Node->Int->List Stmt->Bool
 |0,x,k,l=>decide ((nd x k).kind=7) && (decide ((nd x k).list=[]) && decide (l=[]))
 |d+1,x,k,l=>decide ((nd x k).kind=7) && (decide ((nd x k).list.length=l.length) && (List.range l.length).all λi=>ofOne (ofAll d x) x ((nd x k).list.getD i 0) (l.getD i noS))
def check(p:Prog)(ls:List Int)(x:List Node):Nat×Int:=
 if ls.length≠p.locals\/(ls.any λv=>decide ((p.n:Int)<=v))=true then(10,-1)
 else match (List.range x.length).find? (λk=> !follows p ls x (nth x k)) with
  |some k=>(9,(k:Int))
  |none=>if ofAll 4 x ((x.length:Int) - 1) p.body then(0,-1) else(10,-1)
end Fl
namespace Fl
def jn(p:Prog)(a b:Int):Int:=join p.n p.leq a.toNat b.toNat
def low(p:Prog):Int:=(bottom p.n p.leq:Int)
def atomLv(p:Prog)(vs:List Int)(a:Atom):Int:=if a.var then vs.getD a.v 0 else low p
def valLv(p:Prog)(vs:List Int)(e:Expr):Int:=if e.op<0 then atomLv p vs e.a else jn p (atomLv p vs e.a) (atomLv p vs e.b)
def movesOne(K:List Stmt->Int->List (Stmt×Int))(p:Prog)(vs:List Int)(u:Int)(s:Stmt):List (Stmt×Int):=
 if s.kind=3\/s.kind=4 then [(s,jn p u (valLv p vs s.e))]
 else if s.kind=5\/s.kind=6 then K s.body (jn p u (valLv p vs s.e))++K s.other (jn p u (valLv p vs s.e)) else []
def moves(p:Prog)(vs:List Int):Nat->List Stmt->Int->List (Stmt×Int)
 |0,_,_=>[]
 |d+1,l,u=>l.flatMap (movesOne (moves p vs d) p vs u)
def fitsM(p:Prog)(vs:List Int)(m:Stmt×Int):Bool:=under p m.2 ((if m.1.kind=4 then p.chans.map (λ(x:Nat)=>(x:Int)) else vs).getD m.1.x 0)
def ofLocal(p:Prog)(s:Stmt):Bool:=decide (s.kind=3) && decide (p.cells.length<=s.x)
def rise(p:Prog)(vs:List Int):Option (List Int):=
 match (moves p vs 4 p.body (low p)).find? (λm=>ofLocal p m.1 && !fitsM p vs m) with
 |some m=>some (vs.set m.1.x (jn p (vs.getD m.1.x 0) m.2))
 |none=>none
def raise(p:Prog):Nat->List Int->List Int
 |0,vs=>vs
 |f+1,vs=>match rise p vs with
  |some vs'=>raise p f vs'
  |none=>vs
def firstDown(p:Prog)(vs:List Int):Nat:=
 match (moves p vs 4 p.body (low p)).find? (λm=> !fitsM p vs m) with
 |some m=>m.1.line
 |none=>0
def put1(ws:List Node)(n:Node):Int×List Node:=
 match (List.range ws.length).find? (λi=>eqNode (nth ws i) n) with
 |some i=>((i:Int),ws)
 |none=>((ws.length:Int),ws++[n])
def wAtom(p:Prog)(vs:List Int)(ws:List Node)(a:Atom):Int×List Node:=
 put1 ws ⟨if a.var then 1 else 0,atomLv p vs a,a.v,0,0,[]⟩
def wVal(p:Prog)(vs:List Int)(ws:List Node)(e:Expr):Int×List Node:=
 if e.op<0 then wAtom p vs ws e.a
 else put1 (wAtom p vs (wAtom p vs ws e.a).2 e.b).2 ⟨2,valLv p vs e,e.op,(wAtom p vs ws e.a).1,(wAtom p vs (wAtom p vs ws e.a).2 e.b).1,[]⟩
def wStmt(K:List Node->List Stmt->Int->Int×List Node)(p:Prog)(vs:List Int)(u:Int)(ws:List Node)(s:Stmt):Int×List Node:=
 let v:=wVal p vs ws s.e
 let l:=jn p u (valLv p vs s.e)
 if s.kind=5 then put1 (K (K v.2 s.body l).2 s.other l).2 ⟨5,u,v.1,(K v.2 s.body l).1,(K (K v.2 s.body l).2 s.other l).1,[]⟩
 else if s.kind=6 then put1 (K v.2 s.body l).2 ⟨6,u,v.1,(K v.2 s.body l).1,0,[]⟩
 else put1 v.2 ⟨s.kind,u,s.x,v.1,0,[]⟩
def wAll(W:List Node->Stmt->Int×List Node):List Node->List Stmt->List Int×List Node
 |ws,[]=>([],ws)
 |ws,s::l=>((W ws s).1::(wAll W (W ws s).2 l).1,(wAll W (W ws s).2 l).2)
def wBlock(p:Prog)(vs:List Int):Nat->List Node->List Stmt->Int->Int×List Node
 |0,ws,_,u=>put1 ws ⟨7,u,0,0,0,[]⟩
 |d+1,ws,l,u=>put1 (wAll (wStmt (wBlock p vs d) p vs u) ws l).2 ⟨7,u,0,0,0,(wAll (wStmt (wBlock p vs d) p vs u) ws l).1⟩
def start(p:Prog):List Int:=vars p (List.replicate p.locals (low p))
def found(p:Prog):List Int:=raise p 25 (start p)
def infer(p:Prog):Nat×List Int×List Node:=
 if 0<firstDown p (found p) then(firstDown p (found p),[],[])
 else(0,(found p).drop p.cells.length,(wBlock p (found p) 4 [] p.body (low p)).2)
def inferred(s:List UInt8):Nat×Int×List UInt8:=
 if(readProg s).1≠0 then((readProg s).1,((readProg s).2.1:Int),[])
 else if 0<(infer (readProg s).2.2).1 then(7,((infer (readProg s).2.2).1:Int),[])
 else(0,-1,(encode (infer (readProg s).2.2).2.1 (infer (readProg s).2.2).2.2).1)
end Fl
open Go.RowKit
section
def zu5(h:Jr w Lb n t):Cq 134 #[Pq Lb] w λe w'=>e=.returned (Iq (Fl.bottom n t))/\w'=w:=by
 have c0:=h.cl;clear h
 go_enter func134,ntmps134
 go_wp2;go_ret;exact⟨rfl,rfl⟩
def zrw(h:Jr w Lb n t)(hn:n<=6)(a b:Nat)(ha:a<n)(hb:b<n):Cq 138 #[Pq Lb,Iq a,Iq b] w λe w'=>e=.returned (Iq (Fl.join n t a b))/\w'=w:=by
 have c:=h.cj a b ha hb
 have a0:(a:Int)<6:=by omega
 have b0:(b:Int)<6:=by omega
 have e:37+6*a+b=37+a*6+b:=by omega
 rw[e]at c;clear h e
 go_enter func138,ntmps138
 go_wp2;go_ret;exact⟨rfl,rfl⟩
def yq2(h:Jr w Lb n t)(hn:n<=6)(a b:Nat)(ha:a<n)(hb:b<n):Cq 201 #[Pq Lb,Iq a,Iq b] w λe w'=>e=.returned (.bool (t a b))/\w'=w:=by
 have c:=h.cu a b ha hb
 have a0:(a:Int)<6:=by omega
 have b0:(b:Int)<6:=by omega
 have e:1+6*a+b=1+a*6+b:=by omega
 rw[e]at c;clear h e
 go_enter func201,ntmps201
 go_wp2;go_ret;exact⟨rfl,rfl⟩
end
namespace Fl
structure Prog.Lv(p:Prog):Prop where
 n6:p.n<=6
 lat:Lat p.n p.leq
 ce:∀y∈p.cells,y<p.n
 ch:∀y∈p.chans,y<p.n
def LvOk(p:Prog)(vs:List Int):Prop:=vs.length=p.cells.length+p.locals/\∀i,i<vs.length->0<=vs.getD i 0/\vs.getD i 0<p.n
def Prog.Lv.low{p:Prog}(h:p.Lv):0<=low p/\low p<p.n:=by
 have:=(bottom_low h.lat).1;unfold Fl.low;omega
def Prog.Lv.join{p:Prog}(h:p.Lv){a b:Nat}(ha:a<p.n)(hb:b<p.n):∃k,k<p.n/\Fl.join p.n p.leq a b=(k:Int):=by
 obtain⟨k,h1,h2,_⟩:=h.lat.joins a b ha hb;exact⟨k,h1,h2⟩
def Prog.Lv.jn{p:Prog}(h:p.Lv){a b:Int}(ha:0<=a/\a<p.n)(hb:0<=b/\b<p.n):0<=Fl.jn p a b/\Fl.jn p a b<p.n:=by
 obtain⟨k,h1,h2⟩:=h.join (a:=a.toNat) (b:=b.toNat) (by omega) (by omega);unfold Fl.jn;rw[h2];omega
end Fl
structure LvIn(w:World)(Pb Lb:Nat)(p:Fl.Prog):Prop where
 hz:Pb<w.heap.size/\Lb<w.heap.size
 p0:w.cell? (Aq Pb 0)=some (Pq Lb)
 la:Jr w Lb p.n p.leq
 lv:p.Lv
def LvIn.below{p:Fl.Prog}(h:LvIn w Pb Lb p)(hb:Bq w w'):LvIn w' Pb Lb p:=
 ⟨⟨Qj h.hz.1 hb.size,Qj h.hz.2 hb.size⟩,(hb.cell (p:=(Aq Pb 0)) h.hz.1).trans h.p0,h.la.block (hb.block _ h.hz.2),h.lv⟩
def zy5(vs:List Int)(a:Fl.Atom):Prop:=a.var=true->a.v<vs.length
def yq3(vs:List Int)(e:Fl.Expr):Prop:=zy5 vs e.a/\(0<=e.op->zy5 vs e.b)
def zwz(h:Fl.ExprOk vs.length e):yq3 vs e:=by
 obtain⟨-,-,h1,h2⟩:=h;unfold Fl.AtomOk at h1 h2;exact⟨λhv=>by rwa [if_pos hv]at h1,λ_ hv=>by rwa [if_pos hv]at h2⟩
def zvy{B:Nat}{l:List Int}(h:Zw B w v l){i:Nat}(hi:i<l.length):∃b off cap,v=.slice (some (Aq b off)) l.length cap/\l.length<=cap/\l.length<=maxLen/\b<B/\w.cell? (Aq b (off+i))=some (Iq (l.getD i 0)):=by
 obtain⟨ao,cap,rfl,h1,h2,h3⟩:=h;obtain⟨b,off,rfl,hb,hc⟩:=h3 (by intro e;rw[e]at hi;cases hi);exact⟨b,off,cap,rfl,h1,h2,hb,hc i hi⟩
section
variable{p:Fl.Prog}{vv:Value}
def zt1(h:LvIn w Pb Lb p)(vi:Zw w.heap.size w vv vs){a:Fl.Atom}(ha:Xn S w v a)(ho:zy5 vs a):
  Cq 257 #[Pq Pb,v,vv] w λe w'=>e=.returned (Iq (Fl.atomLv p vs a))/\Bq w w':=by
 obtain⟨vb,rfl,-,hc⟩:=ha;have c0:w.cell? (Aq vb 0)=some (Iq (if a.var then 1 else 0)):=hc.c 0 (by omega);have c1:w.cell? (Aq vb 1)=some (Iq a.v):=hc.c 1 (by omega);have a0:vb<w.heap.size:=hc.lt (by omega);have p0:=h.p0;obtain⟨hP,hL⟩:=h.hz;have HL:Hid (∀W,Bq w W->Cq 134 #[Pq Lb] W λe w'=>e=.returned (Iq (Fl.bottom p.n p.leq))/\w'=W):=λW hW=>zu5 (h.below hW).la;unfold ptr
 cases hv:a.var
 ·rw[hv]at c0
  have HR:Hid (Fl.atomLv p vs a=(Fl.bottom p.n p.leq:Int)):=(by show _=_;unfold Fl.atomLv Fl.low;rw[hv];rfl);rw[HR.out];clear HR h vi ho hc hv
  go_enter func257,ntmps257
  go_wp2_with (go_at_call 134;refine(HL.out _ (Below.refl _ _)).mono ?_;rintro e w1 ⟨rfl,rfl⟩)
  go_ret;exact⟨rfl,Below.refl _ _⟩
 rw[hv]at c0;obtain⟨b,off,cap,rfl,k1,k2,k3,k4⟩:=zvy vi (ho hv)
 have HR:Hid (Fl.atomLv p vs a=vs.getD a.v 0):=by show _=_;unfold Fl.atomLv;rw[hv];rfl
 have k5:(a.v:Int)<(vs.length:Int):=by have:=ho hv;omega
 rw[HR.out];clear HR h vi ho hc hv HL
 go_enter func257,ntmps257
 go_wp2;go_ret;exact⟨rfl,Below.refl _ _⟩
def zzy(h:p.Lv)(hv:∀i,i<vs.length->0<=vs.getD i 0/\vs.getD i 0<p.n){a:Fl.Atom}(ho:zy5 vs a):∃k:Nat,k<p.n/\Fl.atomLv p vs a=(k:Int):=by
 unfold Fl.atomLv
 cases hb:a.var
 ·exact⟨(Fl.low p).toNat,by have:=h.low;omega,by have:=h.low;simp;omega⟩
 have:=hv a.v (ho hb);exact⟨(vs.getD a.v 0).toNat,by omega,by simp only[if_true];omega⟩
def yzw(h:LvIn w Pb Lb p)(vi:Zw w.heap.size w vv vs)(hv:∀i,i<vs.length->0<=vs.getD i 0/\vs.getD i 0<p.n)(hS:∀b,S b->b<w.heap.size)(he:zw9 S w v e)(ho:yq3 vs e):
  Cq 257 #[Pq Pb,v,vv] w λr w'=>r=.returned (Iq (Fl.valLv p vs e))/\Bq w w':=by
 rcases he with⟨h1,h2⟩|⟨h1,vb,x,y,rfl,h3,h4,h5,h6⟩
 ·have e1:Fl.valLv p vs e=Fl.atomLv p vs e.a:=by unfold Fl.valLv;rw[if_pos (by omega)]
  rw[e1];exact zt1 h vi h2 ho.1
 obtain⟨la,d0,ela⟩:=zzy h.lv hv ho.1;obtain⟨lb,hlb,elb⟩:=zzy h.lv hv (ho.2 h1)
 have e1:Fl.valLv p vs e=Fl.join p.n p.leq la lb:=by unfold Fl.valLv Fl.jn;rw[if_neg (by omega),ela,elb,Int.toNat_natCast,Int.toNat_natCast]
 rw[e1];have c0:w.cell? (Aq vb 0)=some (Iq 2):=h4.c 0 (by omega);have c2:w.cell? (Aq vb 2)=some x:=h4.c 2 (by omega);have c3:w.cell? (Aq vb 3)=some y:=h4.c 3 (by omega);have e0:vb<w.heap.size:=hS vb h3;obtain⟨hP,hL⟩:=h.hz;have p0:=h.p0;have HS:Hid (∀W,Bq w W->W.cell? (Aq Pb 0)=some (Pq Lb)/\W.cell? (Aq vb 2)=some x/\W.cell? (Aq vb 3)=some y):=λW hW=>⟨(hW.cell (p:=(Aq Pb 0)) hP).trans p0,(hW.cell (p:=(Aq vb 2)) e0).trans c2,(hW.cell (p:=(Aq vb 3)) e0).trans c3⟩
 have HA:Hid (∀W,Bq w W->Cq 257 #[Pq Pb,x,vv] W λr w'=>r=.returned (Iq (la:Nat))/\Bq W w'):=λW hW=>by
  have:=zt1 (h.below hW) ((vi.below hW).mono hW.size) (h5.kept (λ_ h=>h) (λb hb=>hW.block b (hS b hb))) ho.1;rw[ela]at this;exact this
 have HB:Hid (∀W,Bq w W->Cq 257 #[Pq Pb,y,vv] W λr w'=>r=.returned (Iq (lb:Nat))/\Bq W w'):=λW hW=>by
  have:=zt1 (h.below hW) ((vi.below hW).mono hW.size) (h6.kept (λ_ h=>h) (λb hb=>hW.block b (hS b hb))) (ho.2 h1);rw[elb]at this;exact this
 have HJ:Hid (∀W,Bq w W->Cq 138 #[Pq Lb,Iq la,Iq lb] W λr w'=>r=.returned (Iq (Fl.join p.n p.leq la lb))/\w'=W):=λW hW=>zrw (h.below hW).la h.lv.n6 la lb d0 hlb;generalize Fl.join p.n p.leq la lb=res at*;clear h vi hv hS h1 h3 h4 h5 h6 ela elb e1 d0 hlb ho;unfold ptr
 go_enter func257,ntmps257
 go_wp2_with fail
 refine zw2 HS dA [(0,0),(0,1),(0,2),(0,3),(0,4),(0,5),(0,6),(0,7),(0,8),(0,9),(0,11),(0,12),(0,13),(0,14),(0,15),(0,16),(1,10),(1,17),(1,18),(0,19)] [] [] (by kernel_rfl) (λc a d v w h=>by cases d<;>exact h) (λops _=>?_)
 iterate 16 refine Zs rfl (by rintro _ ⟨_,_,_⟩;go_simp<;>rfl) (by go_simp<;>rfl) ?_
 refine Zu ?_
 go_wp2_with fail
 refine(HA.out _ dA).mono ?_;rintro e1 W1 ⟨rfl,f0⟩;have a0:Hid (Bq w W1):=dA.trans f0;clear f0
 go_wp2_with fail
 refine⟨HS.out _ a0.out,?_⟩;refine Zu ?_
 go_wp2_with fail
 refine(HB.out _ a0.out).mono ?_;rintro e2 W2 ⟨rfl,g0⟩;have b0:Hid (Bq w W2):=a0.out.trans (g0.mono a0.out.size);clear g0
 go_wp2_with fail
 refine⟨HS.out _ b0.out,?_⟩;refine Zu ?_
 go_wp2_with fail
 refine(HJ.out _ b0.out).mono ?_;rintro e3 W3 ⟨rfl,rfl⟩
 go_wp2_with fail
 refine⟨HS.out _ b0.out,?_⟩;refine Zs rfl (by rintro _ ⟨_,_,_⟩;go_simp<;>rfl) (by go_simp<;>rfl) ?_;refine Zl ?_;go_wp2;go_ret;exact⟨rfl,b0.out⟩
end
def Uv(G:List (Nat×Nat))(hm:P.follows .mixedOrders=true)(hB:Region.lexB .any l.toArray=true)(hg:(G.all λg=>((l.toArray[g.1]?).bind λx=>x.dst)==some g.2)=true)
  (h:∀ops:Array Oper,(∀g∈G,((ops[g.1]?).bind λx=>x.dst)=some g.2)->wpStill P ops w.drew (λa'=>Q .normal a' w.drew) l a):(Code.region id l.toArray true).wp P Q a w:=
 wp_region_still_lit hm hB (h _ λg hgm=>by have:=List.all_eq_true.1 hg g hgm;simpa using this)
def At(W:World):List (Addr×Value)->Prop
 |[]=>True
 |q::l=>(q.1.block<W.heap.size/\W.cell? q.1=some q.2)/\At W l
def At.below{W W':World}(hb:Bq W W'):∀{l:List (Addr×Value)},At W l->At W' l
 |[],_=>trivial
 |_::_,⟨⟨h1,h2⟩,h3⟩=>⟨⟨Qj h1 hb.size,(hb.cell h1).trans h2⟩,At.below hb h3⟩
def At.node{W:World}{l:List (Addr×Value)}(h:At W l)(k lv a b c:Int)(v:Value)(T:TypeId)(N:Nat)(hN:W.heap.size=N):At (W.alloc (.cells #[Iq k,Iq lv,Iq a,Iq b,Iq c,v] T)) (((Aq N 0),Iq k)::((Aq N 1),Iq lv)::((Aq N 2),Iq a)::((Aq N 3),Iq b)::((Aq N 4),Iq c)::((Aq N 5),v)::l):=by
 subst hN;exact⟨⟨by simp,by simp⟩,⟨by simp,by simp⟩,⟨by simp,by simp⟩,⟨by simp,by simp⟩,⟨by simp,by simp⟩,⟨by simp,by simp⟩,h.below (bA)⟩
end Go.Proofs.YtjekbnmnjeoagaaGreatDoor
