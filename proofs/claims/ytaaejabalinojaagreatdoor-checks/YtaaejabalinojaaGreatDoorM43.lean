import Derived.Test.YtaaejabalinojaaGreatDoorM01
import Derived.Test.YtaaejabalinojaaGreatDoorM18
import Derived.Test.YtaaejabalinojaaGreatDoorM36
import Derived.Test.YtaaejabalinojaaGreatDoorM42
import Derived.Lib.ConvBytes
import Derived.Laws.IdiomStrings
import Derived.Test.YtaaejabalinojaaGreatDoorTie
import Derived.Test.YtaaejabalinojaaGreatDoorCards
import Derived.SevenTiedAt
import Derived.ChangeSlices
import Derived.SizedLaws
import Derived.Carry
import Derived.HandedShaped
import Derived.Shelf.Vars
import Derived.Lib.LaidTab
import Derived.LaidMore
set_option linter.all false
set_option maxRecDepth 100000
set_option maxHeartbeats 40000000
namespace Go.Proofs.YtaaejabalinojaaGreatDoor
open Go.RowKit Go.Proofs.Tryz
def RdIn(n:Nat)(V:World)(q:Nat×Nat×Fl.Prog)(e:Ending)(w':World):Prop:=
 Below n V w'/\n+8<=w'.heap.size/\w'.heap[n+7]?=V.heap[n+7]?/\w'.heap[n+6]?=V.heap[n+6]?/\
 ((q.1=0/\e=.returned (.tuple #[])/\zy0 (λb=>(n<=b/\b≠n+7)/\b<w'.heap.size) w' (n+1) q.2.2/\w'.cell? ⟨n+5,0,none⟩=some (ptr (n+1)))\/(q.1≠0/\e=.panicked (Zf q.1 q.2.1)))
def zgx(l:List UInt8)(h:¬1200<l.length):Fl.readProg l=((Fl.rows Fl.RS.zero 0 (Fl.cutR 10 l)).1,(Fl.rows Fl.RS.zero 0 (Fl.cutR 10 l)).2.1,(Fl.rows Fl.RS.zero 0 (Fl.cutR 10 l)).2.2.prog):=by
 unfold Fl.readProg;rw[if_neg h]
def zc7(l:List UInt8)(h:1200<l.length):Fl.readProg l=(1,0,Fl.RS.zero.prog):=by
 unfold Fl.readProg;rw[if_pos h]
def rd_text{w:World}{l:List UInt8}{V:World}(hV:V=(rdW w l).alloc (.cells #[.nilIface] 39))(hl:l.length<=100000)(hg:1<w.heap.size)(hm:Xs w):
  Calls prog 44 #[.pointer (some ⟨w.heap.size+5,0,none⟩),.string ⟨l.toArray⟩] V (RdIn w.heap.size V (Fl.readProg l)):=by
 have hz:=zlz w l
 have g0:V.heap.size=w.heap.size+8:=by rw[hV];simp[hz]
 have b0:Below (rdW w l).heap.size (rdW w l) V:=by rw[hV];exact bA
 have hB:Below w.heap.size w V:=(ze5 w l).trans (b0.mono (by omega));obtain⟨k0,k1,k2,k3,k4,k5,k6⟩:=zq8 w l;have q:∀k,k<w.heap.size+7->V.heap[k]?=(rdW w l).heap[k]?:=λk hk=>b0.block k (by omega)
 by_cases hs:1200<l.length
 ·rw[zc7 l hs]
  refine(yow _ l hs hl V).mono ?_;rintro e w' ⟨rfl,hb⟩;have hz':=hb.size;exact⟨hb.mono (by omega),by omega,hb.block _ (by omega),hb.block _ (by omega),.inr ⟨Nat.succ_ne_zero _,rfl⟩⟩
 rw[zgx l hs]
 have hR:Zd V (w.heap.size+5) 45 (Xa (w.heap.size+1) (w.heap.size+2) (w.heap.size+3) (w.heap.size+4) 0 Fl.RS.zero mem0):=
  ⟨λj hj=>(cell_of_row V _ j _ _ (0,0) ((q _ (by omega)).trans k5)).trans (yj0 _ j hj),λj=>(Qd (a:=⟨w.heap.size+5,j,none⟩) (q (w.heap.size+5) (by omega))).trans (by simp[World.frozen?,k5])⟩
 have hP:Zd V (w.heap.size+1) 5 (rw_ [.pointer none,.slice none 0 0,.slice none 0 0,.int .i64 0,.slice none 0 0]):=
  ⟨λj hj=>(cell_of_row V _ j _ _ (0,0) ((q _ (by omega)).trans k1)).trans (by rcases(show j=0\/j=1\/j=2\/j=3\/j=4 by omega) with rfl|rfl|rfl|rfl|rfl<;>rfl),λj=>(Qd (a:=⟨w.heap.size+1,j,none⟩) (q (w.heap.size+1) (by omega))).trans (by simp[World.frozen?,k1])⟩
 have hm':Xs V:=by
  obtain⟨x,hx⟩:=hm;exact⟨x,(hB.cell (p:=⟨1,0,none⟩) hg).trans hx⟩
 have ht:=ykv (lo:=w.heap.size) (R:=w.heap.size+5) (Pb:=w.heap.size+1) (lm:=w.heap.size+2) (vm:=w.heap.size+3) (cm:=w.heap.size+4) (w:=V) (by omega) (by omega) (by omega) hR hP (Yu.fresh ((q _ (by omega)).trans k2)) (Yu.fresh ((q _ (by omega)).trans k3)) (Yu.fresh ((q _ (by omega)).trans k4)) hg hm' l (by omega);refine ht.mono ?_;have a0:=ze3 V (w.heap.size+5);have i0:=zax V (w.heap.size+5);rintro e w' (⟨h0,rfl,d0,e0,ln,m,hp⟩|⟨h0,rfl,c0,f0⟩)
 ·have hba:=hp.hba
  have f:∀k,k=w.heap.size+6\/k=w.heap.size+7->w'.heap[k]?=V.heap[k]?:=λk hk=>(hp.fx k (by omega) (by omega) (by omega) (by omega) (by omega) (by omega)).trans (a0.block k (by omega));refine⟨(a0.mono (by omega)).trans hp.bel,by omega,f _ (by omega),f _ (by omega),.inl ⟨h0,rfl,?_,hp.cR.c 0 (by omega)⟩⟩;exact(hp.prog d0 e0).kept (λb hb=>by have:=hb.1;have:=hb.2;omega) (λ_ _=>rfl)
 have f:∀k,k=w.heap.size+6\/k=w.heap.size+7->w'.heap[k]?=V.heap[k]?:=λk hk=>(f0 k (by omega) (by omega) (by omega) (by omega) (by omega) (by omega)).trans (a0.block k (by omega));exact⟨(a0.mono (by omega)).trans c0,by have:=c0.size;omega,f _ (by omega),f _ (by omega),.inr ⟨h0,rfl⟩⟩
def do_read{w:World}{l:List UInt8}{V:World}(hV:V=(rdW w l).alloc (.cells #[.nilIface] 39))(hl:l.length<=100000)(hg:1<w.heap.size)(hm:Xs w):
  Calls prog 43 #[.pointer (some ⟨w.heap.size+6,0,none⟩),.pointer (some ⟨w.heap.size,0,none⟩)] V (RdIn w.heap.size V (Fl.readProg l)):=by
 have HT:Hid (Calls prog 44 #[.pointer (some ⟨w.heap.size+5,0,none⟩),.string ⟨l.toArray⟩] V (RdIn w.heap.size V (Fl.readProg l))):=rd_text hV hl hg hm;obtain⟨k0,k1,k2,k3,k4,k5,k6⟩:=zq8 w l;have hz:=zlz w l
 have q:∀k,k<w.heap.size+7->V.heap[k]?=(rdW w l).heap[k]?:=λk hk=>by rw[hV];exact Below.heap_alloc _ _ _ (by omega)
 have c6:V.cell? ⟨w.heap.size+6,0,none⟩=some (.pointer (some ⟨w.heap.size+5,0,none⟩)):=cell_of_row V _ 0 _ _ (0,0) ((q _ (by omega)).trans k6);have c0:V.cell? ⟨w.heap.size,0,none⟩=some (.string ⟨l.toArray⟩):=cell_of_row V _ 0 _ _ (0,0) ((q _ (by omega)).trans k0);obtain⟨res,a0⟩:=nmE (Fl.readProg l);rw[<-a0]at HT⊢;clear hV k0 k1 k2 k3 k4 k5 k6 hz q a0 hl hg hm
 go_enter func43,ntmps43
 go_wp2_with fail
 refine HT.out.mono ?_;rintro e W ⟨h1,h2,h3,h4,⟨h5,rfl,h6⟩|⟨h5,rfl⟩⟩
 ·have HE:Hid (RdIn w.heap.size V res (.returned (.tuple #[])) W):=⟨h1,h2,h3,h4,.inl ⟨h5,rfl,h6⟩⟩
  clear h1 h2 h3 h4 h5 h6 HT c0 c6;go_wp2
  go_end0
  exact HE.out
 exact⟨rfl,h1,h2,h3,h4,.inr ⟨h5,rfl⟩⟩
def zp1(q:Nat×Nat×Fl.Prog)(w:World)(e:Ending)(w':World):Prop:=
  Below w.heap.size w w'/\
  ((q.1=0/\∃Pb,e=.returned (.tuple #[.pointer (some ⟨Pb,0,none⟩),.nilIface])/\zy0 (λb=>w.heap.size<=b/\b<w'.heap.size) w' Pb q.2.2)\/
   (q.1≠0/\∃a,e=.returned (.tuple #[.pointer none,.iface 65 (.pointer (some ⟨a,0,none⟩))])/\w'.cell? ⟨a,0,none⟩=some (.int .i64 q.1)/\w'.cell? ⟨a,1,none⟩=some (.int .i64 q.2.1)))
def yl0(q:Nat×Nat×Fl.Prog)(w:World)(e:Ending)(w':World):Prop:=
  Below w.heap.size w w'/\
  ((q.1=0/\e=.returned .nilIface/\w'.cell? ⟨w.heap.size+6,0,none⟩=some (.pointer (some ⟨w.heap.size+5,0,none⟩))/\w'.cell? ⟨w.heap.size+5,0,none⟩=some (.pointer (some ⟨w.heap.size+1,0,none⟩))/\zy0 (λb=>w.heap.size<=b/\b<w'.heap.size) w' (w.heap.size+1) q.2.2)\/
   (q.1≠0/\∃a,e=.returned (.iface 65 (.pointer (some ⟨a,0,none⟩)))/\w'.cell? ⟨a,0,none⟩=some (.int .i64 q.1)/\w'.cell? ⟨a,1,none⟩=some (.int .i64 q.2.1)))
def yp0{w:World}{l:List UInt8}(hl:l.length<=100000)(hg:1<w.heap.size)(hm:Xs w):
  Calls prog 42 #[.func (.func 43) #[] #[.pointer (some ⟨w.heap.size+6,0,none⟩),.pointer (some ⟨w.heap.size,0,none⟩)]] (rdW w l) (yl0 (Fl.readProg l) w):=by
 have hd:=do_read (w:=w) (l:=l) rfl hl hg hm;have hz:=zlz w l;have hc:=ze4 43 #[.pointer (some ⟨w.heap.size+6,0,none⟩),.pointer (some ⟨w.heap.size,0,none⟩)] (rdW w l) (λw'=>RdIn w.heap.size ((rdW w l).alloc (.cells #[.nilIface] 39)) (Fl.readProg l) (.returned (.tuple #[])) w') (λn pl w'=>n=((Fl.readProg l).1:Int)/\pl=((Fl.readProg l).2.1:Int)/\RdIn w.heap.size ((rdW w l).alloc (.cells #[.nilIface] 39)) (Fl.readProg l) (.panicked (Zf n pl)) w') (λW=>by kernel_rfl);rw[hz]at hc;have a0:((rdW w l).alloc (.cells #[.nilIface] 39)).heap[w.heap.size+7]?=some (.cells #[.nilIface] 39):=by
  have:=heap_alloc_last (rdW w l) (.cells #[.nilIface] 39);rw[hz]at this;exact this
 have b0:Below w.heap.size w ((rdW w l).alloc (.cells #[.nilIface] 39)):=(ze5 w l).alloc (by omega) _;obtain⟨k0,k1,k2,k3,k4,k5,k6⟩:=zq8 w l;have k6':((rdW w l).alloc (.cells #[.nilIface] 39)).heap[w.heap.size+6]?=some (.cells #[.pointer (some ⟨w.heap.size+5,0,none⟩)] 109):=(Below.heap_alloc _ _ _ (by omega)).trans k6;refine(hc (hd.mono ?_)).mono ?_
 ·rintro e w' ⟨h1,h2,h3,h4,h5⟩
  refine⟨cell_of_row _ _ 0 _ _ (0,0) (h3.trans a0),by rw[World.frozen?,h3,a0];simp,?_⟩;rcases h5 with⟨h5,rfl,h6⟩|⟨h5,rfl⟩
  ·exact .inl ⟨rfl,h1,h2,h3,h4,.inl ⟨h5,rfl,h6⟩⟩
  exact .inr ⟨_,_,rfl,rfl,rfl,h1,h2,h3,h4,.inr ⟨h5,rfl⟩⟩
 have f:∀(u:World) (v:Value) (k:Nat),k≠w.heap.size+7->(u.setCell ⟨w.heap.size+7,0,none⟩ v).heap[k]?=u.heap[k]?:=λu v k hk=>Zx _ _ _ _ _ hk;rintro e wz (⟨w1,rfl,⟨h1,h2,h3,h4,h5⟩,rfl⟩|⟨n,pl,w1,o,rfl,⟨rfl,rfl,h1,h2,h3,h4,h5⟩,rfl⟩)
 ·rcases h5 with⟨h5,-,h6,h7⟩|⟨h5,h6⟩
  ·refine⟨(b0.trans h1).setCell (show w.heap.size<=w.heap.size+7 by omega) _,.inl ⟨h5,rfl,?_,?_,?_⟩⟩
   ·exact(Qc (a:=⟨w.heap.size+6,0,none⟩) ((f _ _ (w.heap.size+6) (by omega)).trans h4)).trans (cell_of_row _ _ 0 _ _ (0,0) k6')
   ·exact(Qc (a:=⟨w.heap.size+5,0,none⟩) (f _ _ (w.heap.size+5) (by omega))).trans h7
   refine h6.kept (λb hb=>?_) (λb hb=>f _ _ _ hb.1.2);rw[Zy];exact⟨hb.1.1,hb.2⟩
  cases h6
 rcases h5 with⟨h5,h6,-⟩|⟨h5,-⟩
 ·cases h6
 have hq:∀v,(((w1.alloc o).alloc (.cells #[.int .i64 ((Fl.readProg l).1:Int),.int .i64 ((Fl.readProg l).2.1:Int)] 69)).setCell ⟨w.heap.size+7,0,none⟩ v).heap[w1.heap.size+1]?=some (.cells #[.int .i64 ((Fl.readProg l).1:Int),.int .i64 ((Fl.readProg l).2.1:Int)] 69):=λv=>by
  rw[f _ _ _ (by omega)];have:=heap_alloc_last (w1.alloc o) (.cells #[.int .i64 ((Fl.readProg l).1:Int),.int .i64 ((Fl.readProg l).2.1:Int)] 69);simpa using this
 refine⟨(((b0.trans h1).alloc (by omega) _).alloc (by simp;omega) _).setCell (show w.heap.size<=w.heap.size+7 by omega) _,.inr ⟨h5,_,rfl,?_,?_⟩⟩
 ·exact cell_of_row _ _ 0 _ _ (0,0) (hq _)
 exact cell_of_row _ _ 1 _ _ (0,0) (hq _)
def yl1{w:World}{l:List UInt8}(hl:l.length<=100000)(hg:1<w.heap.size)(hm:Xs w):
  Calls prog 22 #[.string ⟨l.toArray⟩] w (zp1 (Fl.readProg l) w):=by
 have c0:∀(fn:Fn) (first cap:Array Value) (w:World),(Instr.makeFunc fn first cap).run prog w=.ok (.func fn first cap) w:=λ_ _ _ _=>rfl;have d0:= @run_makeMap prog;have HC:Hid (Calls prog 42 #[.func (.func 43) #[] #[.pointer (some ⟨w.heap.size+6,0,none⟩),.pointer (some ⟨w.heap.size,0,none⟩)]] (rdW w l) (yl0 (Fl.readProg l) w)):=yp0 hl hg hm;obtain⟨res,b0⟩:=nmE (Fl.readProg l);rw[<-b0]at HC⊢;clear hl hg hm b0
 go_enter func22,ntmps22
 go_wp2_with (refine Vd rfl 122 _ rfl (zcy w.heap.size) (by kernel_rfl) ?_)
 refine Calls.mono HC.out ?_;clear HC;rintro e wz ⟨hB,⟨h0,rfl,c6,c5,hp⟩|⟨h0,a,rfl,a0,a1⟩⟩
 ·have d6:wz.cell? ⟨w.heap.size+1+1+1+1+1+1,0,none⟩=some (.pointer (some ⟨w.heap.size+1+1+1+1+1,0,none⟩)):=c6
  have d5:wz.cell? ⟨w.heap.size+1+1+1+1+1,0,none⟩=some (.pointer (some ⟨w.heap.size+1,0,none⟩)):=c5;have HE:Hid (zp1 res w (.returned (.tuple #[.pointer (some ⟨w.heap.size+1,0,none⟩),.nilIface])) wz):=⟨hB,.inl ⟨h0,_,rfl,hp⟩⟩;clear hB h0 c6 c5 hp;go_wp2;exact bodyPost_ret (v:=.tuple #[.pointer (some ⟨w.heap.size+1,0,none⟩),.nilIface]) (by simp[results,results22,go_sem]) rfl HE.out
 have HE:Hid (zp1 res w (.returned (.tuple #[.pointer none,.iface 65 (.pointer (some ⟨a,0,none⟩))])) wz):=⟨hB,.inr ⟨h0,_,rfl,a0,a1⟩⟩;clear hB h0 a0 a1;go_wp2;exact bodyPost_ret (v:=.tuple #[.pointer none,.iface 65 (.pointer (some ⟨a,0,none⟩))]) (by simp[results,results22,go_sem]) rfl HE.out
def Fl.checked(q:Nat×Nat×Fl.Prog)(d:(List Int×List Fl.Node)×Bool×Int):Nat×Int:=
 if q.1≠0 then(q.1,(q.2.1:Int)) else if d.2.1=false then(8,d.2.2) else Fl.check q.2.2 d.1.1 d.1.2
def Fl.check_place(p:Fl.Prog)(ls:List Int)(x:List Fl.Node):((Fl.check p ls x).1=0->Fl.check p ls x=(0,-1))/\((Fl.check p ls x).1=10->Fl.check p ls x=(10,-1)):=by
 unfold Fl.check
 split
 ·exact⟨λh=>by simp at h,λ_=>rfl⟩
 split
 ·exact⟨λh=>by simp at h,λh=>by simp at h⟩
 split
 ·exact⟨λ_=>rfl,λh=>by simp at h⟩
 exact⟨λh=>by simp at h,λ_=>rfl⟩
def zw6.ints{S:Nat->Prop}{w:World}{v:Value}{l:List Nat}(h:zw6 S w v l)(hS:∀b,S b->b<w.heap.size):Zv w.heap.size w v (l.map λ(y:Nat)=>(y:Int)):=by
 obtain⟨ao,cap,rfl,h2,h3,h4⟩:=h;refine⟨ao,cap,by simp,by simpa using h2,by simp;omega,λb0=>?_⟩;obtain⟨b,e,hb,hc⟩:=h4 (by rintro rfl;exact b0 rfl);refine⟨b,0,e,hS b hb,λi hi=>?_⟩
 have a0:i<l.length:=by simpa using hi
 rw[Nat.zero_add,hc i a0];simp[Qa,a0]
def zy0.cpin{w:World}{Pb:Nat}{p:Fl.Prog}{lv nv:Value}{ls:List Int}{x:List Fl.Node}(h:zy0 (λb=>b<w.heap.size) w Pb p)(ho:p.Ok)(hv:p.n<=6/\(∀y∈p.cells,y<p.n)/\∀y∈p.chans,y<p.n)(hd:zzz ls x)(hl:Zv w.heap.size w lv ls)(hn:Yv w.heap.size w nv x):
  ∃Lb clv hv bv,CpIn w Pb Lb clv hv bv lv nv p (λb=>b<w.heap.size) ls x:=by
 obtain⟨Lb,clv,chv,bv,h1,h2,h3,h4,h5,h6,h7⟩:=h;exact⟨Lb,clv,chv,bv,{hz:=⟨h1,h2⟩,p0:=h3.c 0 (by omega),p1:=h3.c 1 (by omega),p2:=h3.c 2 (by omega),p3:=h3.c 3 (by omega),p4:=h3.c 4 (by omega),la:=h4,ci:=h5.ints (λb hb=>hb),hi:=h6.ints (λb hb=>hb),bs:=h7,hS:=λb hb=>hb,li:=hl,no:=hn,n6:=hv.1,cl:=⟨ho.ce,ho.ch⟩,cv:=hv.2,kd:=zq1 4 _ ho.body,l0:=hd.l0,x0:=hd.x0,xo:=hd.xok}⟩
def yl2(r:(List Int×List Fl.Node)×Bool×Int)(w:World)(e:Ending)(w':World):Prop:=
 Below w.heap.size w w'/\
 (r.2.1=false->∃q,e=.returned (.tuple #[.agg #[.slice none 0 0,.slice none 0 0],.iface 65 (.pointer (some ⟨q,0,none⟩))])/\w'.cell? ⟨q,0,none⟩=some (.int .i64 8)/\w'.cell? ⟨q,1,none⟩=some (.int .i64 r.2.2))/\
 (r.2.1=true->∃la n lc na n' nc,e=.returned (.tuple #[.agg #[.slice la n lc,.slice na n' nc],.nilIface])/\Zv w'.heap.size w' (.slice la n lc) r.1.1/\Yv w'.heap.size w' (.slice na n' nc) r.1.2)
def yl3(res:Nat×Int)(w:World)(e:Ending)(w':World):Prop:=
 Below w.heap.size w w'/\((res=(0,-1)/\e=.returned .nilIface)\/(res=(10,-1)/\e=.returned (.iface 24 (.int .i64 10)))\/∃a,e=.returned (.iface 65 (.pointer (some ⟨a,0,none⟩)))/\w'.cell? ⟨a,0,none⟩=some (.int .i64 res.1)/\w'.cell? ⟨a,1,none⟩=some (.int .i64 res.2))
def yv3{w:World}{l s:List UInt8}{ao:Option Addr}{cap:Nat}(hl:l.length<=100000)(hg:1<w.heap.size)(hm:Xs w)(c0:∀w1:World,Below w.heap.size w w1->Calls prog 23 #[.slice ao s.length cap] w1 (yl2 (Fl.decode s) w1)):
  Calls prog 10 #[.string ⟨l.toArray⟩,.slice ao s.length cap] w (yl3 (Fl.checked (Fl.readProg l) (Fl.decode s)) w):=by
 have j0:Hid (Calls prog 22 #[.string ⟨l.toArray⟩] w (zp1 (Fl.readProg l) w)):=yl1 hl hg hm;have g0:=Zz c0;have k0:Hid ((Fl.readProg l).1=0->(Fl.readProg l).2.2.Ok):=λh=>(Fl.readProg_ok l h).1;have l0:Hid ((Fl.readProg l).2.2.n<=6/\(∀y∈(Fl.readProg l).2.2.cells,y<(Fl.readProg l).2.2.n)/\∀y∈(Fl.readProg l).2.2.chans,y<(Fl.readProg l).2.2.n):=Fl.readProg_lv l;have m0:Hid ((Fl.decode s).2.1=true->zzz (Fl.decode s).1.1 (Fl.decode s).1.2):=zfy;obtain⟨q,hq⟩:=nmE (Fl.readProg l);obtain⟨d,hd⟩:=nmE (Fl.decode s);rw[<-hq]at j0 k0 l0⊢;rw[<-hd]at g0 m0⊢;clear hq hd hl hg hm c0
 go_enter func10,ntmps10
 go_wp2_with fail
 refine j0.out.mono ?_;rintro e w1 ⟨p0,d0⟩;have i0:=Zz p0;clear p0 j0;rcases d0 with⟨h0,Pb,rfl,hp⟩|⟨h0,a,rfl,a0,a1⟩
 ·have HP:Hid (zy0 (λb=>b<w1.heap.size) w1 Pb q.2.2):=hp.kept (λb hb=>hb.2) (λ_ _=>rfl)
  have H0:=Zz h0;clear hp h0
  go_wp2_with fail
  refine(g0.out _ i0.out).mono ?_;rintro e w2 ⟨n0,b0,hgood⟩;have q0:=Zz n0;have e0:Hid (Below w.heap.size w w2):=i0.out.trans (n0.mono i0.out.size);clear n0
  cases hr:d.2.1 with
  |false=>
   obtain⟨a,rfl,a0,a1⟩:=b0 hr;have HE:Hid (Fl.checked q d=(8,d.2.2)):=(by show _=_;unfold Fl.checked;rw[if_neg (by rw[H0.out];simp),if_pos hr]);have ha:a<w2.heap.size:=Qe w2 _ a0;have A0:=Zz a0;have A1:=Zz a1;clear b0 hgood hr a0 a1
   go_wp2_with fail
   go_ret;refine⟨e0.out.alloc e0.out.size _,.inr (.inr ⟨a,rfl,?_,?_⟩)⟩
   ·rw[HE.out];exact(Qf _ _ _ ha).trans A0.out
   rw[HE.out];exact(Qf _ _ _ ha).trans A1.out
  |true=>
   obtain⟨la,n,lc,na,n',nc,rfl,hi,hn⟩:=hgood hr;have HE:Hid (Fl.checked q d=Fl.check q.2.2 d.1.1 d.1.2):=(by show _=_;unfold Fl.checked;rw[if_neg (by rw[H0.out];simp),if_neg (by rw[hr];simp)])
   have r0:Hid (∀W,Below w2.heap.size w2 W->Calls prog 24 #[.pointer (some ⟨Pb,0,none⟩),.agg #[.slice la n lc,.slice na n' nc]] W (yo0 (Fl.check q.2.2 d.1.1 d.1.2) W)):=λW hW=>by
    have s0:=m0.out hr;have hw:=q0.out.trans (hW.mono q0.out.size);have u0:zy0 (λb=>b<W.heap.size) W Pb q.2.2:=HP.out.kept (λb hb=>Nat.lt_of_lt_of_le hb hw.size) (λb hb=>hw.block b hb);obtain⟨Lb,clv,hv,bv,v0⟩:=u0.cpin (k0.out H0.out) l0.out s0 ((hi.below hW).mono hW.size) ((hn.below hW).mono hW.size);exact ys9 v0 (λ_ _=>s0.ndok)
   clear b0 hgood hr hi hn m0 g0 HP k0 l0
   go_wp2_with fail
   refine(r0.out _ (bA)).mono ?_;rintro e w3 ⟨t0,hc⟩;have o0:Hid (Below w.heap.size w w3):=(e0.out.alloc e0.out.size _).trans (t0.mono (by have:=e0.out.size;simp;omega));have f0:Hid (((Fl.check q.2.2 d.1.1 d.1.2).1=0->Fl.check q.2.2 d.1.1 d.1.2=(0,-1))/\((Fl.check q.2.2 d.1.1 d.1.2).1=10->Fl.check q.2.2 d.1.1 d.1.2=(10,-1))):=Fl.check_place _ _ _;clear t0 r0;rcases hc with⟨h0,rfl⟩|⟨h0,rfl⟩|⟨h0,a,rfl,a0,a1⟩
   ·have HZ:Hid (Fl.checked q d=(0,-1)):=HE.out.trans (f0.out.1 h0)
    clear h0 HE f0;go_wp2;go_ret;exact⟨o0.out,.inl ⟨HZ.out,rfl⟩⟩
   ·have HZ:Hid (Fl.checked q d=(10,-1)):=HE.out.trans (f0.out.2 h0)
    clear h0 HE f0;go_wp2;go_ret;exact⟨o0.out,.inr (.inl ⟨HZ.out,rfl⟩)⟩
   have A0:Hid (w3.cell? ⟨a,0,none⟩=some (.int .i64 (Fl.checked q d).1)):=(by show _=_;rw[HE.out,h0];exact a0);have A1:Hid (w3.cell? ⟨a,1,none⟩=some (.int .i64 (Fl.checked q d).2)):=(by show _=_;rw[HE.out];exact a1);clear h0 a0 a1 HE f0;go_wp2;go_ret;exact⟨o0.out,.inr (.inr ⟨a,rfl,A0.out,A1.out⟩)⟩
 have HE:Hid (Fl.checked q d=(q.1,(q.2.1:Int))):=by show _=_;unfold Fl.checked;rw[if_pos h0]
 clear h0 g0;go_wp2;go_ret;refine⟨i0.out,.inr (.inr ⟨a,rfl,?_,?_⟩)⟩
 ·rw[HE.out];exact a0
 rw[HE.out];exact a1
def yv4{w:World}{l s:List UInt8}{ao:Option Addr}{cap:Nat}(hE:zz4 w)(hl:l.length<=100000)(hg:1<w.heap.size)(hm:Xs w)(c0:∀w1:World,Below w.heap.size w w1->Calls prog 23 #[.slice ao s.length cap] w1 (yl2 (Fl.decode s) w1)):
  Calls prog 5 #[.string ⟨l.toArray⟩,.slice ao s.length cap] w λe w'=>e=.returned (.tuple #[.int .i64 (Fl.checked (Fl.readProg l) (Fl.decode s)).1,.int .i64 (Fl.checked (Fl.readProg l) (Fl.decode s)).2])/\Below w.heap.size w w':=by
 have HC:Hid (Calls prog 10 #[.string ⟨l.toArray⟩,.slice ao s.length cap] w (yl3 (Fl.checked (Fl.readProg l) (Fl.decode s)) w)):=yv3 hl hg hm c0;have f0:Hid (∀o,Below w.heap.size w o->zz4 o):=λo ho=>(ho.cell (p:=⟨0,0,none⟩) (Qe w _ hE)).trans hE;obtain⟨res,d0⟩:=nmE (Fl.checked (Fl.readProg l) (Fl.decode s));rw[<-d0]at HC⊢;clear hl hg hm c0 hE d0
 go_enter func5,ntmps5
 go_wp2_with fail
 refine HC.out.mono ?_;rintro e w1 ⟨hB,hc⟩;have HB:=Zz hB;clear hB HC;rcases hc with⟨rfl,rfl⟩|⟨rfl,rfl⟩|⟨a,rfl,a0,a1⟩
 ·go_wp2_with fail
  refine(yl5 _).mono ?_;rintro e w2 ⟨rfl,b0⟩;have e0:Hid (Below w.heap.size w w2):=HB.out.trans (b0.mono HB.out.size);clear b0;go_wp2
  go_ret2
  exact⟨rfl,e0.out⟩
 ·go_wp2_with fail
  refine(yt7 10 _ (f0.out _ HB.out)).mono ?_;rintro e w2 ⟨rfl,b0⟩;have e0:Hid (Below w.heap.size w w2):=HB.out.trans (b0.mono HB.out.size);clear b0;go_wp2
  go_ret2
  exact⟨rfl,e0.out⟩
 obtain⟨n,p⟩:=res;have A0:=Zz a0;have A1:=Zz a1;clear a0 a1
 go_wp2_with fail
 refine(tell_at a 0 (n:Int) p _ (f0.out _ HB.out) A0.out A1.out).mono ?_;rintro e w2 ⟨rfl,b0⟩;have e0:Hid (Below w.heap.size w w2):=HB.out.trans (b0.mono HB.out.size);clear b0;go_wp2
 go_ret2
 exact⟨rfl,e0.out⟩
def yl4{w' W:World}{lo Pb:Nat}{a b chv bv lv nv:Value}{ca:Option Addr}{cc:Nat}{p:Fl.Prog}{ls:List Int}{x:List Fl.Node}(hz:Pb<w'.heap.size)(hc:Zd w' Pb 6 (rw_ [a,b,.slice ca p.cells.length cc,chv,.int .i64 (p.locals:Nat),bv]))(hs:Yx 4 (λb=>lo<=b/\b<w'.heap.size) w' bv p.body)(ht:RTab w' a b (.slice ca p.cells.length cc) chv p)
  (hW:Below w'.heap.size w' W) (ho:p.Ok) (hn:p.n<=6) (hd:zzz ls x) (hl:Zv W.heap.size W lv ls) (hx:Yv W.heap.size W nv x):∃Lq rb clv hv,Jx W Pb Lq rb clv hv bv lv nv p ls x:=by
 obtain⟨rfl,Lq,rb,rfl,h1,h2,h3⟩:=ht;have q:∀i,W.cell? ⟨Pb,i,none⟩=w'.cell? ⟨Pb,i,none⟩:=λi=>hW.cell (p:=⟨Pb,i,none⟩) hz;exact⟨Lq,rb,_,_,{hz:=Nat.lt_of_lt_of_le hz hW.size,p0:=(q 0).trans (hc.c 0 (by omega)),p1:=(q 1).trans (hc.c 1 (by omega)),p2:=(q 2).trans (hc.c 2 (by omega)),p3:=(q 3).trans (hc.c 3 (by omega)),p4:=(q 4).trans (hc.c 4 (by omega)),p5:=(q 5).trans (hc.c 5 (by omega)),ci:=(h2.below hW).mono hW.size,hi:=(h3.below hW).mono hW.size,lq:=h1.kept (λb _ hb=>hW.block b hb),li:=hl,no:=hx,bs:=hs.kept (λb hb=>Nat.lt_of_lt_of_le hb.2 hW.size) (λb hb=>hW.block b hb.2) 4 _ _,n6:=hn,ll:=⟨ho.ce,ho.ch,hd.l0.1,hd.x0.2⟩}⟩
def yv5(l t:List UInt8)(w:World)(hl:l.length<=40000)(ht:t.length<=40000)(hE:zz4 w)(hg:1<w.heap.size)(hm:Xs w):
  Calls prog 4 #[.string ⟨l.toArray⟩,.string ⟨t.toArray⟩] w λe w'=>e=.returned (.bool true)/\Below w.heap.size w w':=by
 obtain⟨s,d0⟩:=nmE (α:=ByteArray) (⟨t.toArray⟩);rw[<-d0]
 have hsz:s.size=t.length:=by rw[d0];rfl
 have E0:s.data.toList=t:=by rw[d0]
 have hst:s.toList=t:=by rw[d0];exact Yt t
 have T0:∀W:World,(convert 9 23 (.string s)).run prog W=.ok (.slice (some ⟨W.heap.size,0,none⟩) t.length (grownCap W t.length 0 5)) (Lib.bytesWorld W 5 s):=λW=>by rw[<-hsz];exact Lib.run_convert_string_bytes W 9 23 5 s underlying9 underlying23 underlying5
 have HE:Hid (∀o,Below w.heap.size w o->zz4 o):=λo ho=>(ho.cell (p:=⟨0,0,none⟩) (Qe w _ hE)).trans hE
 have p0:Hid (∀o,Below w.heap.size w o->1<o.heap.size/\Xs o):=λo ho=>by
  obtain⟨x,hx⟩:=hm;exact⟨Nat.lt_of_lt_of_le hg ho.size,x,(ho.cell (p:=⟨1,0,none⟩) hg).trans hx⟩
 have q0:=Zz hsz;have F0:=Zz E0;have G0:=Zz hst;have U0:=Zz d0;have r0:Hid (l.length<=40000/\t.length<=40000):=⟨hl,ht⟩;clear hE hsz E0 d0 hst hg hm hl ht
 go_enter func4,ntmps4
 go_wp2_with fail
 clear T0;obtain⟨cap,g0⟩:=nmE (grownCap w t.length 0 5);obtain⟨WB,i0⟩:=nmE (Lib.bytesWorld w 5 s);rw[<-g0,<-i0]
 have Z0:WB.heap.size=w.heap.size+1:=by rw[i0,Lib.bytesWorld_size]
 have e0:Hid (Below w.heap.size w WB):=by
  show Below _ _ _;rw[i0];exact⟨rfl,rfl,rfl,by rw[Lib.bytesWorld_size];omega,λk hk=>Lib.bytesWorld_at_old _ _ _ k hk⟩
 have a0:Hid (∀W,Below WB.heap.size WB W->∀j,j<t.length->W.cell? ⟨w.heap.size,j,none⟩=some (.int .u8 (t.getD j 0).toNat)):=λW hW j hj=>by
  have:=Lib.bytesWorld_cell w 5 s j (by rw[q0.out];exact hj);rw[hW.cell (p:=⟨w.heap.size,j,none⟩) (by show w.heap.size<_;omega),i0,this,F0.out]
 have s0:Hid (Calls prog 5 #[.string ⟨l.toArray⟩,.slice (some ⟨w.heap.size,0,none⟩) t.length cap] WB λe w'=>e=.returned (.tuple #[.int .i64 (Fl.checked (Fl.readProg l) (Fl.decode t)).1,.int .i64 (Fl.checked (Fl.readProg l) (Fl.decode t)).2])/\Below WB.heap.size WB w'):=by
  have V0:=r0.out;refine yv4 (HE.out _ e0.out) (by omega) (p0.out _ e0.out).1 (p0.out _ e0.out).2 (λw1 H0=>?_);refine(yv2 (cap:=cap) (ao:=some ⟨w.heap.size,0,none⟩) (s:=t) (w:=w1) (by omega) (λ_=>⟨w.heap.size,0,rfl,by have:=H0.size;omega,λi hi=>by rw[Nat.zero_add];exact a0.out w1 H0 i hi⟩)).mono ?_;rintro e w' ⟨h1,h2,h3⟩;refine⟨h1,h2,λh=>?_⟩;obtain⟨la,n,lc,na,n',nc,e1,e2⟩:=h3 h;exact⟨la,n,lc,na,n',nc,e1,e2 w' ⟨Nat.le_refl _,λ_ _ _=>rfl⟩⟩
 obtain⟨c,hc⟩:=nmE (Fl.checked (Fl.readProg l) (Fl.decode t));rw[<-hc]at s0;have HC:=Zz hc;clear g0 i0 hc;refine(s0.out).mono ?_;rintro e w2 ⟨rfl,t0⟩;have I0:Hid (Below w.heap.size w w2):=e0.out.trans (t0.mono e0.out.size);have u0:(convert 23 9 (.slice (some ⟨w.heap.size,0,none⟩) t.length cap)).run prog w2=.ok (.string s) w2:=by
  rw[U0.out];refine run_convert_bytes_back _ 23 9 5 ⟨w.heap.size,0,none⟩ cap t underlying23 underlying5 underlying9 (λj hj=>?_)
  have h2:(⟨w.heap.size,0,none⟩:Addr).add j=⟨w.heap.size,j,none⟩:=by unfold Addr.add;split<;>simp_all
  rw[h2,a0.out w2 t0 j hj];simp[Qa,hj]
 have v0:Hid (Calls prog 6 #[.string ⟨l.toArray⟩] w2 (Vt (Fl.readProg l) w2)):=ynv l w2 r0.out.1
 have x0:Hid (∀W:World,Calls prog 7 #[.string s] W λe w'=>zg7 (Fl.decode t) W e w'):=λW=>by
  have V0:=r0.out;have:=ywz s W (by rw[q0.out];omega);rw[G0.out]at this;exact this
 have j0:Hid ((Fl.readProg l).1=0->(Fl.readProg l).2.2.Ok):=λh=>(Fl.readProg_ok l h).1;have k0:Hid ((Fl.readProg l).2.2.n<=6/\(∀y∈(Fl.readProg l).2.2.cells,y<(Fl.readProg l).2.2.n)/\∀y∈(Fl.readProg l).2.2.chans,y<(Fl.readProg l).2.2.n):=Fl.readProg_lv l;have y0:Hid ((Fl.decode t).2.1=true->zzz (Fl.decode t).1.1 (Fl.decode t).1.2):=zfy;obtain⟨q,hq⟩:=nmE (Fl.readProg l);obtain⟨d,hd⟩:=nmE (Fl.decode t);rw[<-hq]at HC v0 j0 k0;rw[<-hd]at HC x0 y0;clear t0 s0 e0 a0 HE p0 q0 F0 G0 hq hd
 go_wp2_with fail
 refine v0.out.mono ?_;rintro e w3 ⟨z0,c0,hgood⟩;have A0:Hid (Below w.heap.size w w3):=I0.out.trans (z0.mono I0.out.size);clear u0 v0
 by_cases h0:q.1=0
 rotate_left
 ·have f0:Hid (c=(q.1,(q.2.1:Int))):=by show _=_;rw[HC.out];unfold Fl.checked;rw[if_pos h0]
  obtain rfl:=c0 h0;have b0:(((q.1:Nat):Int) !=0)=true:=(by rw[bne_iff_ne];omega);rw[f0.out];clear h0 c0 hgood z0 HC;go_wp2;go_ret;exact⟨rfl,A0.out⟩
 obtain⟨Pb,a,b,chv,bv,ca,cc,rfl,hlo,W0,J0,hst,l0⟩:=hgood h0;have K0:=Zz l0;have L0:=Zz J0;have M0:=Zz hst;have B0:=Zz h0
 have o0:Hid (c=if d.2.1=false then(8,d.2.2) else Fl.check q.2.2 d.1.1 d.1.2):=by show _=_;rw[HC.out];unfold Fl.checked;rw[if_neg (by rw[h0];simp)]
 clear c0 hgood z0 h0 l0 J0 hst HC
 go_wp2_with fail
 refine(x0.out w3).mono ?_;rintro e w4 ⟨C0,la,n,lc,na,n',nc,rfl,N0⟩;have m0:Hid (Below w.heap.size w w4):=A0.out.trans (C0.mono A0.out.size);have n0:=Zz C0;have O0:=Zz N0;clear C0 N0 x0
 cases hr:d.2.1 with
 |false=>
  have f0:Hid (c=(8,d.2.2)):=(by show _=_;rw[o0.out,if_pos hr]);rw[f0.out];clear hr o0;go_wp2;go_ret;exact⟨rfl,m0.out.alloc m0.out.size _⟩
 |true=>
  have f0:Hid (c=Fl.check q.2.2 d.1.1 d.1.2):=(by show _=_;rw[o0.out,if_neg (by rw[hr];simp)]);obtain⟨P0,Q0⟩:=O0.out hr;have D0:Hid _:=y0.out hr
  have R0:Hid (∀W,Below w4.heap.size w4 W->Calls prog 8 #[.pointer (some ⟨Pb,0,none⟩),.agg #[.slice la n lc,.slice na n' nc]] W λe w'=>e=.returned (.tuple #[.int .i64 c.1,.int .i64 c.2])/\Below W.heap.size W w'):=λW hW=>by
   obtain⟨Lq,rb,clv,hv,X0⟩:=yl4 W0 L0.out M0.out K0.out (n0.out.trans (hW.mono n0.out.size)) (j0.out B0.out) k0.out.1 D0.out ((P0.below hW).mono hW.size) ((Q0.below hW).mono hW.size);rw[f0.out];exact ysz X0 D0.out (zq1 4 _ (j0.out B0.out).body) k0.out.2.1 k0.out.2.2 (j0.out B0.out).lo
  clear hr o0 P0 Q0 f0 O0 y0 j0 k0 K0 L0 M0 D0
  go_wp2_with fail
  refine(R0.out _ (bA)).mono ?_;rintro e w5 ⟨rfl,S0⟩;have Y0:Hid (Below w.heap.size w w5):=(m0.out.alloc m0.out.size _).trans (S0.mono (by have:=m0.out.size;simp;omega));clear S0 R0;go_wp2;go_ret;exact⟨rfl,Y0.out⟩
def yp1(l t:List UInt8)(w:World)(hl:l.length<=1000000000000000000)(ht:t.length<=1000000000000000000)(hE:zz4 w)(hg:1<w.heap.size)(hm:Xs w):
  Calls prog 3 #[.string ⟨l.toArray⟩,.string ⟨t.toArray⟩] w λe w'=>e=.returned (.bool true)/\Below w.heap.size w w':=by
 have d0:(l.length:Int)<=1000000000000000000:=by omega
 have e0:(t.length:Int)<=1000000000000000000:=by omega
 by_cases a0:32768<l.length+t.length
 ·have b0:(32768:Int)<(l.length:Int)+(t.length:Int):=by omega
  clear hE hg hm
  go_enter func3,ntmps3
  go_wp2;go_ret;exact⟨rfl,Below.refl _ _⟩
 have b0:¬(32768:Int)<(l.length:Int)+(t.length:Int):=by omega
 have HC:Hid (Calls prog 4 #[.string ⟨l.toArray⟩,.string ⟨t.toArray⟩] w λe w'=>e=.returned (.bool true)/\Below w.heap.size w w'):=yv5 l t w (by omega) (by omega) hE hg hm;clear hE hg hm
 go_enter func3,ntmps3
 go_wp2_with fail
 refine HC.out.mono ?_;rintro e w1 ⟨rfl,c0⟩;go_wp2;go_ret;exact⟨rfl,c0⟩
open Go.ChangeShapes Go.WideShapes Go.ChangeMaps
def Tryz.laidOutR:laidOutB Tryz.prog=true:=by kernel_rfl
abbrev ziw:List (String×DataW Unit):=Rows.checksRow.laid
def yv6{W:World}(h:laidMetH Tryz.prog ziw W):zz4 W:=by
 have h':laidMet Tryz.prog [("unicode/utf8.acceptRanges",Rows.laid_unicode_utf8_acceptRanges),("unicode/utf8.first",Rows.laid_unicode_utf8_first)] W/\handlesMet Tryz.prog [("errors.errorType",Rows.laid_errors_errorType)] W:=h;exact zh2 ⟨⟨[],rfl,List.nodup_nil,λ_ _ h=>by cases h⟩,h'.2⟩
def zs8{W:World}(h:W.ShapedOpen Tryz.prog):Xs W:=
 cell_of_shapedOpen_int (P:=Tryz.prog) (g:=1) (t:=3) (zero:=#[.int .i64 0]) h (of_decide_eq_true (by kernel_rfl)) (by kernel_rfl) rfl (by kernel_rfl) (by kernel_rfl) Tryz.underlying3
def zr0{H:Type}{enc:TypeId×Value->H}{a:Assume}{C:Checked}{os:Os}{f:FuncId}{fn:Func}{s:ChangeSpec}{conds:List PathCond}{apart fresh a0 again:Bool}{X:World->Array Value->Prop}
  (hX:∀(w w':World) (args:Array Value),w.heap=w'.heap->X w args->X w' args)
  (own:ownKnob C.prog.godebug=none) (started:os.Started) (noInit:C.prog.inits.idxOf? f=none) (e0:C.prog.funcs[f]?=some fn)
  (witness:∃(w:World) (tape:Tape) (i:Input),w.os=os/\(w.forCall tape i).Shaped C.prog/\i.vars=[]/\Input.okWide C.prog (w.forCall tape i) .any w.heap.size f i/\
   ((s.pre enc C.prog fn conds apart (w.forCall tape i).memory i.args/\X (w.forCall tape i).memory i.args)/\sizedMet enc C.prog fn (OpenSpec.ofChange s) apart (w.forCall tape i).memory i.args)/\a.holds C.prog (lone (Frame.enter C.prog f i.args .normal) [] (w.forCall tape i)))
  (contract:∀(W:World) (base:Nat) (args:Array Value) (ds gs:List (DataW H)) (before:List MemPlace),(∀(j:Nat) t v,fn.params[j]?=some t->args[j]?=some v->Value.okWide C.prog W .any base t v)->
   DataW.Whole enc C.prog fn.params.toList s.vars apart W args.toList ds gs before->(DataW.weightsEach C.prog (fn.params.toList++s.plain.varTypes C.prog) (ds++gs)).all (·<=reachBytes)=true->X W args->W.ShapedOpen C.prog->
   Calls C.prog f args W λe W'=>∃v,e=.returned v/\s.post enc C.prog fn apart fresh a0 again W args v W'):
  ReturnsInHanded a C os f .any (λw args=>(s.pre enc C.prog fn conds apart w args/\X w args)/\sizedMet enc C.prog fn (OpenSpec.ofChange s) apart w args) (s.post enc C.prog fn apart fresh a0 again):=by
 refine returnsInHanded_of_calls own started noInit witness ?_;intro w tape i _ f0 _ g0 b0 c0;obtain⟨_,_,_,fn',hfn',_,_,_,_,d0⟩:=g0;have e:fn'=fn:=Option.some.inj (hfn'.symm.trans e0);subst e;obtain⟨⟨⟨ds,gs,before,hw,_⟩,hx⟩,hz⟩:=b0;have hw':=DataW.Whole.of_heap (w':=w.forCall tape i) (by rfl) hw;refine(contract (w.forCall tape i) w.heap.size i.args ds gs before d0 hw' (hz.weights hw) (hX _ _ _ (by rfl) hx) f0).mono λe W' ⟨v,he,hp⟩=>?_;subst he;exact ChangeSpec.post_blind hp
def zc8(os:Os)(args:Array Value):laidMetH Tryz.prog ziw ((({World.doorLaid Tryz.prog 41 os with heap:=(World.doorLaid Tryz.prog 41 os).heap.modify 2 λ
   | .cells _ t frozen=> .cells (Go.Pinned.utf8FirstZ.map λ(z:Nat)=>Value.int .u8 (z:Int)).toArray t frozen
   |o=>o}:World)).forCall (λ_ _=>0) ⟨#[],args,[]⟩).memory:=
 laidMetH_of_parts (laidMet_of_run' 8 (by kernel_rfl) (by kernel_rfl)) (by kernel_rfl)
def zc9(os:Os)(started:os.Started)(H:Type)(enc:TypeId×Value->H):
    ReturnsInHanded {} Tryz.checked os 3 .any (λw args=>(Rows.checksSpec.pre enc Tryz.prog Tryz.f3 [] false w args/\laidMetH Tryz.prog ziw w)/\sizedMet enc Tryz.prog Tryz.f3 (OpenSpec.ofChange Rows.checksSpec) false w args)
      (Rows.checksSpec.post enc Tryz.prog Tryz.f3 false true false false):=by
  refine zr0 (C:=Tryz.checked) (X:=λw _=>laidMetH Tryz.prog ziw w) (λ_ _ _ hh h=>h.of_heap hh) Tryz.own started (by kernel_rfl) Tryz.func3
    (ChangeSpec.witness_shaped (enc:=enc) (C:=Tryz.checked) (os:=os) (X:=λw _=>laidMetH Tryz.prog ziw w) false ({
                                                                                                                             World.doorLaid Tryz.prog 41 os with heap:=(World.doorLaid Tryz.prog 41 os).heap.modify 2 λ
      | .cells _ t frozen=> .cells (Go.Pinned.utf8FirstZ.map λ(z:Nat)=>Value.int .u8 (z:Int)).toArray t frozen
      |o=>o}:World) #[.string ⟨#[]⟩,.string ⟨#[]⟩] 8 rfl (World.shaped_of_RefB (by kernel_rfl) (by kernel_rfl)) (by kernel_rfl) (by kernel_rfl) (by kernel_rfl) (zc8 os _)) ?_
  intro W base args ds gs before c0 hW g0 hL f0;have b0:∀(j:Nat) t v,Tryz.f3.params[j]?=some t->args[j]?=some v->Value.okWide Tryz.prog W .any base t v:=c0;have hW':=hW;obtain⟨p,q,h0,i0,rfl,l0,m0⟩:=hW;have hA:DataW.TrodAll enc Tryz.prog W 0 (λ_=>true) true Tryz.f3.params.toList args.toList ds p:=h0;have hV:DataW.TrodVars enc Tryz.prog W (λ_=>true) [] gs q:=i0;have hwt':(DataW.weightsEach Tryz.prog (Tryz.f3.params.toList++Rows.checksSpec.plain.varTypes Tryz.prog) (ds++gs)).all (·<=reachBytes)=true:=g0;rw[Tryz.params3]at hA b0 hwt';obtain⟨v0,v1,d0,d1,p0,p1,rfl,rfl,rfl,t0,t1⟩:=trodAll_two hA;obtain⟨rfl,rfl⟩:=trodVars_none hV;obtain⟨s,rfl,rfl,rfl,hsz⟩:=open_string Tryz.underlying9 (b0 0 9 v0 rfl rfl) t0;obtain⟨s2,rfl,rfl,rfl,e0⟩:=open_string Tryz.underlying9 (b0 1 9 v1 rfl rfl) t1;have hg:=yv6 hL;have n0:=reachBytes_lt;have j0:s.data.toList.length<=1000000000000000000:=by
    have:=sized_string hwt' (j:=0) (t:=9) (bytes:=s.data.toList) rfl rfl;omega
  have k0:s2.data.toList.length<=1000000000000000000:=by
    have:=sized_string hwt' (j:=1) (t:=9) (bytes:=s2.data.toList) rfl rfl;omega
  have hgm:1<W.heap.size:=by
    obtain⟨x,hx⟩:=zs8 f0;exact Qe W _ hx
  have e2:(⟨s.data.toList.toArray⟩:ByteArray)=s:=(by simp);have e3:(⟨s2.data.toList.toArray⟩:ByteArray)=s2:=(by simp);have a0:=yp1 s.data.toList s2.data.toList W j0 k0 hg hgm (zs8 f0);rw[e2,e3]at a0;have e1:Rows.checksSpec.fn H ([.lit (.string s.data.toList),.lit (.string s2.data.toList)]++[])={results:=[.lit (.bool true)],args:=[.lit (.string s.data.toList),.lit (.string s2.data.toList)]}:=(by simp[Rows.checksSpec]);refine a0.mono λe W' ⟨he,hw⟩=>?_;subst he;refine⟨_,rfl,_,_,_,[],[],[],hW',?_,?_,?_,hw.frame _,λh=>by cases h⟩
  · rw[e1];exact trodAll_mk1 (shut_bool Tryz.underlying4 true)
  · rw[e1];exact trodAll_mk2 (shut_string Tryz.underlying9 hsz) (shut_string Tryz.underlying9 e0)
  rw[e1];rfl
def yv7:Rows.ChecksSaid:=
 OpenClaim.holds_of_wide 3 Tryz.f3 rfl rfl rfl rfl rfl rfl rfl ⟨rfl,rfl,rfl,rfl,rfl⟩ rfl rfl rfl rfl rfl (by kernel_rfl) Tryz.func3 (by kernel_rfl)
  (of_decide_eq_true (by kernel_rfl)) (by unfold Func.isWrapper;rw[if_neg (of_decide_eq_false (by kernel_rfl))];exact⟨rfl,rfl⟩)
  (λos started H enc _=>zc9 os started H enc)
theorem checks_card:Rows.ChecksCardSaid:=
 Claim7.holds_tied_plain_at .later [] [.data,.handle,.pinned] true Rows.checksCard.stood.harness true
  yv7 (λ_ h=>by cases h) (by kernel_rfl) (λ_ h=>by cases h) checks_row_tie rfl ⟨rfl,rfl⟩ (by kernel_rfl) rfl
  (λf fn hf a0=>by
   obtain rfl:f=3:=Option.some.inj ((show Tryz.prog.funcNamed Rows.checksRow.func=some 3 by kernel_rfl).symm.trans hf)|>.symm;obtain rfl:fn=Tryz.f3:=(Option.some.inj (Tryz.func3.symm.trans a0)).symm
   exact⟨by kernel_rfl,λj t ht=>by
    rw[Tryz.params3]at ht;rcases j with _|_|j
    ·have h3:t=9:=by simpa using ht.symm
     subst h3;exact(show Tryz.prog.wantsStandIn 9=false by kernel_rfl)
    ·have h3:t=9:=by simpa using ht.symm
     subst h3;exact(show Tryz.prog.wantsStandIn 9=false by kernel_rfl)
    simp at ht⟩)
  (by kernel_rfl)
end Go.Proofs.YtaaejabalinojaaGreatDoor
