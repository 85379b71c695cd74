import Derived.Test.YtminjljgedopkaaGreatDoorM10
import Derived.Test.YtminjljgedopkaaGreatDoorM15
set_option linter.all false
set_option maxRecDepth 100000
set_option maxHeartbeats 40000000
namespace Go.Proofs.YtminjljgedopkaaGreatDoor
open Go.RowKit Go.Proofs.Tryz
def RdIn(n:Nat)(V:World)(q:Nat×Nat×Fl.Prog)(e:Ending)(w':World):Prop:=
 Below n V w'/\n+8<=w'.heap.size/\w'.heap[n+7]?=V.heap[n+7]?/\w'.heap[n+6]?=V.heap[n+6]?/\
 ((q.1=0/\e=.returned (.tuple #[])/\Ug (λb=>(n<=b/\b≠n+7)/\b<w'.heap.size) w' (n+1) q.2.2/\w'.cell? ⟨n+5,0,none⟩=some (ptr (n+1)))\/(q.1≠0/\e=.panicked (Zq q.1 q.2.1)))
def zj1(l:List UInt8)(h:¬1200<l.length):Fl.readProg l=((Fl.rows Fl.RS.zero 0 (Fl.cutR 10 l)).1,(Fl.rows Fl.RS.zero 0 (Fl.cutR 10 l)).2.1,(Fl.rows Fl.RS.zero 0 (Fl.cutR 10 l)).2.2.prog):=by
 unfold Fl.readProg;rw[if_neg h]
def zg6(l:List UInt8)(h:1200<l.length):Fl.readProg l=(1,0,Fl.RS.zero.prog):=by
 unfold Fl.readProg;rw[if_pos h]
def rd_text{w:World}{l:List UInt8}{V:World}(hV:V=(rdW w l).alloc (.cells #[.nilIface] 64))(hl:l.length<=100000)(hg:2<w.heap.size)(hm:Yx w):
  Calls prog 61 #[.pointer (some ⟨w.heap.size+5,0,none⟩),.string ⟨l.toArray⟩] V (RdIn w.heap.size V (Fl.readProg l)):=by
 have hz:=zn6 w l
 have g0:V.heap.size=w.heap.size+8:=by rw[hV];simp[hz]
 have b0:Below (rdW w l).heap.size (rdW w l) V:=by rw[hV];exact bA
 have hB:Below w.heap.size w V:=(zh0 w l).trans (b0.mono (by omega));obtain⟨k0,k1,k2,k3,k4,k5,k6⟩:=zsv w l;have q:∀k,k<w.heap.size+7->V.heap[k]?=(rdW w l).heap[k]?:=λk hk=>b0.block k (by omega)
 by_cases hs:1200<l.length
 ·rw[zg6 l hs]
  refine(yux _ l hs hl V).mono ?_;rintro e w' ⟨rfl,hb⟩;have hz':=hb.size;exact⟨hb.mono (by omega),by omega,hb.block _ (by omega),hb.block _ (by omega),.inr ⟨Nat.succ_ne_zero _,rfl⟩⟩
 rw[zj1 l hs]
 have hR:Zn V (w.heap.size+5) 45 (Xv (w.heap.size+1) (w.heap.size+2) (w.heap.size+3) (w.heap.size+4) 0 Fl.RS.zero mem0):=
  ⟨λj hj=>(cell_of_row V _ j _ _ (0,0) ((q _ (by omega)).trans k5)).trans (yrx _ j hj),λj=>(Qd (a:=⟨w.heap.size+5,j,none⟩) (q (w.heap.size+5) (by omega))).trans (by simp[World.frozen?,k5])⟩
 have hP:Zn V (w.heap.size+1) 5 (rw_ [.pointer none,.slice none 0 0,.slice none 0 0,.int .i64 0,.slice none 0 0]):=
  ⟨λj hj=>(cell_of_row V _ j _ _ (0,0) ((q _ (by omega)).trans k1)).trans (by rcases(show j=0\/j=1\/j=2\/j=3\/j=4 by omega) with rfl|rfl|rfl|rfl|rfl<;>rfl),λj=>(Qd (a:=⟨w.heap.size+1,j,none⟩) (q (w.heap.size+1) (by omega))).trans (by simp[World.frozen?,k1])⟩
 have hm':Yx V:=by
  obtain⟨x,hx⟩:=hm;exact⟨x,(hB.cell (p:=⟨2,0,none⟩) hg).trans hx⟩
 have ht:=yry (lo:=w.heap.size) (R:=w.heap.size+5) (Pb:=w.heap.size+1) (lm:=w.heap.size+2) (vm:=w.heap.size+3) (cm:=w.heap.size+4) (w:=V) (by omega) (by omega) (by omega) hR hP (Zl.fresh ((q _ (by omega)).trans k2)) (Zl.fresh ((q _ (by omega)).trans k3)) (Zl.fresh ((q _ (by omega)).trans k4)) hg hm' l (by omega);refine ht.mono ?_;have a0:=ziw V (w.heap.size+5);have i0:=zd5 V (w.heap.size+5);rintro e w' (⟨h0,rfl,d0,e0,ln,m,hp⟩|⟨h0,rfl,c0,f0⟩)
 ·have hba:=hp.hba
  have f:∀k,k=w.heap.size+6\/k=w.heap.size+7->w'.heap[k]?=V.heap[k]?:=λk hk=>(hp.fx k (by omega) (by omega) (by omega) (by omega) (by omega) (by omega)).trans (a0.block k (by omega));refine⟨(a0.mono (by omega)).trans hp.bel,by omega,f _ (by omega),f _ (by omega),.inl ⟨h0,rfl,?_,hp.cR.c 0 (by omega)⟩⟩;exact(hp.prog d0 e0).kept (λb hb=>by have:=hb.1;have:=hb.2;omega) (λ_ _=>rfl)
 have f:∀k,k=w.heap.size+6\/k=w.heap.size+7->w'.heap[k]?=V.heap[k]?:=λk hk=>(f0 k (by omega) (by omega) (by omega) (by omega) (by omega) (by omega)).trans (a0.block k (by omega));exact⟨(a0.mono (by omega)).trans c0,by have:=c0.size;omega,f _ (by omega),f _ (by omega),.inr ⟨h0,rfl⟩⟩
def do_read{w:World}{l:List UInt8}{V:World}(hV:V=(rdW w l).alloc (.cells #[.nilIface] 64))(hl:l.length<=100000)(hg:2<w.heap.size)(hm:Yx w):
  Calls prog 60 #[.pointer (some ⟨w.heap.size+6,0,none⟩),.pointer (some ⟨w.heap.size,0,none⟩)] V (RdIn w.heap.size V (Fl.readProg l)):=by
 have HT:Hid (Calls prog 61 #[.pointer (some ⟨w.heap.size+5,0,none⟩),.string ⟨l.toArray⟩] V (RdIn w.heap.size V (Fl.readProg l))):=rd_text hV hl hg hm;obtain⟨k0,k1,k2,k3,k4,k5,k6⟩:=zsv w l;have hz:=zn6 w l
 have q:∀k,k<w.heap.size+7->V.heap[k]?=(rdW w l).heap[k]?:=λk hk=>by rw[hV];exact Below.heap_alloc _ _ _ (by omega)
 have c6:V.cell? ⟨w.heap.size+6,0,none⟩=some (.pointer (some ⟨w.heap.size+5,0,none⟩)):=cell_of_row V _ 0 _ _ (0,0) ((q _ (by omega)).trans k6);have c0:V.cell? ⟨w.heap.size,0,none⟩=some (.string ⟨l.toArray⟩):=cell_of_row V _ 0 _ _ (0,0) ((q _ (by omega)).trans k0);obtain⟨res,a0⟩:=nmE (Fl.readProg l);rw[<-a0]at HT⊢;clear hV k0 k1 k2 k3 k4 k5 k6 hz q a0 hl hg hm
 go_enter func60,ntmps60
 go_wp2_with fail
 refine HT.out.mono ?_;rintro e W ⟨h1,h2,h3,h4,⟨h5,rfl,h6⟩|⟨h5,rfl⟩⟩
 ·have HE:Hid (RdIn w.heap.size V res (.returned (.tuple #[])) W):=⟨h1,h2,h3,h4,.inl ⟨h5,rfl,h6⟩⟩
  clear h1 h2 h3 h4 h5 h6 HT c0 c6;go_wp2
  go_end0
  exact HE.out
 exact⟨rfl,h1,h2,h3,h4,.inr ⟨h5,rfl⟩⟩
def zv6(q:Nat×Nat×Fl.Prog)(w:World)(e:Ending)(w':World):Prop:=
  Below w.heap.size w w'/\
  ((q.1=0/\∃Pb,e=.returned (.tuple #[.pointer (some ⟨Pb,0,none⟩),.nilIface])/\Ug (λb=>w.heap.size<=b/\b<w'.heap.size) w' Pb q.2.2)\/
   (q.1≠0/\∃a,e=.returned (.tuple #[.pointer none,.iface 76 (.pointer (some ⟨a,0,none⟩))])/\w'.cell? ⟨a,0,none⟩=some (.int .i64 q.1)/\w'.cell? ⟨a,1,none⟩=some (.int .i64 q.2.1)))
def yuw(q:Nat×Nat×Fl.Prog)(w:World)(e:Ending)(w':World):Prop:=
  Below w.heap.size w w'/\
  ((q.1=0/\e=.returned .nilIface/\w'.cell? ⟨w.heap.size+6,0,none⟩=some (.pointer (some ⟨w.heap.size+5,0,none⟩))/\w'.cell? ⟨w.heap.size+5,0,none⟩=some (.pointer (some ⟨w.heap.size+1,0,none⟩))/\Ug (λb=>w.heap.size<=b/\b<w'.heap.size) w' (w.heap.size+1) q.2.2)\/
   (q.1≠0/\∃a,e=.returned (.iface 76 (.pointer (some ⟨a,0,none⟩)))/\w'.cell? ⟨a,0,none⟩=some (.int .i64 q.1)/\w'.cell? ⟨a,1,none⟩=some (.int .i64 q.2.1)))
def yyw{w:World}{l:List UInt8}(hl:l.length<=100000)(hg:2<w.heap.size)(hm:Yx w):
  Calls prog 39 #[.func (.func 60) #[] #[.pointer (some ⟨w.heap.size+6,0,none⟩),.pointer (some ⟨w.heap.size,0,none⟩)]] (rdW w l) (yuw (Fl.readProg l) w):=by
 have hd:=do_read (w:=w) (l:=l) rfl hl hg hm;have hz:=zn6 w l;have hc:=ziv 60 #[.pointer (some ⟨w.heap.size+6,0,none⟩),.pointer (some ⟨w.heap.size,0,none⟩)] (rdW w l) (λw'=>RdIn w.heap.size ((rdW w l).alloc (.cells #[.nilIface] 64)) (Fl.readProg l) (.returned (.tuple #[])) w') (λn pl w'=>n=((Fl.readProg l).1:Int)/\pl=((Fl.readProg l).2.1:Int)/\RdIn w.heap.size ((rdW w l).alloc (.cells #[.nilIface] 64)) (Fl.readProg l) (.panicked (Zq n pl)) w') (λW=>by kernel_rfl);rw[hz]at hc;have a0:((rdW w l).alloc (.cells #[.nilIface] 64)).heap[w.heap.size+7]?=some (.cells #[.nilIface] 64):=by
  have:=heap_alloc_last (rdW w l) (.cells #[.nilIface] 64);rw[hz]at this;exact this
 have b0:Below w.heap.size w ((rdW w l).alloc (.cells #[.nilIface] 64)):=(zh0 w l).alloc (by omega) _;obtain⟨k0,k1,k2,k3,k4,k5,k6⟩:=zsv w l;have k6':((rdW w l).alloc (.cells #[.nilIface] 64)).heap[w.heap.size+6]?=some (.cells #[.pointer (some ⟨w.heap.size+5,0,none⟩)] 139):=(Below.heap_alloc _ _ _ (by omega)).trans k6;refine(hc (hd.mono ?_)).mono ?_
 ·rintro e w' ⟨h1,h2,h3,h4,h5⟩
  refine⟨cell_of_row _ _ 0 _ _ (0,0) (h3.trans a0),by rw[World.frozen?,h3,a0];simp,?_⟩;rcases h5 with⟨h5,rfl,h6⟩|⟨h5,rfl⟩
  ·exact .inl ⟨rfl,h1,h2,h3,h4,.inl ⟨h5,rfl,h6⟩⟩
  exact .inr ⟨_,_,rfl,rfl,rfl,h1,h2,h3,h4,.inr ⟨h5,rfl⟩⟩
 have f:∀(u:World) (v:Value) (k:Nat),k≠w.heap.size+7->(u.setCell ⟨w.heap.size+7,0,none⟩ v).heap[k]?=u.heap[k]?:=λu v k hk=>Zx _ _ _ _ _ hk;rintro e wz (⟨w1,rfl,⟨h1,h2,h3,h4,h5⟩,rfl⟩|⟨n,pl,w1,o,rfl,⟨rfl,rfl,h1,h2,h3,h4,h5⟩,rfl⟩)
 ·rcases h5 with⟨h5,-,h6,h7⟩|⟨h5,h6⟩
  ·refine⟨(b0.trans h1).setCell (show w.heap.size<=w.heap.size+7 by omega) _,.inl ⟨h5,rfl,?_,?_,?_⟩⟩
   ·exact(Qc (a:=⟨w.heap.size+6,0,none⟩) ((f _ _ (w.heap.size+6) (by omega)).trans h4)).trans (cell_of_row _ _ 0 _ _ (0,0) k6')
   ·exact(Qc (a:=⟨w.heap.size+5,0,none⟩) (f _ _ (w.heap.size+5) (by omega))).trans h7
   refine h6.kept (λb hb=>?_) (λb hb=>f _ _ _ hb.1.2);rw[Zu];exact⟨hb.1.1,hb.2⟩
  cases h6
 rcases h5 with⟨h5,h6,-⟩|⟨h5,-⟩
 ·cases h6
 have hq:∀v,(((w1.alloc o).alloc (.cells #[.int .i64 ((Fl.readProg l).1:Int),.int .i64 ((Fl.readProg l).2.1:Int)] 80)).setCell ⟨w.heap.size+7,0,none⟩ v).heap[w1.heap.size+1]?=some (.cells #[.int .i64 ((Fl.readProg l).1:Int),.int .i64 ((Fl.readProg l).2.1:Int)] 80):=λv=>by
  rw[f _ _ _ (by omega)];have:=heap_alloc_last (w1.alloc o) (.cells #[.int .i64 ((Fl.readProg l).1:Int),.int .i64 ((Fl.readProg l).2.1:Int)] 80);simpa using this
 refine⟨(((b0.trans h1).alloc (by omega) _).alloc (by simp;omega) _).setCell (show w.heap.size<=w.heap.size+7 by omega) _,.inr ⟨h5,_,rfl,?_,?_⟩⟩
 ·exact cell_of_row _ _ 0 _ _ (0,0) (hq _)
 exact cell_of_row _ _ 1 _ _ (0,0) (hq _)
def zh1{w:World}{l:List UInt8}(hl:l.length<=100000)(hg:2<w.heap.size)(hm:Yx w):
  Calls prog 34 #[.string ⟨l.toArray⟩] w (zv6 (Fl.readProg l) w):=by
 have c0:∀(fn:Fn) (first cap:Array Value) (w:World),(Instr.makeFunc fn first cap).run prog w=.ok (.func fn first cap) w:=λ_ _ _ _=>rfl;have d0:= @run_makeMap prog;have HC:Hid (Calls prog 39 #[.func (.func 60) #[] #[.pointer (some ⟨w.heap.size+6,0,none⟩),.pointer (some ⟨w.heap.size,0,none⟩)]] (rdW w l) (yuw (Fl.readProg l) w)):=yyw hl hg hm;obtain⟨res,b0⟩:=nmE (Fl.readProg l);rw[<-b0]at HC⊢;clear hl hg hm b0
 go_enter func34,ntmps34
 go_wp2_with (refine Jy rfl 148 _ rfl (zf0 w.heap.size) (by kernel_rfl) ?_)
 refine Calls.mono HC.out ?_;clear HC;rintro e wz ⟨hB,⟨h0,rfl,c6,c5,hp⟩|⟨h0,a,rfl,a0,a1⟩⟩
 ·have d6:wz.cell? ⟨w.heap.size+1+1+1+1+1+1,0,none⟩=some (.pointer (some ⟨w.heap.size+1+1+1+1+1,0,none⟩)):=c6
  have d5:wz.cell? ⟨w.heap.size+1+1+1+1+1,0,none⟩=some (.pointer (some ⟨w.heap.size+1,0,none⟩)):=c5;have HE:Hid (zv6 res w (.returned (.tuple #[.pointer (some ⟨w.heap.size+1,0,none⟩),.nilIface])) wz):=⟨hB,.inl ⟨h0,_,rfl,hp⟩⟩;clear hB h0 c6 c5 hp;go_wp2;exact bodyPost_ret (v:=.tuple #[.pointer (some ⟨w.heap.size+1,0,none⟩),.nilIface]) (by simp[results,results34,go_sem]) rfl HE.out
 have HE:Hid (zv6 res w (.returned (.tuple #[.pointer none,.iface 76 (.pointer (some ⟨a,0,none⟩))])) wz):=⟨hB,.inr ⟨h0,_,rfl,a0,a1⟩⟩;clear hB h0 a0 a1;go_wp2;exact bodyPost_ret (v:=.tuple #[.pointer none,.iface 76 (.pointer (some ⟨a,0,none⟩))]) (by simp[results,results34,go_sem]) rfl HE.out
end Go.Proofs.YtminjljgedopkaaGreatDoor
namespace Go.Proofs.YtminjljgedopkaaGreatDoor
open Go.Proofs.Tryz
namespace Fl
def nth_ext{ws t:List Node}{k:Nat}(h:k<ws.length):nth (ws++t) k=nth ws k:=by
 unfold nth;rw[List.getD_eq_getElem?_getD,List.getD_eq_getElem?_getD,List.getElem?_append_left h]
def nd_ext{ws t:List Node}{k:Int}(h:0<=k/\k<ws.length):nd (ws++t) k=nd ws k:=nth_ext (by omega)
def all_same{α:Type}{f g:α->Bool}:∀{l:List α},(∀k∈l,f k=g k)->l.all f=l.all g
 |[],_=>rfl
 |a::l,h=>by rw[List.all_cons,List.all_cons,h a (by simp),all_same (λk hk=>h k (by simp[hk]))]
def follows_ext{p:Prog}{ls:List Int}{ws t:List Node}{n:Node}(hk:0<=n.kind/\n.kind<=7)(h:∀i∈prem n,0<=i/\i<(ws.length:Int)):follows p ls (ws++t) n=follows p ls ws n:=by
 unfold follows ruleOf
 congr 1
 by_cases k0:n.kind=0
 ·rw[if_pos k0,if_pos k0]
 rw[if_neg k0,if_neg k0]
 by_cases k1:n.kind=1
 ·rw[if_pos k1,if_pos k1]
 rw[if_neg k1,if_neg k1]
 by_cases k2:n.kind=2
 ·rw[if_pos k2,if_pos k2]
  have hp:prem n=[n.b,n.c]:=(by unfold prem;rw[if_pos k2]);rw[hp]at h;rw[nd_ext (h n.b (by simp)),nd_ext (h n.c (by simp))]
 rw[if_neg k2,if_neg k2]
 by_cases k3:n.kind=3
 ·rw[if_pos k3,if_pos k3]
  have hp:prem n=[n.b]:=(by unfold prem;rw[if_neg k2,if_pos (.inl k3)]);rw[hp]at h;unfold mayGo;rw[nd_ext (h n.b (by simp))]
 rw[if_neg k3,if_neg k3]
 by_cases k4:n.kind=4
 ·rw[if_pos k4,if_pos k4]
  have hp:prem n=[n.b]:=(by unfold prem;rw[if_neg k2,if_pos (.inr k4)]);rw[hp]at h;unfold mayGo;rw[nd_ext (h n.b (by simp))]
 rw[if_neg k4,if_neg k4]
 by_cases k5:n.kind=5
 ·rw[if_pos k5,if_pos k5]
  have hp:prem n=[n.a,n.b,n.c]:=(by unfold prem;rw[if_neg k2,if_neg (by omega),if_pos k5]);rw[hp]at h;unfold guards;rw[nd_ext (h n.a (by simp)),nd_ext (h n.b (by simp)),nd_ext (h n.c (by simp))]
 rw[if_neg k5,if_neg k5]
 by_cases k6:n.kind=6
 ·rw[if_pos k6,if_pos k6]
  have hp:prem n=[n.a,n.b]:=(by unfold prem;rw[if_neg k2,if_neg (by omega),if_neg k5,if_pos k6]);rw[hp]at h;unfold guards;rw[nd_ext (h n.a (by simp)),nd_ext (h n.b (by simp))]
 rw[if_neg k6,if_neg k6]
 have hp:prem n=n.list:=by unfold prem;rw[if_neg k2,if_neg (by omega),if_neg k5,if_neg k6,if_pos (by omega)]
 rw[hp]at h
 exact all_same λk hk=>by rw[nd_ext (h k hk)]
def Fol(p:Prog)(ls:List Int)(ws:List Node):Prop:=
 ∀k,k<ws.length->(0<=(nth ws k).kind/\(nth ws k).kind<=7)/\follows p ls ws (nth ws k)=true/\∀i∈prem (nth ws k),0<=i/\i<(k:Int)
def Fol.nil(p:Prog)(ls:List Int):Fol p ls []:=λk hk=>by simp at hk
def Fol.push{p:Prog}{ls:List Int}{ws:List Node}(h:Fol p ls ws){n:Node}(hk:0<=n.kind/\n.kind<=7)(hf:follows p ls ws n=true)(hp:∀i∈prem n,0<=i/\i<(ws.length:Int)):Fol p ls (ws++[n]):=λk hkl=>by
 by_cases hlt:k<ws.length
 ·rw[nth_ext hlt]
  obtain⟨h1,h2,h3⟩:=h k hlt;exact⟨h1,by rw[follows_ext h1 (λi hi=>by have:=h3 i hi;omega)];exact h2,h3⟩
 ·have hke:k=ws.length:=by simp at hkl;omega
  subst hke;have e:nth (ws++[n]) ws.length=n:=(by unfold nth;simp[List.getD_eq_getElem?_getD]);rw[e];exact⟨hk,by rw[follows_ext hk hp];exact hf,hp⟩
structure Put(p:Prog)(ls:List Int)(ws:List Node)(r:Int×List Node):Prop where
 fol:Fol p ls r.2
 ext:∃t,r.2=ws++t
 rng:0<=r.1/\r.1<r.2.length
 new:r.2=ws\/r.1=(r.2.length:Int) - 1
def Put.len{p:Prog}{ls:List Int}{ws:List Node}{r:Int×List Node}(h:Put p ls ws r):ws.length<=r.2.length:=by
 obtain⟨t,e⟩:=h.ext;rw[e];simp
def Put.nd{p:Prog}{ls:List Int}{ws:List Node}{r:Int×List Node}(h:Put p ls ws r){k:Int}(hk:0<=k/\k<ws.length):nd r.2 k=nd ws k:=by
 obtain⟨t,e⟩:=h.ext;rw[e];exact nd_ext hk
def put1_ok{p:Prog}{ls:List Int}{ws:List Node}(h:Fol p ls ws){n:Node}(hk:0<=n.kind/\n.kind<=7)(hf:follows p ls ws n=true)(hp:∀i∈prem n,0<=i/\i<(ws.length:Int)):Put p ls ws (put1 ws n)/\nd (put1 ws n).2 (put1 ws n).1=n/\((put1 ws n).2.length=ws.length->∀i∈prem n,i<(put1 ws n).1):=by
 unfold put1
 split
 ·rename_i i hi
  have h1:eqNode (nth ws i) n=true:=List.find?_some (p:=λi=>eqNode (nth ws i) n) hi;have h2:i<ws.length:=(by have:=List.mem_of_find?_eq_some hi;simpa using this);have h3:=(eqNode_iff _ _).1 h1;refine⟨⟨h,⟨[],by simp⟩,⟨by simp,by simp;omega⟩,.inl rfl⟩,?_,λ_ j hj=>?_⟩
  ·show nth ws (i:Int).toNat=n
   rw[Int.toNat_natCast];exact h3
  ·rw[<-h3]at hj
   exact((h i h2).2.2 j hj).2
 ·refine⟨⟨h.push hk hf hp,⟨[n],rfl⟩,⟨by simp,by simp;omega⟩,.inr (by simp)⟩,?_,λe=>?_⟩
  ·show nth (ws++[n]) (ws.length:Int).toNat=n
   rw[Int.toNat_natCast];unfold nth;simp[List.getD_eq_getElem?_getD]
  ·simp at e
def Put.comp{p:Prog}{ls:List Int}{ws:List Node}{r r':Int×List Node}(h:Put p ls ws r)(h':Put p ls r.2 r')(hn:r'.2.length=r.2.length->r.1<r'.1):Put p ls ws r':=by
 obtain⟨t,e⟩:=h.ext;obtain⟨t',e'⟩:=h'.ext;refine⟨h'.fol,⟨t++t',by rw[e',e,List.append_assoc]⟩,h'.rng,?_⟩;rcases h'.new with h1|h1
 ·have h2:=hn (by rw[h1])
  have h3:=h'.rng;rcases h.new with h4|h4
  ·exact .inl (h1.trans h4)
  ·rw[h1]at h3;omega
 ·exact .inr h1
def under_refl{p:Prog}(lv:p.Lv){a:Int}(ha:0<=a/\a<p.n):under p a a=true:=lv.lat.refl _ (by omega)
def under_jn{p:Prog}(lv:p.Lv){a b:Int}(ha:0<=a/\a<p.n)(hb:0<=b/\b<p.n):under p a (jn p a b)=true/\under p b (jn p a b)=true:=by
 obtain⟨k,h1,h2,h3,h4,-⟩:=lv.lat.joins a.toNat b.toNat (by omega) (by omega)
 have e:(jn p a b).toNat=k:=by unfold jn;rw[h2];simp
 unfold under;rw[e];exact⟨h3,h4⟩
def under_trans{p:Prog}(lv:p.Lv){a b c:Int}(ha:0<=a/\a<p.n)(hb:0<=b/\b<p.n)(hc:0<=c/\c<p.n)(h1:under p a b=true)(h2:under p b c=true):under p a c=true:=lv.lat.trans _ _ _ (by omega) (by omega) (by omega) h1 h2
def ofAtom_ext{ws t:List Node}{k:Int}{a:Atom}(h:0<=k/\k<ws.length):ofAtom (ws++t) k a=ofAtom ws k a:=by unfold ofAtom;rw[nd_ext h]
def Fol.prem{p:Prog}{ls:List Int}{ws:List Node}(h:Fol p ls ws){k:Int}(hk:0<=k/\k<ws.length):∀i∈Go.Proofs.YtminjljgedopkaaGreatDoor.prem (nd ws k),0<=i/\i<(ws.length:Int):=λi hi=>by
 have h1:=(h k.toNat (by omega)).2.2 i hi;omega
def ofExpr_ext{p:Prog}{ls:List Int}{ws t:List Node}(h:Fol p ls ws){k:Int}(hk:0<=k/\k<ws.length)(e:Expr):ofExpr (ws++t) k e=ofExpr ws k e:=by
 unfold ofExpr
 by_cases h0:e.op<0
 ·rw[if_pos h0,if_pos h0,ofAtom_ext hk]
 rw[if_neg h0,if_neg h0,nd_ext hk]
 by_cases h2:(nd ws k).kind=2
 ·have hp:Go.Proofs.YtminjljgedopkaaGreatDoor.prem (nd ws k)=[(nd ws k).b,(nd ws k).c]:=by unfold Go.Proofs.YtminjljgedopkaaGreatDoor.prem;rw[if_pos h2]
  have h3:=h.prem hk;rw[hp]at h3;rw[ofAtom_ext (h3 _ (by simp)),ofAtom_ext (h3 _ (by simp))]
 ·rw[decide_eq_false h2,Bool.false_and,Bool.false_and]
section
variable{p:Prog}{ls vs:List Int}
def wAtom_ok(lv:p.Lv)(ok:LvOk p vs)(hv:vars p ls=vs){ws:List Node}(h:Fol p ls ws){a:Atom}(ho:zs2 vs a):
  Put p ls ws (wAtom p vs ws a)/\nd (wAtom p vs ws a).2 (wAtom p vs ws a).1=⟨if a.var then 1 else 0,atomLv p vs a,a.v,0,0,[]⟩:=by
 obtain⟨k,hk,ek⟩:=Jx lv ok.2 ho;have h1:=put1_ok (n:=⟨if a.var then 1 else 0,atomLv p vs a,a.v,0,0,[]⟩) h (by cases a.var<;>simp) ?_ ?_
 ·exact⟨h1.1,h1.2.1⟩
 ·unfold follows ruleOf
  rw[Bool.and_eq_true];refine⟨by simp only[decide_eq_true_eq];omega,?_⟩
  cases hvr:a.var
  ·simp
  ·have hlt:=ho hvr
   have h3:=ok.2 a.v hlt;have e:atomLv p vs a=vs.getD a.v 0:=(by unfold atomLv;rw[hvr];rfl);rw[hv,e];simp only[if_true,show ¬(1:Int)=0 by omega,if_false,Bool.and_eq_true,decide_eq_true_eq,Int.toNat_natCast];exact⟨by omega,under_refl lv h3⟩
 ·intro i hi
  unfold Go.Proofs.YtminjljgedopkaaGreatDoor.prem at hi
  cases hvr:a.var<;>rw[hvr]at hi<;>simp at hi
structure PutV(p:Prog)(ls vs:List Int)(ws:List Node)(e:Expr)(r:Int×List Node):Prop where
 pu:Put p ls ws r
 ro:role (nd r.2 r.1).kind=0
 le:(nd r.2 r.1).level=valLv p vs e
 ex:ofExpr r.2 r.1 e=true
def ofAtom_of{ws:List Node}{k:Int}{a:Atom}{l b c:Int}{li:List Int}(h:nd ws k=⟨if a.var then 1 else 0,l,a.v,b,c,li⟩):ofAtom ws k a=true:=by
 unfold ofAtom;rw[h]
 cases a.var<;>simp
def atomLv_rng(lv:p.Lv)(ok:LvOk p vs){a:Atom}(ho:zs2 vs a):0<=atomLv p vs a/\atomLv p vs a<p.n:=by
 obtain⟨k,hk,ek⟩:=Jx lv ok.2 ho;omega
def valLv_rng(lv:p.Lv)(ok:LvOk p vs){e:Expr}(ho:ExprOk vs.length e):0<=valLv p vs e/\valLv p vs e<p.n:=by
 obtain⟨k,hk,ek⟩:=zy9 lv ok ho;omega
def wVal_ok(lv:p.Lv)(ok:LvOk p vs)(hv:vars p ls=vs){ws:List Node}(h:Fol p ls ws){e:Expr}(ho:ExprOk vs.length e):PutV p ls vs ws e (wVal p vs ws e):=by
 have hi:=zkz ho;unfold wVal
 by_cases h0:e.op<0
 ·rw[if_pos h0]
  obtain⟨h1,h2⟩:=wAtom_ok lv ok hv h hi.1;refine⟨h1,by rw[h2];cases e.a.var<;>simp[role],by rw[h2];unfold valLv;rw[if_pos h0],?_⟩;unfold ofExpr;rw[if_pos h0];exact ofAtom_of h2
 ·rw[if_neg h0]
  obtain⟨h1,h2⟩:=wAtom_ok lv ok hv h hi.1;obtain⟨h3,h4⟩:=wAtom_ok lv ok hv h1.fol (hi.2 (by omega));have ha:=atomLv_rng lv ok hi.1;have hb:=atomLv_rng lv ok (hi.2 (by omega));have hl:=h3.len;have h1r:=h1.rng;have h3r:=h3.rng;have ea:nd (wAtom p vs (wAtom p vs ws e.a).2 e.b).2 (wAtom p vs ws e.a).1=⟨if e.a.var then 1 else 0,atomLv p vs e.a,e.a.v,0,0,[]⟩:=(h3.nd h1r).trans h2;have ev:valLv p vs e=jn p (atomLv p vs e.a) (atomLv p vs e.b):=(by unfold valLv;rw[if_neg h0])
  have hp:∀i∈Go.Proofs.YtminjljgedopkaaGreatDoor.prem (⟨2,valLv p vs e,e.op,(wAtom p vs ws e.a).1,(wAtom p vs (wAtom p vs ws e.a).2 e.b).1,[]⟩:Node),0<=i/\i<((wAtom p vs (wAtom p vs ws e.a).2 e.b).2.length:Int):=λi hi=>by
   simp only[Go.Proofs.YtminjljgedopkaaGreatDoor.prem,if_true,List.mem_cons,List.not_mem_nil,or_false]at hi;rcases hi with rfl|rfl
   ·omega
   ·exact h3r
  have hvr:=valLv_rng lv ok ho;have hj:=under_jn lv ha hb
  obtain⟨g1,g2,g3⟩:=put1_ok (n:=⟨2,valLv p vs e,e.op,(wAtom p vs ws e.a).1,(wAtom p vs (wAtom p vs ws e.a).2 e.b).1,[]⟩) h3.fol (by simp) (by
   unfold follows ruleOf;simp only[show ¬(2:Int)=0 by omega,show ¬(2:Int)=1 by omega,if_true,if_false,Bool.and_eq_true,decide_eq_true_eq];rw[ea,h4,ev];refine⟨by rw[<-ev];exact hvr.2,by have:=ho.2.1;omega,?_,?_,hj.1,hj.2⟩
   ·cases e.a.var<;>simp[role]
   ·cases e.b.var<;>simp[role]) hp
  have g4:=g1.len;have hnew:=h1.comp (h3.comp g1 (λhh=>g3 hh _ (by simp[Go.Proofs.YtminjljgedopkaaGreatDoor.prem]))) (λhh=>g3 (by omega) _ (by simp[Go.Proofs.YtminjljgedopkaaGreatDoor.prem]));refine⟨hnew,by rw[g2];simp[role],by rw[g2],?_⟩;unfold ofExpr;rw[if_neg h0,g2];simp only[decide_true,Bool.true_and,Bool.and_eq_true];exact⟨ofAtom_of ((g1.nd (by omega)).trans ea),ofAtom_of ((g1.nd h3r).trans h4)⟩
end
def ofOne_ext{p:Prog}{ls:List Int}{ws t:List Node}{nv nc d:Nat}(h:Fol p ls ws)(hK:∀(k:Int) (l:List Stmt),(0<=k/\k<ws.length)->StmtsOk nv nc d l->ofAll d (ws++t) k l=ofAll d ws k l){k:Int}(hk:0<=k/\k<ws.length){s:Stmt}(hs:KindOk nv nc s)(h1:StmtsOk nv nc d s.body)(h2:StmtsOk nv nc d s.other):
  ofOne (ofAll d (ws++t)) (ws++t) k s=ofOne (ofAll d ws) ws k s:=by
 unfold ofOne;rw[nd_ext hk]
 by_cases hkd:(nd ws k).kind=(s.kind:Int)
 ·have hp:=h.prem hk
  congr 1
  by_cases k5:s.kind=5
  ·simp only[k5,if_true]
   have hq:Go.Proofs.YtminjljgedopkaaGreatDoor.prem (nd ws k)=[(nd ws k).a,(nd ws k).b,(nd ws k).c]:=(by unfold Go.Proofs.YtminjljgedopkaaGreatDoor.prem;rw[if_neg (by omega),if_neg (by omega),if_pos (by omega)]);rw[hq]at hp;rw[ofExpr_ext h (hp _ (by simp)),hK _ _ (hp _ (by simp)) h1,hK _ _ (hp _ (by simp)) h2]
  ·by_cases k6:s.kind=6
   ·simp only[k6,show ¬(6:Nat)=5 by omega,if_true,if_false]
    have hq:Go.Proofs.YtminjljgedopkaaGreatDoor.prem (nd ws k)=[(nd ws k).a,(nd ws k).b]:=(by unfold Go.Proofs.YtminjljgedopkaaGreatDoor.prem;rw[if_neg (by omega),if_neg (by omega),if_neg (by omega),if_pos (by omega)]);rw[hq]at hp;rw[ofExpr_ext h (hp _ (by simp)),hK _ _ (hp _ (by simp)) h1]
   ·simp only[k5,k6,if_false]
    have hq:Go.Proofs.YtminjljgedopkaaGreatDoor.prem (nd ws k)=[(nd ws k).b]:=by
     unfold Go.Proofs.YtminjljgedopkaaGreatDoor.prem;rw[if_neg (by rcases hs with e|e|e|e<;>omega),if_pos (by rcases hs with e|e|e|e<;>omega)]
    rw[hq]at hp;rw[ofExpr_ext h (hp _ (by simp))]
 ·rw[decide_eq_false hkd,Bool.false_and,Bool.false_and]
def zz5{α:Type}{l:List α}{i:Nat}{x:α}(h:i<l.length):l.getD i x∈l:=by
 rw[List.getD_eq_getElem?_getD,List.getElem?_eq_getElem h];exact List.getElem_mem h
def ofAll_ext{p:Prog}{ls:List Int}{ws t:List Node}{nv nc:Nat}(h:Fol p ls ws):∀(d:Nat) (k:Int) (l:List Stmt),(0<=k/\k<ws.length)->StmtsOk nv nc d l->ofAll d (ws++t) k l=ofAll d ws k l
 |0,k,l,hk,_=>by unfold ofAll;rw[nd_ext hk]
 |d+1,k,l,hk,hs=>by
  unfold ofAll;rw[nd_ext hk]
  by_cases h7:(nd ws k).kind=7
  ·by_cases hl:(nd ws k).list.length=l.length
   ·have hp:=h.prem hk
    have hq:Go.Proofs.YtminjljgedopkaaGreatDoor.prem (nd ws k)=(nd ws k).list:=(by unfold Go.Proofs.YtminjljgedopkaaGreatDoor.prem;rw[if_neg (by omega),if_neg (by omega),if_neg (by omega),if_neg (by omega),if_pos h7]);rw[hq]at hp
    have e:((List.range l.length).all λi=>ofOne (ofAll d (ws++t)) (ws++t) ((nd ws k).list.getD i 0) (l.getD i noS))=(List.range l.length).all λi=>ofOne (ofAll d ws) ws ((nd ws k).list.getD i 0) (l.getD i noS):=all_same λi hi=>by
     rw[List.mem_range]at hi;obtain⟨g1,-,g3,g4⟩:=hs _ (zz5 (x:=noS) hi);exact ofOne_ext h (λk l hk hs=>ofAll_ext h d k l hk hs) (hp _ (zz5 (by omega))) g1 g3 g4
    rw[e]
   ·rw[decide_eq_false hl];simp
  ·rw[decide_eq_false h7];simp
section
variable{p:Prog}{ls vs:List Int}
structure PutS(p:Prog)(ls:List Int)(ws:List Node)(u:Int)(d:Nat)(s:Stmt)(r:Int×List Node):Prop where
 pu:Put p ls ws r
 kd:(nd r.2 r.1).kind=(s.kind:Int)
 le:(nd r.2 r.1).level=u
 on:ofOne (ofAll d r.2) r.2 r.1 s=true
structure PutB(p:Prog)(ls:List Int)(ws:List Node)(u:Int)(d:Nat)(l:List Stmt)(r:Int×List Node):Prop where
 pu:Put p ls ws r
 kd:(nd r.2 r.1).kind=7
 le:(nd r.2 r.1).level=u
 al:ofAll d r.2 r.1 l=true
def chan_rng(lv:p.Lv){i:Nat}(hi:i<p.chans.length):0<=(p.chans.map λ(y:Nat)=>(y:Int)).getD i 0/\(p.chans.map λ(y:Nat)=>(y:Int)).getD i 0<p.n:=by
 obtain⟨k,hk,e⟩:=zf4 lv hi;omega
def wStmt_ok(lv:p.Lv)(ok:LvOk p vs)(hv:vars p ls=vs){d:Nat}
  (IH:∀(ws:List Node) (l:List Stmt) (u:Int),Fol p ls ws->StmtsOk vs.length p.chans.length d l->(0<=u/\u<p.n)->(∀m∈moves p vs d l u,fitsM p vs m=true)->PutB p ls ws u d l (wBlock p vs d ws l u))
  {ws:List Node} (h:Fol p ls ws) {u:Int} (hu:0<=u/\u<p.n) {s:Stmt} (hk:KindOk vs.length p.chans.length s) (he:ExprOk vs.length s.e) (h1:StmtsOk vs.length p.chans.length d s.body) (h2:StmtsOk vs.length p.chans.length d s.other)
  (hm:∀m∈movesOne (moves p vs d) p vs u s,fitsM p vs m=true):PutS p ls ws u d s (wStmt (wBlock p vs d) p vs u ws s):=by
 have hvv:=wVal_ok lv ok hv h he;have hvr:=valLv_rng lv ok he;have hj:=lv.jn hu hvr;have huj:=under_jn lv hu hvr;have vr:=hvv.pu.rng;unfold wStmt;simp only;generalize wVal p vs ws s.e=v at*;generalize hL:jn p u (valLv p vs s.e)=L at*
 by_cases k5:s.kind=5
 ·rw[if_pos k5]
  have hmv:movesOne (moves p vs d) p vs u s=moves p vs d s.body L++moves p vs d s.other L:=(by unfold movesOne;rw[if_neg (by omega),if_pos (.inl k5),hL]);rw[hmv]at hm;have b1:=IH v.2 s.body L hvv.pu.fol h1 hj (λm hm'=>hm m (List.mem_append_left _ hm'));generalize wBlock p vs d v.2 s.body L=B1 at*;have b2:=IH B1.2 s.other L b1.pu.fol h2 hj (λm hm'=>hm m (List.mem_append_right _ hm'));generalize wBlock p vs d B1.2 s.other L=B2 at*;have r1:=b1.pu.rng;have r2:=b2.pu.rng;have l1:=b1.pu.len;have l2:=b2.pu.len;have e1:nd B2.2 v.1=nd v.2 v.1:=(b2.pu.nd (by omega)).trans (b1.pu.nd vr);have e2:nd B2.2 B1.1=nd B1.2 B1.1:=b2.pu.nd r1
  obtain⟨g1,g2,g3⟩:=put1_ok (n:=⟨5,u,v.1,B1.1,B2.1,[]⟩) b2.pu.fol (by simp) (by
   unfold follows ruleOf guards;simp only[show ¬(5:Int)=0 by omega,show ¬(5:Int)=1 by omega,show ¬(5:Int)=2 by omega,show ¬(5:Int)=3 by omega,show ¬(5:Int)=4 by omega,if_true,if_false,Bool.and_eq_true,decide_eq_true_eq];rw[e1,e2,hvv.ro,hvv.le,b1.kd,b1.le,b2.kd,b2.le]
   exact⟨hu.2,⟨rfl,by simp[role],huj.2,huj.1⟩,rfl,by simp[role],huj.2,huj.1⟩) (λi hi=>by
   simp only[Go.Proofs.YtminjljgedopkaaGreatDoor.prem,show ¬(5:Int)=2 by omega,show ¬((5:Int)=3\/(5:Int)=4) by omega,if_true,if_false,List.mem_cons,List.not_mem_nil,or_false]at hi
   rcases hi with rfl|rfl|rfl<;>omega)
  have m1:v.1∈Go.Proofs.YtminjljgedopkaaGreatDoor.prem (⟨5,u,v.1,B1.1,B2.1,[]⟩:Node):=(by simp[Go.Proofs.YtminjljgedopkaaGreatDoor.prem]);have m2:B1.1∈Go.Proofs.YtminjljgedopkaaGreatDoor.prem (⟨5,u,v.1,B1.1,B2.1,[]⟩:Node):=(by simp[Go.Proofs.YtminjljgedopkaaGreatDoor.prem]);have m3:B2.1∈Go.Proofs.YtminjljgedopkaaGreatDoor.prem (⟨5,u,v.1,B1.1,B2.1,[]⟩:Node):=(by simp[Go.Proofs.YtminjljgedopkaaGreatDoor.prem]);have l3:=g1.len;have q2:=b2.pu.comp g1 (λhh=>g3 hh _ m3);have q1:=b1.pu.comp q2 (λhh=>g3 (by omega) _ m2);have q0:=hvv.pu.comp q1 (λhh=>g3 (by omega) _ m1);generalize put1 B2.2 ⟨5,u,v.1,B1.1,B2.1,[]⟩=r at*;refine⟨q0,by rw[g2,k5];rfl,by rw[g2],?_⟩;unfold ofOne;rw[g2];simp only[k5,if_true,Bool.and_eq_true,decide_eq_true_eq];obtain⟨t0,x0⟩:=q1.ext;obtain⟨t1,x1⟩:=q2.ext;obtain⟨t2,x2⟩:=g1.ext;refine⟨rfl,?_,?_,?_⟩
  ·rw[x0,ofExpr_ext hvv.pu.fol vr];exact hvv.ex
  ·rw[x1,ofAll_ext b1.pu.fol d _ _ r1 h1];exact b1.al
  ·rw[x2,ofAll_ext b2.pu.fol d _ _ r2 h2];exact b2.al
 ·by_cases k6:s.kind=6
  ·rw[if_neg k5,if_pos k6]
   have hmv:movesOne (moves p vs d) p vs u s=moves p vs d s.body L++moves p vs d s.other L:=(by unfold movesOne;rw[if_neg (by omega),if_pos (.inr k6),hL]);rw[hmv]at hm;have b1:=IH v.2 s.body L hvv.pu.fol h1 hj (λm hm'=>hm m (List.mem_append_left _ hm'));generalize wBlock p vs d v.2 s.body L=B1 at*;have r1:=b1.pu.rng;have l1:=b1.pu.len;have e1:nd B1.2 v.1=nd v.2 v.1:=b1.pu.nd vr
   obtain⟨g1,g2,g3⟩:=put1_ok (n:=⟨6,u,v.1,B1.1,0,[]⟩) b1.pu.fol (by simp) (by
    unfold follows ruleOf guards;simp only[show ¬(6:Int)=0 by omega,show ¬(6:Int)=1 by omega,show ¬(6:Int)=2 by omega,show ¬(6:Int)=3 by omega,show ¬(6:Int)=4 by omega,show ¬(6:Int)=5 by omega,if_true,if_false,Bool.and_eq_true,decide_eq_true_eq];rw[e1,hvv.ro,hvv.le,b1.kd,b1.le]
    exact⟨hu.2,rfl,by simp[role],huj.2,huj.1⟩) (λi hi=>by
    simp only[Go.Proofs.YtminjljgedopkaaGreatDoor.prem,show ¬(6:Int)=2 by omega,show ¬((6:Int)=3\/(6:Int)=4) by omega,show ¬(6:Int)=5 by omega,if_true,if_false,List.mem_cons,List.not_mem_nil,or_false]at hi
    rcases hi with rfl|rfl<;>omega)
   have m1:v.1∈Go.Proofs.YtminjljgedopkaaGreatDoor.prem (⟨6,u,v.1,B1.1,0,[]⟩:Node):=(by simp[Go.Proofs.YtminjljgedopkaaGreatDoor.prem]);have m2:B1.1∈Go.Proofs.YtminjljgedopkaaGreatDoor.prem (⟨6,u,v.1,B1.1,0,[]⟩:Node):=(by simp[Go.Proofs.YtminjljgedopkaaGreatDoor.prem]);have l3:=g1.len;have q1:=b1.pu.comp g1 (λhh=>g3 hh _ m2);have q0:=hvv.pu.comp q1 (λhh=>g3 (by omega) _ m1);generalize put1 B1.2 ⟨6,u,v.1,B1.1,0,[]⟩=r at*;refine⟨q0,by rw[g2,k6];rfl,by rw[g2],?_⟩;unfold ofOne;rw[g2];simp only[k6,show ¬(6:Nat)=5 by omega,if_true,if_false,Bool.and_eq_true,decide_eq_true_eq];obtain⟨t0,x0⟩:=q1.ext;obtain⟨t1,x1⟩:=g1.ext;refine⟨rfl,?_,?_⟩
   ·rw[x0,ofExpr_ext hvv.pu.fol vr];exact hvv.ex
   ·rw[x1,ofAll_ext b1.pu.fol d _ _ r1 h1];exact b1.al
  ·rw[if_neg k5,if_neg k6]
   have h34:s.kind=3\/s.kind=4:=by rcases hk with e|e|e|e<;>omega
   have hmv:movesOne (moves p vs d) p vs u s=[(s,L)]:=(by unfold movesOne;rw[if_pos h34,hL]);rw[hmv]at hm;have hf:=hm (s,L) (by simp);unfold fitsM at hf;simp only at hf
   obtain⟨g1,g2,g3⟩:=put1_ok (n:=⟨s.kind,u,s.x,v.1,0,[]⟩) hvv.pu.fol (by simp only;omega) (by
    unfold follows ruleOf;rcases h34 with k3|k4
    ·have hx:s.x<vs.length:=by rcases hk with e|e|e|e<;>omega
     have hr:=ok.2 s.x hx;rw[if_neg (by omega)]at hf;rw[show ((s.kind:Nat):Int)=3 by omega];simp only[mayGo,show ¬(3:Int)=0 by omega,show ¬(3:Int)=1 by omega,show ¬(3:Int)=2 by omega,if_true,if_false,Bool.and_eq_true,decide_eq_true_eq,Int.toNat_natCast];rw[hv,hvv.ro,hvv.le];exact⟨hu.2,by omega,rfl,under_trans lv hvr hj hr huj.2 hf,under_trans lv hu hj hr huj.1 hf⟩
    ·have hx:s.x<p.chans.length:=by rcases hk with e|e|e|e<;>omega
     have hr:=chan_rng lv hx;rw[if_pos k4]at hf;rw[show ((s.kind:Nat):Int)=4 by omega];simp only[mayGo,show ¬(4:Int)=0 by omega,show ¬(4:Int)=1 by omega,show ¬(4:Int)=2 by omega,show ¬(4:Int)=3 by omega,if_true,if_false,Bool.and_eq_true,decide_eq_true_eq,Int.toNat_natCast];rw[hvv.ro,hvv.le]
     exact⟨hu.2,by simp;omega,rfl,under_trans lv hvr hj hr huj.2 hf,under_trans lv hu hj hr huj.1 hf⟩) (λi hi=>by
    have e:Go.Proofs.YtminjljgedopkaaGreatDoor.prem (⟨s.kind,u,s.x,v.1,0,[]⟩:Node)=[v.1]:=(by unfold Go.Proofs.YtminjljgedopkaaGreatDoor.prem;simp only;rw[if_neg (by omega),if_pos (by omega)]);rw[e]at hi;simp only[List.mem_singleton]at hi
    omega)
   have m1:v.1∈Go.Proofs.YtminjljgedopkaaGreatDoor.prem (⟨s.kind,u,s.x,v.1,0,[]⟩:Node):=(by unfold Go.Proofs.YtminjljgedopkaaGreatDoor.prem;simp only;rw[if_neg (by omega),if_pos (by omega)];simp);have q0:=hvv.pu.comp g1 (λhh=>g3 hh _ m1);generalize put1 v.2 ⟨s.kind,u,s.x,v.1,0,[]⟩=r at*;refine⟨q0,by rw[g2],by rw[g2],?_⟩;unfold ofOne;rw[g2];simp only[k5,k6,if_false,Bool.and_eq_true,decide_eq_true_eq];obtain⟨t0,x0⟩:=g1.ext;refine⟨trivial,trivial,?_⟩;rw[x0,ofExpr_ext hvv.pu.fol vr];exact hvv.ex
structure PutL(p:Prog)(ls:List Int)(ws:List Node)(u:Int)(d:Nat)(l:List Stmt)(r:List Int×List Node):Prop where
 fol:Fol p ls r.2
 ext:∃t,r.2=ws++t
 len:r.1.length=l.length
 all:∀i,i<l.length->(0<=r.1.getD i 0/\r.1.getD i 0<r.2.length)/\(nd r.2 (r.1.getD i 0)).kind=((l.getD i noS).kind:Int)/\(nd r.2 (r.1.getD i 0)).level=u/\ofOne (ofAll d r.2) r.2 (r.1.getD i 0) (l.getD i noS)=true
 new:r.2=ws\/((r.2.length:Int) - 1)∈r.1
def wAll_ok{nv nc d:Nat}{u:Int}{W:List Node->Stmt->Int×List Node}:∀(l:List Stmt) (ws:List Node),Fol p ls ws->StmtsOk nv nc (d+1) l->(∀s∈l,∀ws,Fol p ls ws->PutS p ls ws u d s (W ws s))->PutL p ls ws u d l (wAll W ws l)
 |[],ws,h,_,_=>⟨h,⟨[],by simp[wAll]⟩,rfl,λi hi=>by simp at hi,.inl rfl⟩
 |s::l,ws,h,hs,hW=>by
  have h1:=hW s (by simp) ws h;have h2:=wAll_ok l (W ws s).2 h1.pu.fol (λs hs'=>hs s (by simp[hs'])) (λs hs'=>hW s (by simp[hs']));obtain⟨t1,e1⟩:=h1.pu.ext;obtain⟨t2,e2⟩:=h2.ext;have r1:=h1.pu.rng;have hl:(W ws s).2.length<=(wAll W (W ws s).2 l).2.length:=(by rw[e2];simp);refine⟨h2.fol,⟨t1++t2,by show (wAll W (W ws s).2 l).2=_;rw[e2,e1,List.append_assoc]⟩,by show ((W ws s).1::(wAll W (W ws s).2 l).1).length=_;rw[List.length_cons,List.length_cons,h2.len],λi hi=>?_,?_⟩
  ·cases i with
   |zero=>
    show (0<=(W ws s).1/\(W ws s).1<((wAll W (W ws s).2 l).2.length:Int))/\(nd (wAll W (W ws s).2 l).2 (W ws s).1).kind=(s.kind:Int)/\(nd (wAll W (W ws s).2 l).2 (W ws s).1).level=u/\ofOne (ofAll d (wAll W (W ws s).2 l).2) (wAll W (W ws s).2 l).2 (W ws s).1 s=true;obtain⟨g1,-,g3,g4⟩:=hs s (by simp);refine⟨by omega,?_,?_,?_⟩
    ·rw[e2,nd_ext r1];exact h1.kd
    ·rw[e2,nd_ext r1];exact h1.le
    ·rw[e2,ofOne_ext h1.pu.fol (λk l hk hs=>ofAll_ext h1.pu.fol d k l hk hs) r1 g1 g3 g4];exact h1.on
   |succ i=>exact h2.all i (by simpa using hi)
  ·rcases h2.new with n2|n2
   ·rcases h1.pu.new with n1|n1
    ·exact .inl (n2.trans n1)
    ·refine .inr ?_
     show (((wAll W (W ws s).2 l).2.length:Int) - 1)∈(W ws s).1::(wAll W (W ws s).2 l).1;rw[n2,<-n1];simp
   ·exact .inr (List.mem_cons_of_mem _ n2)
def wBlock_ok(lv:p.Lv)(ok:LvOk p vs)(hv:vars p ls=vs):∀(d:Nat) (ws:List Node) (l:List Stmt) (u:Int),Fol p ls ws->StmtsOk vs.length p.chans.length d l->(0<=u/\u<p.n)->(∀m∈moves p vs d l u,fitsM p vs m=true)->PutB p ls ws u d l (wBlock p vs d ws l u)
 |0,ws,l,u,h,hs,hu,_=>by
  have hs:l=[]:=hs
  obtain⟨g1,g2,g3⟩:=put1_ok (n:=⟨7,u,0,0,0,[]⟩) h (by simp) (by
   unfold follows ruleOf;simp only[show ¬(7:Int)=0 by omega,show ¬(7:Int)=1 by omega,show ¬(7:Int)=2 by omega,show ¬(7:Int)=3 by omega,show ¬(7:Int)=4 by omega,show ¬(7:Int)=5 by omega,show ¬(7:Int)=6 by omega,if_false,Bool.and_eq_true,decide_eq_true_eq,List.all_nil]
   exact⟨hu.2,trivial⟩) (λi hi=>by simp[Go.Proofs.YtminjljgedopkaaGreatDoor.prem]at hi)
  unfold wBlock;refine⟨g1,by rw[g2],by rw[g2],?_⟩;unfold ofAll;rw[g2,hs];simp
 |d+1,ws,l,u,h,hs,hu,hm=>by
  have hL:=wAll_ok (p:=p) (ls:=ls) (d:=d) (u:=u) (W:=wStmt (wBlock p vs d) p vs u) l ws h hs (λs hs' ws' h'=>by
   obtain⟨a1,a2,a3,a4⟩:=hs s hs'
   exact wStmt_ok lv ok hv (wBlock_ok lv ok hv d) h' hu a1 a2 a3 a4 (λm hm'=>hm m (List.mem_flatMap.2 ⟨s,hs',hm'⟩)))
  unfold wBlock;generalize wAll (wStmt (wBlock p vs d) p vs u) ws l=r at*
  have hrole:∀i,i<l.length->role ((l.getD i noS).kind:Int)=1:=λi hi=>by
   rcases(hs _ (zz5 (x:=noS) hi)).1 with e|e|e|e<;>unfold role<;>rw[if_neg (by omega),if_pos (by omega)]
  have hmem:∀k∈r.1,∃i,i<l.length/\k=r.1.getD i 0:=λk hk=>by
   obtain⟨i,hi,e⟩:=List.getElem_of_mem hk;exact⟨i,by rw[<-hL.len];exact hi,by rw[List.getD_eq_getElem?_getD,List.getElem?_eq_getElem hi];exact e.symm⟩
  have hp7:Go.Proofs.YtminjljgedopkaaGreatDoor.prem (⟨7,u,0,0,0,r.1⟩:Node)=r.1:=(by simp[Go.Proofs.YtminjljgedopkaaGreatDoor.prem])
  obtain⟨g1,g2,g3⟩:=put1_ok (n:=⟨7,u,0,0,0,r.1⟩) hL.fol (by simp) (by
   unfold follows ruleOf;simp only[show ¬(7:Int)=0 by omega,show ¬(7:Int)=1 by omega,show ¬(7:Int)=2 by omega,show ¬(7:Int)=3 by omega,show ¬(7:Int)=4 by omega,show ¬(7:Int)=5 by omega,show ¬(7:Int)=6 by omega,if_false,Bool.and_eq_true,decide_eq_true_eq,List.all_eq_true];refine⟨hu.2,λk hk=>?_⟩;obtain⟨i,hi,rfl⟩:=hmem k hk;obtain⟨a1,a2,a3,a4⟩:=hL.all i hi;rw[a2,a3]
   exact⟨hrole i hi,under_refl lv hu⟩) (λk hk=>by
   rw[hp7]at hk;obtain⟨i,hi,rfl⟩:=hmem k hk
   exact(hL.all i hi).1)
  rw[hp7]at g3;obtain⟨t1,e1⟩:=hL.ext;obtain⟨t2,e2⟩:=g1.ext;have gr:=g1.rng;generalize put1 r.2 ⟨7,u,0,0,0,r.1⟩=q at*;refine⟨⟨g1.fol,⟨t1++t2,by rw[e2,e1,List.append_assoc]⟩,gr,?_⟩,by rw[g2],by rw[g2],?_⟩
  ·rcases g1.new with n|n
   ·rcases hL.new with n2|n2
    ·exact .inl (n.trans n2)
    ·exfalso
     have h5:=g3 (by rw[n]) _ n2;rw[n]at gr;omega
   ·exact .inr n
  ·unfold ofAll
   rw[g2];simp only[decide_true,Bool.true_and,Bool.and_eq_true,decide_eq_true_eq,List.all_eq_true,List.mem_range];refine⟨hL.len,λi hi=>?_⟩;obtain⟨a1,a2,a3,a4⟩:=hL.all i hi;obtain⟨b1,-,b3,b4⟩:=hs _ (zz5 (x:=noS) hi);rw[e2,ofOne_ext hL.fol (λk l hk hs=>ofAll_ext hL.fol d k l hk hs) a1 b1 b3 b4];exact a4
end
end Fl
namespace Fl
structure RS.Lv(r:RS):Prop where
 le:r.levels.length<=6
 ce:∀y∈r.cellLv,y<r.levels.length
 ch:∀y∈r.chanLv,y<r.levels.length
def lv0:RS.zero.Lv:=⟨by decide,λ_ h=>(by cases h),λ_ h=>(by cases h)⟩
def RS.Lv.same{r r':RS}(h:r.Lv)(e:r'.levels=r.levels/\r'.cellLv=r.cellLv/\r'.chanLv=r.chanLv):r'.Lv:=⟨by rw[e.1];exact h.le,by rw[e.1,e.2.1];exact h.ce,by rw[e.1,e.2.2];exact h.ch⟩
def RS.put_lv(r:RS)(s:Stmt):(r.put s).levels=r.levels/\(r.put s).cellLv=r.cellLv/\(r.put s).chanLv=r.chanLv:=by
 unfold RS.put;split<;>exact⟨rfl,rfl,rfl⟩
def RS.ends_lv(r:RS):r.ends.levels=r.levels/\r.ends.cellLv=r.cellLv/\r.ends.chanLv=r.chanLv:=by
 unfold RS.ends;split<;>exact⟨rfl,rfl,rfl⟩
def RS.elses_lv(r:RS):r.elses.levels=r.levels/\r.elses.cellLv=r.cellLv/\r.elses.chanLv=r.chanLv:=by
 unfold RS.elses;split<;>exact⟨rfl,rfl,rfl⟩
def RS.target_lv(r:RS)(n:List UInt8){x:Nat}{r':RS}(h:r.target n=some (x,r')):r'.levels=r.levels/\r'.cellLv=r.cellLv/\r'.chanLv=r.chanLv:=by
 unfold RS.target at h
 split at h
 ·simp only[Option.some.injEq,Prod.mk.injEq]at h;rw[<-h.2];exact⟨rfl,rfl,rfl⟩
 split at h
 ·simp only[Option.some.injEq,Prod.mk.injEq]at h;rw[<-h.2];exact⟨rfl,rfl,rfl⟩
 split at h
 ·cases h
 simp only[Option.some.injEq,Prod.mk.injEq]at h;rw[<-h.2];exact⟨rfl,rfl,rfl⟩
def RS.stmt_lv(r:RS)(a:Nat)(w:List (List UInt8)):(r.stmt a w).2.levels=r.levels/\(r.stmt a w).2.cellLv=r.cellLv/\(r.stmt a w).2.chanLv=r.chanLv:=by
 unfold RS.stmt
 split
 ·split
  ·exact⟨rfl,rfl,rfl⟩
  split
  ·split
   ·exact r.elses_lv
   exact⟨rfl,rfl,rfl⟩
  exact r.ends_lv
 ·split
  ·exact⟨rfl,rfl,rfl⟩
  split
  ·exact⟨rfl,rfl,rfl⟩
  exact⟨rfl,rfl,rfl⟩
 ·split
  ·exact⟨rfl,rfl,rfl⟩
  split
  ·split
   ·exact⟨rfl,rfl,rfl⟩
   split
   ·exact⟨rfl,rfl,rfl⟩
   exact r.put_lv _
  split
  ·exact⟨rfl,rfl,rfl⟩
  split
  ·exact⟨rfl,rfl,rfl⟩
  rename_i h
  split
  ·exact⟨rfl,rfl,rfl⟩
  have h1:=r.target_lv _ h;have h2:=RS.put_lv;exact⟨(h2 _ _).1.trans h1.1,(h2 _ _).2.1.trans h1.2.1,(h2 _ _).2.2.trans h1.2.2⟩
 exact⟨rfl,rfl,rfl⟩
def RS.Lv.head{r:RS}(h:r.Lv)(w:List (List UInt8)):(r.head w).2.Lv:=by
 unfold RS.head
 split
 ·split
  ·exact h.same ⟨rfl,rfl,rfl⟩
  exact h
 ·split
  ·exact h
  split
  ·exact h
  rename_i h6;have hl:=h.le;exact⟨by simp;omega,λy hy=>by have:=h.ce y hy;simp;omega,λy hy=>by have:=h.ch y hy;simp;omega⟩
 ·rename_i k n l
  have hp:=place_cases r.levels l
  split
  ·split
   ·exact h
   exact h.same ⟨rfl,rfl,rfl⟩
  split
  ·exact h
  rename_i hn;have h0:¬place r.levels l<0:=λq=>hn (.inl q)
  split
  ·split
   ·exact h
   refine⟨h.le,λy hy=>?_,h.ch⟩;rcases List.mem_append.1 hy with h1|h1
   ·exact h.ce y h1
   simp only[List.mem_singleton]at h1;show y<r.levels.length;omega
  split
  ·exact h
  refine⟨h.le,h.ce,λy hy=>?_⟩;rcases List.mem_append.1 hy with h1|h1
  ·exact h.ch y h1
  simp only[List.mem_singleton]at h1;show y<r.levels.length;omega
 exact h
def RS.Lv.row{r:RS}(h:r.Lv)(w:List (List UInt8))(a:Nat):(r.row w a).2.Lv:=by
 unfold RS.row
 split
 ·exact h
 split
 ·exact h.head w
 exact h.same (r.stmt_lv a w)
def rows_lv:∀(ls:List (List UInt8)) (r:RS) (i:Nat),r.Lv->(rows r i ls).2.2.Lv
 |[],r,i,h=>h
 |[l],r,i,h=>by
  rw[rows]
  split
  ·split<;>exact h
  exact h
 |l::m::ls,r,i,h=>by
  rw[rows]
  split
  ·exact h
  split
  ·exact h
  exact rows_lv (m::ls) _ (i+1) (h.row _ _)
def readProg_lv(s:List UInt8):(readProg s).2.2.n<=6/\(∀y∈(readProg s).2.2.cells,y<(readProg s).2.2.n)/\∀y∈(readProg s).2.2.chans,y<(readProg s).2.2.n:=by
 unfold readProg
 split
 ·exact⟨lv0.le,lv0.ce,lv0.ch⟩
 have h:=rows_lv (cutR 10 s) RS.zero 0 lv0;exact⟨h.le,h.ce,h.ch⟩
end Fl
namespace Fl
def RS.Tb(r' r:RS):Prop:=r'.levels=r.levels/\r'.low=r.low/\r'.high=r.high
def RS.put_tb(r:RS)(s:Stmt):(r.put s).Tb r:=by
 unfold RS.put;split<;>exact⟨rfl,rfl,rfl⟩
def RS.ends_tb(r:RS):r.ends.Tb r:=by
 unfold RS.ends;split<;>exact⟨rfl,rfl,rfl⟩
def RS.elses_tb(r:RS):r.elses.Tb r:=by
 unfold RS.elses;split<;>exact⟨rfl,rfl,rfl⟩
def RS.target_tb(r:RS)(n:List UInt8){x:Nat}{r':RS}(h:r.target n=some (x,r')):r'.Tb r:=by
 unfold RS.target at h
 split at h
 ·simp only[Option.some.injEq,Prod.mk.injEq]at h;rw[<-h.2];exact⟨rfl,rfl,rfl⟩
 ·split at h
  ·simp only[Option.some.injEq,Prod.mk.injEq]at h;rw[<-h.2];exact⟨rfl,rfl,rfl⟩
  ·split at h
   ·cases h
   ·simp only[Option.some.injEq,Prod.mk.injEq]at h;rw[<-h.2];exact⟨rfl,rfl,rfl⟩
def RS.stmt_tb(r:RS)(a:Nat)(w:List (List UInt8)):(r.stmt a w).2.Tb r:=by
 unfold RS.stmt
 split
 ·split
  ·exact⟨rfl,rfl,rfl⟩
  ·split
   ·split
    ·exact r.elses_tb
    ·exact⟨rfl,rfl,rfl⟩
   ·exact r.ends_tb
 ·split
  ·exact⟨rfl,rfl,rfl⟩
  ·split
   ·exact⟨rfl,rfl,rfl⟩
   ·exact⟨rfl,rfl,rfl⟩
 ·split
  ·exact⟨rfl,rfl,rfl⟩
  ·split
   ·split
    ·exact⟨rfl,rfl,rfl⟩
    ·split
     ·exact⟨rfl,rfl,rfl⟩
     ·exact r.put_tb _
   ·split
    ·exact⟨rfl,rfl,rfl⟩
    ·split
     ·exact⟨rfl,rfl,rfl⟩
     ·rename_i h
      split
      ·exact⟨rfl,rfl,rfl⟩
      ·have h1:=r.target_tb _ h
       have h2:=RS.put_tb;exact⟨(h2 _ _).1.trans h1.1,(h2 _ _).2.1.trans h1.2.1,(h2 _ _).2.2.trans h1.2.2⟩
 ·exact⟨rfl,rfl,rfl⟩
def RS.Lt(r:RS):Prop:=r.begun=true->lattice r.levels.length r.tab=true
def RS.Lt.head{r:RS}(h:r.begun=false)(w:List (List UInt8)):(r.head w).2.Lt:=by
 have h0:∀r':RS,r'.begun=r.begun->r'.Lt:=λr' e hb=>by rw[e,h]at hb;cases hb
 unfold RS.head
 split
 ·split
  ·rename_i hl
   exact λ_=>hl
  ·exact h0 _ rfl
 ·split
  ·exact h0 _ rfl
  ·split
   ·exact h0 _ rfl
   ·exact h0 _ rfl
 ·split
  ·split
   ·exact h0 _ rfl
   ·exact h0 _ rfl
  ·split
   ·exact h0 _ rfl
   ·split
    ·split
     ·exact h0 _ rfl
     ·exact h0 _ rfl
    ·split
     ·exact h0 _ rfl
     ·exact h0 _ rfl
 ·exact h0 _ rfl
def RS.Lt.row{r:RS}(h:r.Lt)(w:List (List UInt8))(a:Nat):(r.row w a).2.Lt:=by
 unfold RS.row
 split
 ·exact h
 ·rename_i hne
  split
  ·rename_i hh
   refine RS.Lt.head ?_ w
   cases hb:r.begun with
   |false=>rfl
   |true=>exact absurd (hh.trans hb.symm) hne
  ·rename_i hh
   have hb:r.begun=true:=by
    cases hb:r.begun with
    |true=>rfl
    |false=>exact absurd ((Bool.eq_false_iff.2 hh).trans hb.symm) hne
   obtain⟨e1,e2,e3⟩:=r.stmt_tb a w;intro _;have h5:=h hb;unfold RS.tab at h5⊢;rw[e1,e2,e3];exact h5
def rows_lt:∀(ls:List (List UInt8)) (r:RS) (i:Nat),r.Lt->(rows r i ls).2.2.Lt
 |[],r,i,h=>h
 |[l],r,i,h=>by
  rw[rows]
  split
  ·split<;>exact h
  ·exact h
 |l::m::ls,r,i,h=>by
  rw[rows]
  split
  ·exact h
  ·split
   ·exact h
   ·exact rows_lt (m::ls) _ (i+1) (h.row _ _)
def readProg_Lv(s:List UInt8)(h0:(readProg s).1=0):(readProg s).2.2.Lv:=by
 obtain⟨h1,h2,h3⟩:=readProg_lv s;refine⟨h1,?_,h2,h3⟩;unfold readProg at h0⊢
 by_cases hs:1200<s.length
 ·rw[if_pos hs]at h0;cases h0
 ·rw[if_neg hs]at h0⊢
  obtain⟨-,hb,-,-⟩:=rows_ok _ RS.zero 0 fine0 h0;exact RS.lat (rows_lt (cutR 10 s) RS.zero 0 (λh=>by cases h) hb)
end Fl
def zn7{p:Fl.Prog}(h:p.Lv):Fl.LvOk p (Fl.start p):=by
 unfold Fl.start Fl.vars;refine⟨by simp,λi hi=>?_⟩;rw[List.getD_eq_getElem?_getD]
 by_cases hc:i<p.cells.length
 ·rw[List.getElem?_append_left (by simpa using hc),List.getElem?_map,List.getElem?_eq_getElem hc]
  have:=h.ce _ (List.getElem_mem hc);simp only[Option.map_some,Option.getD_some];omega
 ·rw[List.getElem?_append_right (by simp;omega),List.getElem?_replicate]
  have:=h.low;simp at hi;rw[if_pos (by simp;omega)];exact this
namespace Fl
def raise_ok{p:Prog}(lv:p.Lv)(ho:p.Ok):∀(f:Nat) (vs:List Int),LvOk p vs->LvOk p (raise p f vs)/\(raise p f vs).take p.cells.length=vs.take p.cells.length
 |0,vs,h=>⟨h,rfl⟩
 |f+1,vs,h=>by
  unfold raise
  split
  ·rename_i vs' hr
   unfold rise at hr
   split at hr
   ·rename_i m hm
    injection hr with hr;subst hr;have hp:=List.find?_some (p:=λm=>ofLocal p m.1 && !fitsM p vs m) hm;have hmem:=List.mem_of_find?_eq_some hm;rw[Bool.and_eq_true]at hp;have hlow:=lv.low;have hin:=zv2 lv h 4 p.body (low p).toNat (by rw[h.1];exact ho.body) (by omega) m (by rw[show (((low p).toNat:Nat):Int)=low p by omega];exact hmem);have h1:=(rise_ok lv h hin hp.1 (by simpa using hp.2)).1;obtain⟨g1,g2⟩:=raise_ok lv ho f _ h1;refine⟨g1,g2.trans ?_⟩;have hl:=hp.1;unfold ofLocal at hl;rw[Bool.and_eq_true,decide_eq_true_eq,decide_eq_true_eq]at hl;rw[List.take_set,List.set_eq_of_length_le (by rw[List.length_take];omega)]
   ·cases hr
  ·exact⟨h,rfl⟩
def found_ok{p:Prog}(lv:p.Lv)(ho:p.Ok):LvOk p (found p)/\vars p ((found p).drop p.cells.length)=found p:=by
 obtain⟨h1,h2⟩:=raise_ok lv ho 25 (start p) (zn7 lv);refine⟨h1,?_⟩;have e:(start p).take p.cells.length=p.cells.map (λ(x:Nat)=>(x:Int)):=by
  unfold start vars;rw[List.take_append_of_le_length (by simp),List.take_of_length_le (by simp)]
 show p.cells.map (λ(x:Nat)=>(x:Int))++(found p).drop p.cells.length=found p;rw[<-e,<-h2];exact List.take_append_drop _ _
def LPos:Nat->List Stmt->Prop
 |0,_=>True
 |d+1,l=>∀s∈l,0<s.line/\LPos d s.body/\LPos d s.other
def moves_line{p:Prog}{vs:List Int}:∀(d:Nat) (l:List Stmt) (u:Int),LPos d l->∀m∈moves p vs d l u,0<m.1.line
 |0,_,_,_,m,hm=>by cases hm
 |d+1,l,u,h,m,hm=>by
  obtain⟨s,hs,hm⟩:=List.mem_flatMap.1 (show m∈l.flatMap (movesOne (moves p vs d) p vs u) from hm);obtain⟨h1,h2,h3⟩:=h s hs;unfold movesOne at hm
  split at hm
  ·rw[List.mem_singleton]at hm
   rw[hm];exact h1
  ·split at hm
   ·rcases List.mem_append.1 hm with hm|hm
    ·exact moves_line d _ _ h2 m hm
    ·exact moves_line d _ _ h3 m hm
   ·cases hm
def fits_all{p:Prog}{vs:List Int}(hl:LPos 4 p.body)(h:firstDown p vs=0):∀m∈moves p vs 4 p.body (low p),fitsM p vs m=true:=λm hm=>by
 unfold firstDown at h
 split at h
 ·rename_i m' hm'
  have:=moves_line 4 p.body (low p) hl m' (List.mem_of_find?_eq_some hm');omega
 ·rename_i hn
  rw[List.find?_eq_none]at hn;have:=hn m hm;simpa using this
def mem_getD{l:List Int}{v:Int}(h:v∈l):∃i,i<l.length/\l.getD i 0=v:=by
 obtain⟨i,hi,e⟩:=List.getElem_of_mem h;exact⟨i,hi,by rw[List.getD_eq_getElem?_getD,List.getElem?_eq_getElem hi];exact e⟩
def infer_check{p:Prog}(lv:p.Lv)(ho:p.Ok)(hl:LPos 4 p.body)(h0:(infer p).1=0):check p (infer p).2.1 (infer p).2.2=(0,-1)/\ofAll 4 (infer p).2.2 (((infer p).2.2.length:Int) - 1) p.body=true:=by
 unfold infer at h0⊢
 by_cases hd:0<firstDown p (found p)
 ·rw[if_pos hd]at h0;simp only at h0;omega
 rw[if_neg hd];obtain⟨hv,hvr⟩:=found_ok lv ho;have hB:=wBlock_ok lv hv hvr 4 [] p.body (low p) (Fol.nil _ _) (by rw[hv.1];exact ho.body) lv.low (fits_all hl (by omega));simp only;generalize wBlock p (found p) 4 [] p.body (low p)=r at*;have hr:r.1=(r.2.length:Int) - 1:=by
  rcases hB.pu.new with n|n
  ·have:=hB.pu.rng
   rw[n]at this;simp at this;omega
  ·exact n
 have hal:ofAll 4 r.2 ((r.2.length:Int) - 1) p.body=true:=by rw[<-hr];exact hB.al
 refine⟨?_,hal⟩;unfold check;rw[if_neg,find_none _ _ (λj hj=>by rw[(hB.pu.fol j hj).2.1];rfl)]
 ·simp only
  rw[hal];rfl
 ·rintro(h|h)
  ·exact h (by rw[List.length_drop,hv.1];omega)
  ·obtain⟨v,hm,hc⟩:=List.any_eq_true.1 h
   obtain⟨i,hi,e⟩:=mem_getD (List.mem_of_mem_drop hm);have:=hv.2 i hi;have:=of_decide_eq_true hc;omega
structure RS.Pos(r:RS):Prop where
 top:∀d,LPos d r.top
 fr:∀f∈r.fr,0<f.line/\(∀d,LPos d f.first)/\∀d,LPos d f.els
def LPos.snoc{l:List Stmt}(h:∀d,LPos d l){s:Stmt}(hs:0<s.line)(h1:∀d,LPos d s.body)(h2:∀d,LPos d s.other):∀d,LPos d (l++[s])
 |0=>trivial
 |d+1=>λx hx=>by
  rcases List.mem_append.1 hx with hx|hx
  ·exact h (d+1) x hx
  ·rw[List.mem_singleton]at hx
   rw[hx];exact⟨hs,h1 d,h2 d⟩
def LPos.nil:∀d,LPos d []
 |0=>trivial
 |d+1=>λx hx=>by cases hx
def pos0:RS.zero.Pos:=⟨LPos.nil,λf hf=>by cases hf⟩
def RS.Pos.put{r:RS}(h:r.Pos){s:Stmt}(hs:0<s.line)(h1:∀d,LPos d s.body)(h2:∀d,LPos d s.other):(r.put s).Pos:=by
 unfold RS.put
 split
 ·exact⟨LPos.snoc h.top hs h1 h2,h.fr⟩
 ·rename_i f fs hf
  have hfr:=h.fr;rw[hf]at hfr;have h0:=hfr f (by simp);refine⟨h.top,λg hg=>?_⟩;rcases List.mem_cons.1 hg with rfl|hg
  ·split
   ·exact⟨h0.1,h0.2.1,LPos.snoc h0.2.2 hs h1 h2⟩
   ·exact⟨h0.1,LPos.snoc h0.2.1 hs h1 h2,h0.2.2⟩
  ·exact hfr g (by simp[hg])
def RS.Pos.ends{r:RS}(h:r.Pos):r.ends.Pos:=by
 unfold RS.ends
 split
 ·exact h
 ·rename_i f hf
  have hfr:=h.fr;rw[hf]at hfr;have h0:=hfr f (by simp);exact⟨LPos.snoc (s:=f.done) h.top h0.1 h0.2.1 h0.2.2,λg hg=>by cases hg⟩
 ·rename_i f g fs hf
  have hfr:=h.fr;rw[hf]at hfr;have h0:=hfr f (by simp);have h9:=hfr g (by simp);refine⟨h.top,λg' hg=>?_⟩;rcases List.mem_cons.1 hg with rfl|hg
  ·split
   ·exact⟨h9.1,h9.2.1,LPos.snoc (s:=f.done) h9.2.2 h0.1 h0.2.1 h0.2.2⟩
   ·exact⟨h9.1,LPos.snoc (s:=f.done) h9.2.1 h0.1 h0.2.1 h0.2.2,h9.2.2⟩
  ·exact hfr g' (by simp[hg])
def RS.Pos.elses{r:RS}(h:r.Pos):r.elses.Pos:=by
 unfold RS.elses
 split
 ·exact h
 ·rename_i f fs hf
  have hfr:=h.fr;rw[hf]at hfr;have h0:=hfr f (by simp);refine⟨h.top,λg hg=>?_⟩;rcases List.mem_cons.1 hg with rfl|hg
  ·exact h0
  ·exact hfr g (by simp[hg])
def RS.Pos.same{r r':RS}(h:r.Pos)(e:r'.top=r.top/\r'.fr=r.fr):r'.Pos:=⟨by rw[e.1];exact h.top,by rw[e.2];exact h.fr⟩
def RS.target_tf(r:RS)(n:List UInt8){x:Nat}{r':RS}(h:r.target n=some (x,r')):r'.top=r.top/\r'.fr=r.fr/\r'.begun=r.begun:=by
 unfold RS.target at h
 split at h
 ·simp only[Option.some.injEq,Prod.mk.injEq]at h;rw[<-h.2];exact⟨rfl,rfl,rfl⟩
 ·split at h
  ·simp only[Option.some.injEq,Prod.mk.injEq]at h;rw[<-h.2];exact⟨rfl,rfl,rfl⟩
  ·split at h
   ·cases h
   ·simp only[Option.some.injEq,Prod.mk.injEq]at h;rw[<-h.2];exact⟨rfl,rfl,rfl⟩
def RS.Pos.stmt{r:RS}(h:r.Pos){a:Nat}(ha:0<a)(w:List (List UInt8)):(r.stmt a w).2.Pos:=by
 unfold RS.stmt
 split
 ·split
  ·exact h
  ·split
   ·split
    ·exact h.elses
    ·exact h
   ·exact h.ends
 ·split
  ·exact h
  ·split
   ·exact h
   ·refine⟨h.top,λg hg=>?_⟩
    rcases List.mem_cons.1 hg with rfl|hg
    ·exact⟨ha,LPos.nil,LPos.nil⟩
    ·exact h.fr g hg
 ·split
  ·exact h
  ·split
   ·split
    ·exact h
    ·split
     ·exact h
     ·exact h.put ha LPos.nil LPos.nil
   ·split
    ·exact h
    ·split
     ·exact h
     ·rename_i hh
      split
      ·exact h
      ·have h1:=r.target_tf _ hh
       exact(h.same ⟨h1.1,h1.2.1⟩).put ha LPos.nil LPos.nil
 ·exact h
def RS.head_same(r:RS)(w:List (List UInt8)):(r.head w).2.top=r.top/\(r.head w).2.fr=r.fr:=by
 unfold RS.head
 repeat' split
 all_goals exact⟨rfl,rfl⟩
def RS.Pos.row{r:RS}(h:r.Pos)(w:List (List UInt8)){a:Nat}(ha:0<a):(r.row w a).2.Pos:=by
 unfold RS.row
 split
 ·exact h
 ·split
  ·exact h.same (r.head_same w)
  ·exact h.stmt ha w
def rows_pos:∀(ls:List (List UInt8)) (r:RS) (i:Nat),r.Pos->(rows r i ls).2.2.Pos
 |[],r,i,h=>h
 |[l],r,i,h=>by
  rw[rows]
  split
  ·split<;>exact h
  ·exact h
 |l::m::ls,r,i,h=>by
  rw[rows]
  split
  ·exact h
  ·split
   ·exact h
   ·exact rows_pos (m::ls) _ (i+1) (h.row _ (by omega))
def readProg_pos(s:List UInt8)(d:Nat):LPos d (readProg s).2.2.body:=by
 unfold readProg
 split
 ·exact pos0.top d
 ·exact(rows_pos (cutR 10 s) RS.zero 0 pos0).top d
end Fl
open Go.RowKit
section
variable{s:List UInt8}{n q1 q2 M q0:Nat}{ls:List Int}{z:Int}
def zd7(hh:Fl.headAt s=3)(h3:3<=s.length)(hb:(Fl.numB s 3 0 4).2.1<0):Fl.decode s=(([],[]),false,(Fl.numB s 3 0 4).2.2):=by
 have a0:=Fl.num_ok s 3 h3;unfold Fl.decode;rw[hh,if_neg (by decide)];simp only;unfold Fl.numB at*
 by_cases h1:(Fl.num s 3).2.1<0
 ·rw[if_pos h1,if_pos h1]
 rw[if_neg h1]at hb;rw[if_neg h1,if_neg h1]
 by_cases h2:(Fl.num s 3).1<0\/4<(Fl.num s 3).1
 ·rw[if_pos h2,if_pos (by omega)];rfl
 rw[if_neg h2]at hb;exact absurd hb h1
def zuz(hh:Fl.headAt s=3)(hn:Fl.num s 3=((n:Int),(q1:Int),0))(a0:n<=4):
  Fl.decode s=(let l:=Fl.nums s q1 n
   if l.2.1<0 then(([],[]),false,l.2.2) else
   let m:=Fl.num s l.2.1.toNat
   if m.2.1<0 then(([],[]),false,m.2.2) else
   if m.1<1\/200<m.1 then(([],[]),false,l.2.1) else
   let r:=Fl.nodesA s m.1.toNat 0 m.2.1.toNat [] []
   if 0<=r.2.2.2 then(([],[]),false,r.2.2.2) else
   if r.2.2.1<s.length then(([],[]),false,r.2.2.1) else
   if 0<=Fl.shaped r.1 then(([],[]),false,r.2.1.getD (Fl.shaped r.1).toNat 0) else((l.1,r.1),true,0)):=by
 unfold Fl.decode;rw[hh,if_neg (by decide)];simp only[hn];rw[if_neg (by omega),if_neg (by omega)];rfl
def zd8(hh:Fl.headAt s=3)(hn:Fl.num s 3=((n:Int),(q1:Int),0))(a0:n<=4)(hl:(Fl.nums s q1 n).2.1<0):Fl.decode s=(([],[]),false,(Fl.nums s q1 n).2.2):=by
 rw[zuz hh hn a0];simp only;rw[if_pos hl]
def zd9(hh:Fl.headAt s=3)(hn:Fl.num s 3=((n:Int),(q1:Int),0))(a0:n<=4)(hl:Fl.nums s q1 n=(ls,(q2:Int),z))(b0:q2<=s.length)(hm:(Fl.numB s q2 1 200).2.1<0):Fl.decode s=(([],[]),false,(Fl.numB s q2 1 200).2.2):=by
 rw[zuz hh hn a0];simp only[hl,Int.toNat_natCast];rw[if_neg (by omega)];unfold Fl.numB at*
 by_cases h1:(Fl.num s q2).2.1<0
 ·rw[if_pos h1,if_pos h1]
 rw[if_neg h1]at hm;rw[if_neg h1,if_neg h1]
 by_cases h2:(Fl.num s q2).1<1\/200<(Fl.num s q2).1
 ·rw[if_pos h2,if_pos h2]
 rw[if_neg h2]at hm;exact absurd hm h1
def zww(s:List UInt8)(ls:List Int)(M q0:Nat):(List Int×List Fl.Node)×Bool×Int:=
 let r:=Fl.nodesA s M 0 q0 [] []
 if 0<=r.2.2.2 then(([],[]),false,r.2.2.2) else
 if r.2.2.1<s.length then(([],[]),false,r.2.2.1) else
 if 0<=Fl.shaped r.1 then(([],[]),false,r.2.1.getD (Fl.shaped r.1).toNat 0) else((ls,r.1),true,0)
def zb9(hh:Fl.headAt s=3)(hn:Fl.num s 3=((n:Int),(q1:Int),0))(a0:n<=4)(hl:Fl.nums s q1 n=(ls,(q2:Int),z))(hm:Fl.num s q2=((M:Int),(q0:Int),0))(h1:1<=M)(h2:M<=200):Fl.decode s=zww s ls M q0:=by
 rw[zuz hh hn a0];simp only[hl,Int.toNat_natCast,hm];rw[if_neg (by omega),if_neg (by omega),if_neg (by omega)];rfl
end
section
variable{s:List UInt8}{M q0:Nat}{w:World}{b P0:Nat}{lv:Value}{ls:List Int}{wr:World}{k q:Nat}{sv nv:Value}{st:List Int}{acc:List Fl.Node}{lvs:List Value}
def PL.fails(h:PL s M q0 w b P0 lv ls wr k q sv nv st acc lvs)(hk:k<M)(hb:(Fl.one s q k).2.1<0):zww s ls M q0=(([],[]),false,(Fl.one s q k).2.2):=by
 have a0:=Fl.one_ok s q k h.hq;have hr:Fl.nodesA s M 0 q0 [] []=(acc,st,(q:Int),(Fl.one s q k).2.2):=by
  rw[h.hrun,show M - k=(M - (k+1))+1 from by omega];simp only[Fl.nodesA];rw[if_pos hb]
 unfold zww;simp only[hr];rw[if_pos (by omega)]
def PL.ends(h:PL s M q0 w b P0 lv ls wr k q sv nv st acc lvs)(hk:¬k<M):zww s ls M q0=if q<s.length then(([],[]),false,(q:Int)) else if 0<=Fl.shaped acc then(([],[]),false,st.getD (Fl.shaped acc).toNat 0) else((ls,acc),true,0):=by
 have a0:k=M:=by have:=h.hk;omega
 have hr:Fl.nodesA s M 0 q0 [] []=(acc,st,(q:Int),-1):=by
  rw[h.hrun,a0,Nat.sub_self];rfl
 unfold zww;simp only[hr];rw[if_neg (by decide)]
 by_cases h1:q<s.length
 ·rw[if_pos (by omega),if_pos h1]
 rw[if_neg (by omega),if_neg h1]
end
end Go.Proofs.YtminjljgedopkaaGreatDoor
