import Derived.Test.YtjmcibbdedlcoaaGreatDoorM12
import Derived.LaidEql
import Derived.RowKitTokens
set_option linter.all false
set_option maxRecDepth 100000
set_option maxHeartbeats 40000000
namespace Go.Proofs.YtjmcibbdedlcoaaGreatDoor
open Go.RowKit Go.Proofs.Tryz List World Value Fl
variable{w w' w0 w1 w2:World}{b cap B n Pb k:Nat}{ao:Option Addr}{s:K}{o1 o2 o3 o4:Obj}{a:Addr}{u v v1:Value}
def zrv(bs:Value):Array Value:=#[bs,I 0]++Zc++ #[Zq]
def ymw(w:World)(o0 o1 o2 o3 o4 o5:Obj):((((((w.alloc o0).alloc o1).alloc o2).alloc o3).alloc o4).alloc o5).heap[w.heap.size]?=some o0/\
  ((((((w.alloc o0).alloc o1).alloc o2).alloc o3).alloc o4).alloc o5).heap[w.heap.size+2]?=some o2/\
  ((((((w.alloc o0).alloc o1).alloc o2).alloc o3).alloc o4).alloc o5).heap[w.heap.size+3]?=some o3/\
  ((((((w.alloc o0).alloc o1).alloc o2).alloc o3).alloc o4).alloc o5).heap[w.heap.size+4]?=some o4/\
  ((((((w.alloc o0).alloc o1).alloc o2).alloc o3).alloc o4).alloc o5).heap[w.heap.size+5]?=some o5/\
  ((((((w.alloc o0).alloc o1).alloc o2).alloc o3).alloc o4).alloc o5).heap.size=w.heap.size+6/\
  E w ((((((w.alloc o0).alloc o1).alloc o2).alloc o3).alloc o4).alloc o5):=by
 have a:∀(u:World) (o:Obj) (k:Nat),k<u.heap.size->(u.alloc o).heap[k]?=u.heap[k]?:=λu o k hk=>Below.heap_alloc _ _ _ hk
 have l:∀(u:World) (o:Obj) (k:Nat),u.heap.size=k->(u.alloc o).heap[k]?=some o:=λu o k hk=>by subst hk;exact heap_alloc_last u o
 refine⟨?_,?_,?_,?_,?_,by simp,((((((Below.refl _ w).alloc lE _).alloc (by simp<;>omega) _).alloc (by simp<;>omega) _).alloc (by simp<;>omega) _).alloc (by simp<;>omega) _).alloc (by simp<;>omega) _⟩
 ·rw[a _ _ _ (by simp<;>omega),a _ _ _ (by simp<;>omega),a _ _ _ (by simp<;>omega),a _ _ _ (by simp<;>omega),a _ _ _ (by simp<;>omega),l _ _ _ rfl]
 ·rw[a _ _ _ (by simp<;>omega),a _ _ _ (by simp<;>omega),a _ _ _ (by simp<;>omega),l _ _ _ (by simp<;>omega)]
 ·rw[a _ _ _ (by simp<;>omega),a _ _ _ (by simp<;>omega),l _ _ _ (by simp<;>omega)]
 ·rw[a _ _ _ (by simp<;>omega),l _ _ _ (by simp<;>omega)]
 rw[l _ _ _ (by simp<;>omega)]
def zz9(w:World)(b j:Nat)(c:Array Value)(te:TypeId)(h:w.heap[b]?=some (.cells c te)):w.frozen? (Y b j)=false:=by simp[frozen?,h]
def dec_at0(bs:Value):(zrv bs)[0]?=some bs:=by kernel_rfl
def dec_at1(bs:Value):(zrv bs)[1]?=some (I 0):=by kernel_rfl
def yd1(bs:Value):(zrv bs)[34]?=some Zq:=by kernel_rfl
def yh0{bs:Value}(q:∀i,w.cell? (Y b i)=(zrv bs)[i]?):Yf w b 2:=by
 intro k hk
 have:k=0\/k=1\/k=2\/k=3\/k=4\/k=5\/k=6\/k=7:=by omega
 rcases this with rfl|rfl|rfl|rfl|rfl|rfl|rfl|rfl<;>exact⟨(q _).trans (by kernel_rfl),(q _).trans (by kernel_rfl),(q _).trans (by kernel_rfl)⟩
def W5(w:World)(bs:Value):World:=((((w.alloc (.cells #[Zq,Zq] 89)).alloc (.cells Zc 134)).alloc (.cells (zrv bs) 137)).alloc (.cells #[Pp (w.heap.size+2) 0] 130)).alloc (.cells #[Zq,Zq] 89)
structure zay(r:(Is×List ar)×Bool×Int)(w:World)(e:Ending)(w':World):Prop where
 hB:E w w'
 cH:w.heap.size+6<=w'.heap.size
 c0:w'.cell? (Y w.heap.size 0)=some Zq
 c1:w'.cell? (Y w.heap.size 1)=some Zq
 fz:∀j,w'.frozen? (Y w.heap.size j)=false
 eQ:r.2.1=false->∃q,e=.returned (.iface 78 (M q))/\w.heap.size+6<=q/\w'.cell? (Y q 0)=some (I 8)/\w'.cell? (Y q 1)=some (I r.2.2)
 gx:r.2.1=true->∃la n lc na n' nc,e=.returned .nilIface/\w'.cell? (Y (w.heap.size+4) 0)=some (J la n lc)/\w'.cell? (Y (w.heap.size+4) 1)=some (J na n' nc)/\∀w'',Xi (w.heap.size+6) w' w''->Zw w''.heap.size w'' (J la n lc) r.1.1/\Yz w''.heap.size w'' (J na n' nc) r.1.2
def yu8(hs:s.length<=1099511627776)(hb:s≠[]->∃bb bo,ao=some (Y bb bo)/\bb<w.heap.size/\∀i,i<s.length->w.cell? (Y bb (bo+i))=some (.int .u8 (s.getD i 0).toNat)):
  F 39 #[.func (.func 43) #[] #[Pp (w.heap.size+3) 0,Pp (w.heap.size+4) 0]] (W5 w (J ao s.length cap)) (zay (Fl.decode s) w):=by
 obtain⟨r0,r2,r3,r4,r5,cH,hB⟩:let W:=(W5 w (J ao s.length cap)).alloc (.cells #[.nilIface] 60);_:=ymw w (.cells #[Zq,Zq] 89) (.cells Zc 134) (.cells (zrv (J ao s.length cap)) 137) (.cells #[Pp (w.heap.size+2) 0] 130) (.cells #[Zq,Zq] 89) (.cells #[.nilIface] 60)
 have h5:(W5 w (J ao s.length cap)).heap.size=w.heap.size+5:=by simp[W5]
 change ((W5 w (J ao s.length cap)).alloc (.cells #[.nilIface] 60)).heap[w.heap.size]?=_ at r0
 change ((W5 w (J ao s.length cap)).alloc (.cells #[.nilIface] 60)).heap[w.heap.size+2]?=_ at r2
 change ((W5 w (J ao s.length cap)).alloc (.cells #[.nilIface] 60)).heap[w.heap.size+3]?=_ at r3
 change ((W5 w (J ao s.length cap)).alloc (.cells #[.nilIface] 60)).heap[w.heap.size+4]?=_ at r4
 change ((W5 w (J ao s.length cap)).alloc (.cells #[.nilIface] 60)).heap[w.heap.size+5]?=_ at r5
 change ((W5 w (J ao s.length cap)).alloc (.cells #[.nilIface] 60)).heap.size=_ at cH
 change E w ((W5 w (J ao s.length cap)).alloc (.cells #[.nilIface] 60)) at hB
 have c0:=za9 43 #[Pp (w.heap.size+3) 0,Pp (w.heap.size+4) 0] (W5 w (J ao s.length cap));generalize hW6:(W5 w (J ao s.length cap)).alloc (.cells #[.nilIface] 60)=W6 at*;rw[h5]at c0;have cc:∀(b i:Nat) (c:Array Value) (te:TypeId),W6.heap[b]?=some (.cells c te)->W6.cell? (Y b i)=c[i]?:=λb i c te h=>cell_of_row W6 b i c te (0,0) h;have g0:Dr W6 (w.heap.size+2) ao cap s 0:=by
  refine⟨(cc _ _ _ _ r2).trans (dec_at0 _),(cc _ _ _ _ r2).trans (dec_at1 _),zz9 _ _ _ _ _ r2,λa0=>?_,Nat.zero_le _,hs⟩;obtain⟨bb,bo,ha,b0,hc⟩:=hb a0;exact⟨bb,bo,ha,by omega,λi hi=>cT hB b0 (hc i hi)⟩
 have h0:Yf W6 (w.heap.size+2) 2:=yh0 (λi=>cc _ i _ _ r2);have i0:=yiv (Qu:=w.heap.size+3) (P:=w.heap.size+4) g0 h0 ((cc _ _ _ _ r2).trans (yd1 _)) (λj=>zz9 _ _ _ _ _ r2) ((cc _ _ _ _ r3).trans rfl) ((cc _ _ _ _ r4).trans rfl) ((cc _ _ _ _ r4).trans rfl) (λj=>zz9 _ _ _ _ _ r4) (by omega);have far:∀{w1:World},W6.grownBy w1 (some (w.heap.size+2))->(∀k,k<w.heap.size+6->k≠w.heap.size+2->w1.heap[k]?=W6.heap[k]?)/\w.heap.size+6<=w1.heap.size:=λg=>⟨λk hk a0=>g.block k (by omega) (by simpa using a0),by have:=g.size;omega⟩;have lF:∀(u:World) (i:Nat) (v:Value) (k:Nat),k≠w.heap.size+4->(u.setCell (Y (w.heap.size+4) i) v).heap[k]?=u.heap[k]?:=λu i v k hk=>Below.heap_setCell _ _ _ _ (by intro h;exact hk (by simpa using h));refine(c0 (λw'=>(Fl.decode s).2.1=true/\yiw (Fl.decode s) (w.heap.size+2) (w.heap.size+3) (w.heap.size+4) W6 (.returned (.tuple #[])) w') (λn pl w'=>(Fl.decode s).2.1=false/\n=8/\pl=(Fl.decode s).2.2/\W6.grownBy w' (some (w.heap.size+2))) (λW=>by kernel_rfl) (i0.mono ?_)).mono ?_
 ·rintro e w' hd
  cases hr:(Fl.decode s).2.1 with
  |false=>
   obtain⟨rfl,hg⟩:=hd.1 hr;have h5':=(far hg).1 (w.heap.size+5) (by omega) (by omega);exact⟨(Qc (w:=W6) (a:=(Y (w.heap.size+5) 0)) h5').trans ((cc _ _ _ _ r5).trans rfl),(Qd (w:=W6) (a:=(Y (w.heap.size+5) 0)) h5').trans (zz9 _ _ _ _ _ r5),.inr ⟨_,_,rfl,rfl,rfl,rfl,hg⟩⟩
  |true=>
   obtain⟨lv,nv,w1,rfl,hg,rfl,j0,dx⟩:=hd.2 hr;have h5':((w1.setCell (Y (w.heap.size+4) 0) lv).setCell (Y (w.heap.size+4) 1) nv).heap[w.heap.size+5]?=W6.heap[w.heap.size+5]?:=by
    rw[lF _ _ _ _ (by omega),lF _ _ _ _ (by omega)];exact(far hg).1 (w.heap.size+5) (by omega) (by omega)
   exact⟨(Qc (w:=W6) (a:=(Y (w.heap.size+5) 0)) h5').trans ((cc _ _ _ _ r5).trans rfl),(Qd (w:=W6) (a:=(Y (w.heap.size+5) 0)) h5').trans (zz9 _ _ _ _ _ r5),.inl ⟨rfl,rfl,hd⟩⟩
 have belowG:∀{w1:World},W6.grownBy w1 (some (w.heap.size+2))->E w w1:=λg=>⟨g.os.trans hB.os,g.tape.trans hB.tape,g.output.trans hB.output,Nat.le_trans hB.size g.size,λk hk=>(g.block k (by omega) (by simp;omega)).trans (hB.block k hk)⟩;rintro e wz (⟨w2,rfl,⟨hr,hd⟩,rfl⟩|⟨n,pl,w1,o,rfl,⟨hr,rfl,rfl,hg⟩,rfl⟩)
 ·obtain⟨lv,nv,w1,-,hg,rfl,⟨la,n,lc,na,n',nc,rfl,rfl⟩,dx⟩:=hd.2 hr
  have oJ:∀(u:World) (v:Value) (k:Nat),k≠w.heap.size+5->(u.setCell (Y (w.heap.size+5) 0) v).heap[k]?=u.heap[k]?:=λu v k hk=>Below.heap_setCell _ _ _ _ (by intro h;exact hk (by simpa using h))
  have aH:∀k,k≠w.heap.size+4->k≠w.heap.size+5->(((w1.setCell (Y (w.heap.size+4) 0) (J la n lc)).setCell (Y (w.heap.size+4) 1) (J na n' nc)).setCell (Y (w.heap.size+5) 0) .nilIface).heap[k]?=w1.heap[k]?:=λk h4 h5=>by
   rw[oJ _ _ _ h5,lF _ _ _ _ h4,lF _ _ _ _ h4]
  have hn:(((w1.setCell (Y (w.heap.size+4) 0) (J la n lc)).setCell (Y (w.heap.size+4) 1) (J na n' nc)).setCell (Y (w.heap.size+5) 0) .nilIface).heap[w.heap.size]?=W6.heap[w.heap.size]?:=(aH _ (by omega) (by omega)).trans ((far hg).1 _ (by omega) (by omega));have e0:=(far hg).1 (w.heap.size+4) (by omega) (by omega);have p0:D w1 (w.heap.size+4) 0 Zq:=(Qc (w:=W6) (a:=(Y (w.heap.size+4) 0)) e0).trans ((cc _ _ _ _ r4).trans rfl);have p1:D w1 (w.heap.size+4) 1 Zq:=(Qc (w:=W6) (a:=(Y (w.heap.size+4) 1)) e0).trans ((cc _ _ _ _ r4).trans rfl);refine⟨(((belowG hg).setCell (show w.heap.size<=((Y (w.heap.size+4) 0):Addr).block by simp) _).setCell (show w.heap.size<=((Y (w.heap.size+4) 1):Addr).block by simp) _).setCell (show w.heap.size<=((Y (w.heap.size+5) 0):Addr).block by simp) _,?_,?_,?_,?_,?_,?_⟩
  ·have:=(far hg).2;simpa using this
  ·exact(Qc (w:=W6) (a:=(Y w.heap.size 0)) hn).trans ((cc _ _ _ _ r0).trans rfl)
  ·exact(Qc (w:=W6) (a:=(Y w.heap.size 1)) hn).trans ((cc _ _ _ _ r0).trans rfl)
  ·exact λj=>(Qd (w:=W6) (a:=(Y w.heap.size j)) hn).trans (zz9 _ _ _ _ _ r0)
  ·intro h;rw[hr]at h;cases h
  intro _;have d0:(((w1.setCell (Y (w.heap.size+4) 0) (J la n lc)).setCell (Y (w.heap.size+4) 1) (J na n' nc)).setCell (Y (w.heap.size+5) 0) .nilIface).cell? (Y (w.heap.size+4) 0)=some (J la n lc):=by
   refine(Qg _ _ _ _ (by simp)).trans ((Qg _ _ _ _ (by simp)).trans ?_);exact cell?_setCell_same' _ _ _ (by simp[p0])
  have d1:(((w1.setCell (Y (w.heap.size+4) 0) (J la n lc)).setCell (Y (w.heap.size+4) 1) (J na n' nc)).setCell (Y (w.heap.size+5) 0) .nilIface).cell? (Y (w.heap.size+4) 1)=some (J na n' nc):=by
   refine(Qg _ _ _ _ (by simp)).trans (cell?_setCell_same' _ _ _ ?_);refine(congrArg Option.isSome (Qg _ _ _ _ (by simp))).trans ?_;simp[p1]
  refine⟨la,n,lc,na,n',nc,rfl,d0,d1,λw'' hs''=>dx w'' ⟨?_,λk hk b0=>?_⟩⟩
  ·have:=hs''.size;simpa using this
  rw[cH]at hk;exact(hs''.block k (by omega) (by simpa using b0)).trans (aH k (by omega) (by omega))
 have k0:=(far hg).2
 have aH:∀v k,k<w.heap.size+5->(((w1.alloc o).alloc (.cells #[I 8,I (Fl.decode s).2.2] 82)).setCell (Y (w.heap.size+5) 0) v).heap[k]?=w1.heap[k]?:=λv k hk=>by
  rw[Below.heap_setCell _ _ _ _ (by simp;omega),Below.heap_alloc _ _ _ (by simp;omega),Below.heap_alloc _ _ _ (by omega)]
 have hn:=λv=>(aH v w.heap.size (by omega)).trans ((far hg).1 w.heap.size (by omega) (by omega))
 have hq:∀v,(((w1.alloc o).alloc (.cells #[I 8,I (Fl.decode s).2.2] 82)).setCell (Y (w.heap.size+5) 0) v).heap[w1.heap.size+1]?=some (.cells #[I 8,I (Fl.decode s).2.2] 82):=λv=>by
  rw[Below.heap_setCell _ _ _ _ (by simp;omega)];have:=heap_alloc_last (w1.alloc o) (.cells #[I 8,I (Fl.decode s).2.2] 82);simpa using this
 have f0:=λv i=>cell_of_row _ (w1.heap.size+1) i _ _ (0,0) (hq v);refine⟨(((belowG hg).alloc (by omega) _).alloc (by simp;omega) _).setCell (show w.heap.size<=((Y (w.heap.size+5) 0):Addr).block by simp) _,by simp;omega,?_,?_,?_,?_,?_⟩
 ·exact(Qc (w:=W6) (a:=(Y w.heap.size 0)) (hn _)).trans ((cc _ _ _ _ r0).trans rfl)
 ·exact(Qc (w:=W6) (a:=(Y w.heap.size 1)) (hn _)).trans ((cc _ _ _ _ r0).trans rfl)
 ·exact λj=>(Qd (w:=W6) (a:=(Y w.heap.size j)) (hn _)).trans (zz9 _ _ _ _ _ r0)
 ·exact λ_=>⟨_,rfl,by omega,(f0 _ 0).trans rfl,(f0 _ 1).trans rfl⟩
 intro h;rw[hr]at h;cases h
def zjv{wz:World}{N:Nat}{u0 u1:Value}(v0 v1:Value)(c0:wz.cell? (Y N 0)=some u0)(c1:wz.cell? (Y N 1)=some u1):
  ((wz.setCell (Y N 0) v0).setCell (Y N 1) v1).cell? (Y N 0)=some v0/\((wz.setCell (Y N 0) v0).setCell (Y N 1) v1).cell? (Y N 1)=some v1/\
  (∀k,k≠N->((wz.setCell (Y N 0) v0).setCell (Y N 1) v1).heap[k]?=wz.heap[k]?)/\((wz.setCell (Y N 0) v0).setCell (Y N 1) v1).heap.size=wz.heap.size/\
  (∀B w,Below B w wz->B<=N->Below B w ((wz.setCell (Y N 0) v0).setCell (Y N 1) v1)):=by
 refine⟨?_,?_,λk hk=>?_,by simp,λB w h hB=>(h.setCell (show B<=((Y N 0):Addr).block from hB) _).setCell (show B<=((Y N 1):Addr).block from hB) _⟩
 ·exact(Qg _ _ _ _ (by simp)).trans (cell?_setCell_same' _ _ _ (by simp[c0]))
 ·refine cell?_setCell_same' _ _ _ ((congrArg Option.isSome (Qg _ _ _ _ (by simp))).trans ?_)
  simp[c1]
 exact(Below.heap_setCell _ _ _ _ (by intro h;exact hk (by simpa using h))).trans (Below.heap_setCell _ _ _ _ (by intro h;exact hk (by simpa using h)))
def ymv(r:(Is×List ar)×Bool×Int)(w:World)(e:Ending)(w':World):Prop:=
 E w w'/\
 (r.2.1=false->∃q,e=.returned (.tuple #[.agg #[Zq,Zq],.iface 78 (M q)])/\w'.cell? (Y q 0)=some (I 8)/\w'.cell? (Y q 1)=some (I r.2.2))/\
 (r.2.1=true->∃la n lc na n' nc,e=.returned (.tuple #[.agg #[J la n lc,J na n' nc],.nilIface])/\∀w'',Xi w.heap.size w' w''->Zw w''.heap.size w'' (J la n lc) r.1.1/\Yz w''.heap.size w'' (J na n' nc) r.1.2)
def yr4(hs:s.length<=1099511627776)(hb:s≠[]->∃bb bo,ao=some (Y bb bo)/\bb<w.heap.size/\∀i,i<s.length->w.cell? (Y bb (bo+i))=some (.int .u8 (s.getD i 0).toNat)):
  F 26 #[J ao s.length cap] w (ymv (Fl.decode s) w):=by
 have g0:∀(fn:Fn) (first cap:Array Value) (w:World),(Instr.makeFunc fn first cap).run prog w=.ok (.func fn first cap) w:=λ_ _ _ _=>rfl;have HC:O (F 39 #[.func (.func 43) #[] #[Pp (w.heap.size+3) 0,Pp (w.heap.size+4) 0]] (W5 w (J ao s.length cap)) (zay (Fl.decode s) w)):=yu8 (cap:=cap) hs hb;clear hs hb
 go_enter func26,ntmps26
 go_wp2_with (first|(go_at_call 42;refine(zqw _).mono ?_;rintro e w1 ⟨rfl,rfl⟩)|(refine Uq rfl 137 _ rfl (zrv (J ao s.length cap)) (by kernel_rfl) ?_))
 refine(HC.out).mono ?_;clear HC;rintro e wz ⟨hB,cH,c0,c1,fz,a0,aQ⟩;have HB:=A hB;clear hB
 cases hr:(Fl.decode s).2.1 with
 |false=>
  obtain⟨q,rfl,hq,q0,q1⟩:=a0 hr;have b0:=A hr;clear a0 aQ hr
  go_wp2_with fail
  obtain⟨e0,e1,ek,es,eb⟩:=zjv Zq Zq c0 c1;exact bodyPost_ret (v:=.tuple #[.agg #[Zq,Zq],.iface 78 (M q)]) (by simp[results,results26,go_sem,e0,e1]) rfl
   ⟨eb _ _ HB lE,λ_=>⟨q,rfl,(Qc (w:=wz) (a:=(Y q 0)) (ek q (by omega))).trans q0,(Qc (w:=wz) (a:=(Y q 1)) (ek q (by omega))).trans q1⟩,λh=>by rw[b0.out]at h;cases h⟩
 |true=>
  obtain⟨la,n,lc,na,n',nc,rfl,d0,d1,dx⟩:=aQ hr;have b0:=A hr;have f0:=A dx;clear a0 aQ hr dx
  go_wp2_with fail
  obtain⟨e0,e1,ek,es,eb⟩:=zjv (J la n lc) (J na n' nc) c0 c1;exact bodyPost_ret (v:=.tuple #[.agg #[J la n lc,J na n' nc],.nilIface]) (by simp[results,results26,go_sem,e0,e1]) rfl
   ⟨eb _ _ HB lE,λh=>(by rw[b0.out]at h;cases h),λ_=>⟨la,n,lc,na,n',nc,rfl,λw'' hs''=>f0 w'' ⟨Nat.le_trans (Nat.le_of_eq es.symm) hs''.size,λk hk hlt=>(hs''.block k (by omega) (Qj hlt (Nat.le_of_eq es.symm))).trans (ek k (by omega))⟩⟩⟩
def yh1(r:Nat×Is×List ar)(w:World)(e:Ending)(w':World):Prop:=
  E w w'/\
  ((0<r.1/\∃a,e=.returned (.tuple #[.agg #[Zq,Zq],.iface 78 (M a)])/\w'.cell? (Y a 0)=some (I 7)/\w'.cell? (Y a 1)=some (I r.1))\/
   (r.1=0/\∃la n lc na n' nc,e=.returned (.tuple #[.agg #[J la n lc,J na n' nc],.nilIface])/\Zw w'.heap.size w' (J la n lc) r.2.1/\Yz w'.heap.size w' (J na n' nc) r.2.2))
def yh2{off:Nat}{xs:Is}(h:Zw B w (Sq b off n cap) xs)(k:Nat)(hk:k<=xs.length):Zw B w (Sq b (off+k) (n - k) (cap - k)) (xs.drop k):=by
 obtain⟨ao,cp,e,h1,h2,h3⟩:=h;injection e with e1 e2 e3;subst e2;subst e3;refine⟨_,_,by rw[length_drop],by rw[length_drop];omega,by rw[length_drop];omega,λa0=>?_⟩;obtain⟨b',o',ea,hb',hc⟩:=h3 (by rintro rfl;simp at a0);rw[ea]at e1;injection e1 with e1;injection e1 with e4 e5;subst e4;subst e5;refine⟨b,off+k,rfl,hb',λi hi=>?_⟩;rw[length_drop]at hi;rw[Nat.add_assoc,hc (k+i) (by omega)]
 congr 2
 rw[Qa,Qa,getElem?_drop]
def zm5(V:World)(ao:Option Addr)(n cap k:Nat)(hk:k<=n)(hc:n<=cap):(Instr.slice 22 (J ao n cap) (some (I k)) none none).run prog V=.ok (J (if cap=k then ao else ao.map (·.add k)) (n - k) (cap - k)) V:=by
 have h1:(k:Int)<=(n:Int):=by omega
 have h2:(n:Int)<=(cap:Int):=by omega
 simp[Instr.slice,run_underlying underlying22,Instr.sliceBounds,Instr.sliceBound,asIntOf,go_sem,h1,h2];intro hh;omega
def yd2{W:World}{Lb:Nat}{bC bH bv vv:Value}{p:aV}{vs:Is}(h1:Pb<w.heap.size)(h2:Lb<w.heap.size)(h3:Zh w Pb 5 (rw_ [ptr Lb,bC,bH,I p.ak,bv]))(h4:Un w Lb p.n p.leq)(h5:zw2 (λb=>b<w.heap.size) w bC p.cells)(h6:zw2 (λb=>b<w.heap.size) w bH p.aj)(h7:Zl 4 (λb=>b<w.heap.size) w bv p.aZ)(ok:p.Ok)(lv:p.Lv)(hb:E w W)(vi:Zw W.heap.size W vv vs)(lo:di p vs):
  Vd (W.alloc (.cells #[M Pb,vv] 151)) W.heap.size Pb Lb bC bH bv vv (λb=>b<w.heap.size) p vs:=by
 obtain⟨W3,b0⟩:=U (W.alloc (.cells #[M Pb,vv] 151))
 have hB:E W W3:=by rw[b0];exact bA
 have a0:E w W3:=hb.trans (hB.mono hb.size)
 have rC:W3.heap[W.heap.size]?=some (.cells #[M Pb,vv] 151 (0,0)):=by rw[b0];exact heap_alloc_last _ _
 have d0:W3.heap.size=W.heap.size+1:=by rw[b0];simp
 rw[<-b0];have q:∀j,W3.cell? (Y Pb j)=w.cell? (Y Pb j):=λj=>a0.cell (p:=(Y Pb j)) h1;have hs:=a0.size;exact{hF:=by omega,c0:=cR 0 rC,c1:=cR 1 rC,lv:=⟨⟨by omega,by omega⟩,(q _).trans (h3.c 0 (by omega)),h4.block (a0.block _ h2),lv⟩,p1:=(q _).trans (h3.c 1 (by omega)),p2:=(q _).trans (h3.c 2 (by omega)),p4:=(q _).trans (h3.c 4 (by omega)),ce:=(by obtain⟨a,c,e,-⟩:=h5;exact⟨a,c,e⟩),ch:=((h6.ints (λb hb=>hb)).below a0).mono a0.size,vi:=(vi.below hB).mono hB.size,bo:=Zl.kept (λ_ h=>h) (λb hs=>a0.block b hs) _ _ _ h7,hS:=λb hs=>by omega,ok:=lo,pk:=ok}
def yl0{p:aV}(hp:Ui (λb=>b<w.heap.size) w Pb p)(ok:p.Ok)(lv:p.Lv):F 28 #[M Pb] w (yh1 (bF p) w):=by
 obtain⟨Lb,bC,bH,bv,h1,h2,h3,h4,h5,h6,h7⟩:=hp
 obtain⟨ca,cc,rfl⟩:∃a c,bC=J a p.cells.length c:=by obtain⟨a,c,e,-⟩:=h5;exact⟨a,c,e⟩
 have q:∀W,E w W->∀j,W.cell? (Y Pb j)=w.cell? (Y Pb j):=λW hW j=>hW.cell (p:=(Y Pb j)) h1
 have S0:O (∀W,E w W->F 50 #[M Pb] W λe w'=>∃lv,e=.returned lv/\Zw w'.heap.size w' lv (replicate p.ak (aI p))/\E W w'):=λW hW=>by
  have hz:=hW.size;exact ze0 ⟨⟨by omega,by omega⟩,(q W hW 0).trans (h3.c 0 (by omega)),h4.block (hW.block _ h2),lv⟩ ((q W hW 3).trans (h3.c 3 (by omega))) ok.lo
 have T0:O (∀W v,E w W->Zw W.heap.size W v (replicate p.ak (aI p))->F 46 #[M Pb,v] W λe w'=>E W w'/\(∀j,w'.frozen? (Y W.heap.size j)=false)/\W.heap.size<w'.heap.size/\∃v,e=.returned v/\w'.ownsRow (W.heap.size+1) 3 1 v (Fl.start p).length ((Fl.start p).map (int .i64))):=λW v hW hv=>by
  have hz:=hW.size;exact zdv (by omega) ((q W hW 1).trans (h3.c 1 (by omega))) (((h5.ints (λb hb=>hb)).below hW).mono hW.size) hv ⟨by have:=ok.ce;simp;omega,by have:=ok.lo;simp;omega⟩
 have U0:O (∀W v,E w W->Zw W.heap.size W v (Fl.start p)->Vd (W.alloc (.cells #[M Pb,v] 151)) W.heap.size Pb Lb (J ca p.cells.length cc) bH bv v (λb=>b<w.heap.size) p (Fl.start p)):=λW v hW hv=>yd2 h1 h2 h3 h4 h5 h6 h7 ok lv hW hv (zt1 lv)
 have V0:O (∀b' o n cap,0<n->bH=Sq b' o n cap->b'<w.heap.size):=λb' o n cap hn e=>by
  obtain⟨ao,cp,e2,-,-,h4⟩:=h6;rw[e]at e2;injection e2 with e3 e4 e5;obtain⟨b,e6,hb,-⟩:=h4 (by rintro hh;rw[hh]at e4;simp at e4;omega);rw[e6]at e3;injection e3 with e3;injection e3 with e3;rw[e3];exact hb
 have X0:O ((Fl.start p).length=p.cells.length+p.ak):=(zt1 lv).1;have a0:O (bF p=if 0<cY p (bJ p) then(cY p (bJ p),[],[]) else(0,(bJ p).drop p.cells.length,(aD p (bJ p) 4 [] p.aZ (aI p)).2)):=rfl;have A1:p.cells.length<=6:=ok.ce;have Q1:p.ak<=4:=ok.lo;obtain⟨RES,m0⟩:=U (bF p);rw[<-m0]at a0⊢;clear q h3 h4 h5 h6 h7 ok lv m0
 go_enter func28,ntmps28
 go_wp2_with fail
 obtain⟨W0,n0⟩:=U (w.alloc (.cells #[Zq,Zq] 89));rw[<-n0]
 have s0:O (E w W0):=by show Below _ _ _;rw[n0];exact bA
 have Y0:O (W0.heap[w.heap.size]?=some (.cells #[Zq,Zq] 89 (0,0))):=by show _=_;rw[n0];exact heap_alloc_last _ _
 have B1:w.heap.size<W0.heap.size:=by rw[n0];simp
 clear n0;refine(S0 _ s0).mono ?_;rintro e W1 ⟨lv1,rfl,B0,t0⟩
 obtain⟨la1,n1,lc1,rfl⟩:∃a n c,lv1=J a n c:=by obtain⟨a,c,e⟩:=Vv B0;exact⟨a,_,c,e⟩
 have Z0:=A B0;have C0:O (E w W1):=s0.trans (t0.mono s0.size);have a1:O (W1.heap[w.heap.size]?=some (.cells #[Zq,Zq] 89 (0,0))):=(t0.block _ B1).trans Y0.out
 have C1:w.heap.size<W1.heap.size:=by have:=t0.size;omega
 clear B0 t0 S0 Y0
 go_wp2_with fail
 refine(T0 _ _ C0 Z0).mono ?_;rintro e W2 ⟨D0,b1,D1,v,rfl,ho⟩;have E0:Zw W2.heap.size W2 v (Fl.start p):=yv3 ho;obtain⟨b,va,vc,rfl,E1,i1,ee,F0,j1⟩:∃b va vc,v=J va (Fl.start p).length vc/\W1.heap.size<=b/\b<W2.heap.size/\(∀j,W2.frozen? (Y b j)=false)/\(∀b' o n cap,v=Sq b' o n cap->b'=b)/\((va=none/\(Fl.start p).length=0/\vc=0)\/(va=some (Y b 0)/\(Fl.start p).length<=vc)):=by
  rcases id ho.2 with⟨rfl,h0⟩|⟨g,cap,cur,rfl,hb,hg,h3,h4,h5,h6⟩
  ·exact⟨W1.heap.size,none,0,by rw[h0],lE,D1,b1,λb' o n cap e=>(by injection e with e;cases e),.inl ⟨rfl,h0,rfl⟩⟩
  exact⟨g,some (Y g 0),cap,rfl,by omega,(by refine Classical.byContradiction λhn=>?_;rw[Array.getElem?_eq_none (by omega)]at hg;cases hg),λj=>zz9 _ _ _ _ _ hg,λb' o n cap e=>(by injection e with e;injection e with e;injection e with e;exact e.symm),.inr ⟨rfl,h3⟩⟩
 have u0:=A E0;have G0:O (E w W2):=C0.trans (D0.mono C0.size);have k1:O (W2.heap[w.heap.size]?=some (.cells #[Zq,Zq] 89 (0,0))):=(D0.block _ C1).trans a1.out;have F1:=A F0;have i0:=A j1;obtain⟨W3,v0⟩:=U (W2.alloc (.cells #[M Pb,J va (Fl.start p).length vc] 151))
 have o0:E W2 W3:=by rw[v0];exact bA
 have l1:O (Vd W3 W2.heap.size Pb Lb (J ca p.cells.length cc) bH bv (J va (Fl.start p).length vc) (λb=>b<w.heap.size) p (Fl.start p)):=by show Vd _ _ _ _ _ _ _ _ _ _ _;rw[v0];exact U0 _ _ G0 E0
 have p0:O (zrx W3 b W2.heap.size Pb Lb bH (λb=>b<w.heap.size)):=
  ⟨by omega,by omega,by omega,λc hc=>(by omega),λb' o n cap hn e=>(by have:=V0 b' o n cap hn e;omega),λj=>(o0.frozen (p:=(Y b j)) i1).trans (ee j),by have:=o0.size;omega⟩
 have m1:O (F 51 #[M W2.heap.size] W3 (zlw W3 b b W2.heap.size Pb Lb (J ca p.cells.length cc) bH bv (J va (Fl.start p).length vc) (λb=>b<w.heap.size) p (Fl.start p))):=zf8 l1 p0 F0 lE;have G1:O (E w W3):=G0.trans (o0.mono G0.size);have o1:O (W3.heap[w.heap.size]?=some (.cells #[Zq,Zq] 89 (0,0))):=(o0.block _ (by omega)).trans k1.out;clear E0 F0 j1 ho D0 o0 b1 ee T0 U0 u0 Z0 p0 l1 V0
 go_wp2_with fail
 rw[<-v0];clear v0;refine m1.mono ?_;rintro e W4 ⟨rfl,H0,-,I0⟩;have J0:=A H0;have r1:O (E w W4):=G1.trans (I0.mono (by omega));have s1:O (W4.heap[w.heap.size]?=some (.cells #[Zq,Zq] 89 (0,0))):=(I0.block _ (by omega)).trans o1.out;have K0:O (F 52 #[M W2.heap.size] W4 (Rw (I (cY p (bJ p))) W4)):=yy6 J0.out;have H1:W2.heap.size<W4.heap.size:=H0.hF;obtain⟨FD,t1⟩:=U (cY p (bJ p));rw[<-t1]at K0 a0;clear H0 I0 m1 t1
 go_wp2_with fail
 refine K0.mono ?_;rintro e W5 ⟨rfl,x0⟩;have L0:O (E w W5):=r1.trans (x0.mono r1.size);have y0:O (W5.heap[w.heap.size]?=some (.cells #[Zq,Zq] 89 (0,0))):=(x0.block _ (by omega)).trans s1.out;have j0:O (Vd W5 W2.heap.size Pb Lb (J ca p.cells.length cc) bH bv (J va (Fl.start p).length vc) (λb=>b<w.heap.size) p (bJ p)):=J0.below x0;have R1:W2.heap.size<W5.heap.size:=j0.hF;have c0:D W5 w.heap.size 0 Zq:=cR 0 y0.out;have c1:D W5 w.heap.size 1 Zq:=cR 1 y0.out;have fz:∀j,W5.frozen? (Y w.heap.size j)=false:=λj=>zz9 _ _ _ _ _ y0.out
 have q0:w.heap.size<W5.heap.size:=by omega
 clear x0 K0
 by_cases z0:0<FD
 ·have HE:O (RES=(FD,[],[])):=by show _=_;rw[a0.out,G z0]
  have S1:(0:Int)<(FD:Int):=(by omega)
  go_wp2_with fail
  obtain⟨e0,e1,ek,es,eb⟩:=zjv (wz:=W5) Zq Zq c0 c1;obtain⟨W6,I1⟩:=U ((W5.setCell (Y w.heap.size 0) Zq).setCell (Y w.heap.size 1) Zq);have l0:=eb _ _ L0 lE;rw[<-I1]at e0 e1 es l0⊢;have f0:∀o,D (W6.alloc o) w.heap.size 0 Zq:=λo=>(Qf _ _ _ (by rw[es];exact q0)).trans e0;have f1:∀o,D (W6.alloc o) w.heap.size 1 Zq:=λo=>(Qf _ _ _ (by rw[es];exact q0)).trans e1;refine bodyPost_ret (v:=.tuple #[.agg #[Zq,Zq],.iface 78 (M W5.heap.size)]) (by simp[results,results28,go_sem,f0,f1]) rfl
   ⟨l0.alloc l0.size _,.inl ⟨by rw[HE.out];exact z0,_,rfl,?_,?_⟩⟩
  ·rw[<-es]
   simp
  rw[<-es,HE.out];simp
 have HE:O (RES=(0,(bJ p).drop p.cells.length,(aD p (bJ p) 4 [] p.aZ (aI p)).2)):=by show _=_;rw[a0.out,Z z0]
 have J1:FD=0:=by omega
 subst J1;have u1:O (∀V,E W5 V->F 53 #[M W2.heap.size] V λe w'=>∃nv,e=.returned nv/\(∀w'',Xi V.heap.size w' w''->Yz w''.heap.size w'' nv (aD p (bJ p) 4 [] p.aZ (aI p)).2)/\E V w'):=λV hV=>yn9 (j0.below hV);have HS:O (∀V,E W5 V->D V W2.heap.size 1 (J va (Fl.start p).length vc)/\D V Pb 1 (J ca p.cells.length cc)):=λV hV=>⟨(j0.below hV).c1,(j0.below hV).p1⟩;have u0:O (∀V,E W5 V->Zw V.heap.size V (J va (Fl.start p).length vc) (bJ p)):=λV hV=>(j0.below hV).vi;have M0:=A j0.ok.1;have A0:=X0.out;have p0:=A A0
 have v1:O (∀(V:World) (sv:Value),Zw V.heap.size V sv ((bJ p).drop p.cells.length)->(sv.ownBlock=none\/sv.ownBlock=some b)->∀nv,(∀w'',Xi W5.heap.size V w''->Yz w''.heap.size w'' nv (aD p (bJ p) 4 [] p.aZ (aI p)).2)->∀w'':World,W5.heap.size<=V.heap.size->w''.heap.size=V.heap.size->(∀k,k≠w.heap.size->w''.heap[k]?=V.heap[k]?)->Zw w''.heap.size w'' sv ((bJ p).drop p.cells.length)/\Yz w''.heap.size w'' nv (aD p (bJ p) 4 [] p.aZ (aI p)).2):=λV sv h1 h2 nv h3 w'' hz cH hk=>by
  refine⟨?_,h3 w'' ⟨by omega,λk hb _=>hk k (by omega)⟩⟩;obtain⟨ao,cap,e,g1,g2,g3⟩:=h1;refine⟨ao,cap,e,g1,g2,λr0=>?_⟩;obtain⟨b',off,ea,hb',hc⟩:=g3 r0;refine⟨b',off,ea,by omega,λi hi=>cQ (hk b' ?_) (hc i hi)⟩;rw[e,ea]at h2;rcases h2 with h2|h2
  ·cases h2
  injection h2 with h2;simp only at h2;omega
 obtain⟨sl,k0⟩:=U ((Fl.start p).length);obtain⟨nc,b0⟩:=U (p.cells.length);have K1:O (sl=(bJ p).length/\nc<=(bJ p).length/\nc=p.cells.length):=⟨by rw[k0,M0.out,p0.out],by rw[M0.out,b0];omega,b0⟩;rw[<-k0]at HS u0 i0 A0;rw[<-b0]at HS A1 A0 HE v1
 have L1:(nc:Int)<=(sl:Int):=by omega
 have N0:(nc:Int)<=6:=by omega
 have O0:(sl:Int)<=10:=by omega
 clear a0 z0 X0 p0 M0 F1 J0 j0 a1 k1 o1 s1 k0 b0 A0;obtain⟨sa,sn,sc,fp,x1,y1⟩:∃sa sn sc,(∀V:World,(Instr.slice 22 (J va sl vc) (some (I nc)) none none).run prog V=.ok (J sa sn sc) V)/\(∀V,Zw V.heap.size V (J va sl vc) (bJ p)->Zw V.heap.size V (J sa sn sc) ((bJ p).drop nc))/\((J sa sn sc).ownBlock=none\/(J sa sn sc).ownBlock=some b):=by
  obtain⟨f1,f2,f3⟩:=K1.out;rcases i0.out with⟨rfl,h0,rfl⟩|⟨rfl,M1⟩
  ·refine⟨none,sl - nc,0 - nc,λV=>?_,λV hV=>?_,.inl rfl⟩
   ·rw[zm5 V none sl 0 nc (by omega) (by omega)]
    simp
   refine⟨none,0 - nc,by rw[length_drop];congr 1;omega,by rw[length_drop];omega,by rw[length_drop];unfold maxLen;omega,λr0=>absurd (drop_eq_nil_of_le (by omega)) r0⟩
  by_cases hc:vc=nc
  ·refine⟨some (Y b 0),sl - nc,vc - nc,λV=>?_,λV hV=>?_,.inr rfl⟩
   ·rw[zm5 V _ sl vc nc (by omega) (by omega),G hc]
   refine⟨_,_,by rw[length_drop];congr 1;omega,by rw[length_drop];omega,by rw[length_drop];unfold maxLen;omega,λr0=>absurd (drop_eq_nil_of_le (by omega)) r0⟩
  refine⟨some (Y b (0+nc)),sl - nc,vc - nc,λV=>?_,λV hV=>?_,.inr rfl⟩
  ·have h9:((Y b 0):Addr).add nc=(Y b (0+nc)):=by unfold Addr.add;split<;>simp_all
   rw[zm5 V _ sl vc nc (by omega) (by omega),Z hc,Option.map_some,h9]
  exact yh2 hV nc f2
 have z1:O ((∀V,Zw V.heap.size V (J va sl vc) (bJ p)->Zw V.heap.size V (J sa sn sc) ((bJ p).drop nc))/\((J sa sn sc).ownBlock=none\/(J sa sn sc).ownBlock=some b)):=⟨x1,y1⟩;have P0:=A fp;have Q0:O (D W5 w.heap.size 0 Zq/\D W5 w.heap.size 1 Zq/\∀j,W5.frozen? (Y w.heap.size j)=false):=⟨c0,c1,fz⟩
 have s0:O (w.heap.size<b):=by show _<_;omega
 clear x1 y1 fp i0 c0 c1 fz L1 O0 N0 E1 i1 H1 y0
 go_wp2_with fail
 refine Zm HS dA [11,13] [] [] (by kernel_rfl) (λ_ _ _ _ h=>h) (λops _=>?_)
 iterate 9 refine Zv rfl (by intros;go_simp<;>rfl) (by go_simp<;>rfl) ?_
 refine Zv rfl (by rintro V ⟨_,_⟩;have T1:=P0 V;go_simp<;>rfl) (by go_simp<;>rfl) ?_;refine Zv rfl (by intros;go_simp<;>rfl) (by go_simp<;>rfl) ?_;refine Zs ?_
 go_wp2_with fail
 refine(u1 _ dA).mono ?_;rintro e6 W6 ⟨nv,rfl,R0,l0⟩;have g0:O (E W5 W6):=dA.trans l0;have N1:=A R0;obtain⟨na,nn,ncp,rfl⟩:∃a n c,nv=J a n c:=by
  obtain⟨a,c,e,-⟩:=R0 W6 ⟨lE,λ_ _ _=>rfl⟩;exact⟨a,_,c,e⟩
 have O1:W5.heap.size<=W6.heap.size:=g0.size;have d0:D W6 w.heap.size 0 Zq:=cT g0 q0 Q0.1;have d1:D W6 w.heap.size 1 Zq:=cT g0 q0 Q0.2.1;have df:∀j,W6.frozen? (Y w.heap.size j)=false:=λj=>(g0.frozen (p:=(Y w.heap.size j)) q0).trans (Q0.2.2 j);clear R0 l0 u1
 go_wp2_with fail
 refine⟨HS _ g0,?_⟩;refine Zv rfl (by intros;go_simp<;>rfl) (by go_simp<;>rfl) ?_;obtain⟨e0,e1,ek,es,eb⟩:=zjv (wz:=W6) (J sa sn sc) (J na nn ncp) d0 d1;have HK:=A ek;have HT:O (((W6.setCell (Y w.heap.size 0) (J sa sn sc)).setCell (Y w.heap.size 1) (J na nn ncp)).cell? (Y w.heap.size 0)=some (J sa sn sc)/\((W6.setCell (Y w.heap.size 0) (J sa sn sc)).setCell (Y w.heap.size 1) (J na nn ncp)).cell? (Y w.heap.size 1)=some (J na nn ncp)/\((W6.setCell (Y w.heap.size 0) (J sa sn sc)).setCell (Y w.heap.size 1) (J na nn ncp)).heap.size=W6.heap.size/\∀B w',Below B w' W6->B<=w.heap.size->Below B w' ((W6.setCell (Y w.heap.size 0) (J sa sn sc)).setCell (Y w.heap.size 1) (J na nn ncp))):=⟨e0,e1,es,eb⟩;clear e0 e1 ek es eb;refine Zs ?_
 go_wp2_with fail
 refine⟨⟨cQ (HK W2.heap.size (by omega)) (HS _ g0).1,cQ (HK Pb (by omega)) (HS _ g0).2⟩,?_⟩;refine Zv rfl (by intros;go_simp<;>rfl) (by go_simp<;>rfl) ?_;refine Zu ?_
 go_wp2_with fail
 obtain⟨e0,e1,es,eb⟩:=HT.out;have ek:=HK.out;have P1:=L0.trans (g0.mono L0.size);obtain⟨q1,q2⟩:=v1 W6 (J sa sn sc) (z1.1 W6 (u0 W6 g0)) z1.2 (J na nn ncp) N1 _ O1 es ek;exact bodyPost_ret (v:=.tuple #[.agg #[J sa sn sc,J na nn ncp],.nilIface]) (by simp[results,results28,go_sem,e0,e1]) rfl
  ⟨eb _ _ P1 lE,.inr ⟨by rw[HE.out],sa,sn,sc,na,nn,ncp,rfl,by rw[HE.out];exact q1,by rw[HE.out];exact q2⟩⟩
end Go.Proofs.YtjmcibbdedlcoaaGreatDoor
namespace Go.Proofs.YtjmcibbdedlcoaaGreatDoor
open Go.Proofs.Tryz List World Value Fl
variable{w w' w0 w1 w2:World}{b cap B n Pb k:Nat}{ao:Option Addr}{s:K}{o1 o2 o3 o4:Obj}{a:Addr}{u v v1:Value}
def Fl.bV(q:Nat×Nat×aV):Nat×Int×K:=
 if q.1≠0 then(q.1,(q.2.1:Int),[]) else if 0<(bF q.2.2).1 then(7,((bF q.2.2).1:Int),[])
 else if(bu (bF q.2.2).2.1 (bF q.2.2).2.2).2.1=false then(8,(bu (bF q.2.2).2.1 (bF q.2.2).2.2).2.2,[])
 else(0,-1,(bu (bF q.2.2).2.1 (bF q.2.2).2.2).1)
open Go.RowKit
def Zw.at{B:Nat}{w:World}{ao:Option Addr}{n cap:Nat}{xs:Is}(h:Zw B w (J ao n cap) xs){i:Nat}(hi:i<xs.length):∃b off,ao=some (Y b off)/\b<B/\w.cell? (Y b (off+i))=some (I (xs.getD i 0)):=by
 obtain⟨ao',cap',hv,_,_,hx⟩:=h;obtain⟨b,off,ha,b0,a0⟩:=hx (by intro hh;rw[hh]at hi;simp at hi);simp only[slice.injEq]at hv;exact⟨b,off,hv.1.trans ha,b0,a0 i hi⟩
open Go.Extern.Stop Go.Stop Go.Extern
def zkz(t:Addr)(w:World):(ReflectliteValue.unpack (.iface 80 (.pointer (some t)))).run prog w=.ok (.agg #[.pointer (some ⟨4,80,none⟩),M w.heap.size,.int .u64 150]) (w.alloc (.cells #[.pointer (some t)] 80)):=by kernel_rfl
def zax(a:Addr)(w:World):(ReflectliteValue.methodAny (ReflectliteValue.valueError "reflectlite.Value.Type" 0) (λt _ _ _=>ReflectliteType.toType t) #[.agg #[.pointer (some ⟨4,80,none⟩),.pointer (some a),.int .u64 150]]).run prog w=.ok (.iface 163 (.agg #[.pointer (some ⟨4,80,none⟩)])) w:=by kernel_rfl
def zs5(h:Value)(w:World):(Go.method 428 163 (.agg #[h]) "Kind").run prog w=.ok (206,h) w:=by kernel_rfl
def zaw(w:World):((ReflectliteType.abiMethod λt=>Functor.map (λa:Nat=>int IntKind.u8 (a:Int)) (Rtype.kind t)) #[.pointer (some ⟨4,80,none⟩)]).run prog w=.ok (.int .u8 22) w:=by kernel_rfl
def yu9(w:World):((ReflectliteType.abiMethod λt=>Functor.map (λa:Nat=>int IntKind.u8 (a:Int)) (Rtype.kind t)) #[.pointer (some ⟨4,78,none⟩)]).run prog w=.ok (.int .u8 22) w:=by kernel_rfl
def zp0(z:Sem Value)(f:TypeId->Addr->Nat->Nat->Sem Value)(v:Value)(t:TypeId)(a:Addr)(fl:Nat)(w w':World)(h:(ReflectliteValue.parts v).run prog w=.ok (some (t,a,fl)) w'):
  (ReflectliteValue.method z f #[v]).run prog w=(f t a fl (fl % 32)).run prog w':=by
 show (Sem.run prog (ReflectliteValue.parts v>>=_) w)=_;rw[Sem.run_bind,h];rfl
def zey(a:Addr)(w:World):(ReflectliteValue.parts (.agg #[.pointer (some ⟨4,80,none⟩),.pointer (some a),.int .u64 150])).run prog w=.ok (some (80,a,150)) w:=by kernel_rfl
def zex(a p:Addr)(W:World)(ha:W.cell? a=some (.pointer (some p))):(ReflectliteValue.method (ReflectliteValue.valueError "reflectlite.Value.IsNil" 0) ReflectliteValue.isNil #[.agg #[.pointer (some ⟨4,80,none⟩),.pointer (some a),.int .u64 150]]).run prog W=.ok (.bool false) W:=by
 rw[zp0 _ _ _ _ _ _ _ _ (zey a W)];simp[ReflectliteValue.isNil,loadVar,isAgg,underlying,underlying80,ha,Result.andThen]
def zs6(h:Value)(w:World):(Go.method 428 163 (.agg #[h]) "Elem").run prog w=.ok (219,.agg #[h]) w:=by kernel_rfl
def zy8(h:Value)(w:World):(Go.method 428 163 (.agg #[h]) "Implements").run prog w=.ok (220,.agg #[h]) w:=by kernel_rfl
def Je(h:Value)(w:World):(Go.method 428 163 (.agg #[h]) "AssignableTo").run prog w=.ok (217,.agg #[h]) w:=by kernel_rfl
def zav(w:World):(ReflectliteType.method ReflectliteType.elem #[.agg #[.pointer (some ⟨4,80,none⟩)]]).run prog w=.ok (.iface 163 (.agg #[.pointer (some ⟨4,78,none⟩)])) w:=by kernel_rfl
def zo6(w:World):(ReflectliteType.relation "Implements" ReflectliteType.implements_ #[.agg #[.pointer (some ⟨4,78,none⟩)],.iface 163 (.agg #[.pointer (some ⟨4,60,none⟩)])]).run prog w=.ok (.bool true) w:=by kernel_rfl
def yl1(v:Value)(w:World):(ReflectliteType.typeOf #[.iface 78 v]).run prog w=.ok (.iface 163 (.agg #[.pointer (some ⟨4,78,none⟩)])) w:=by kernel_rfl
def zc4(w:World):(ReflectliteType.relation "AssignableTo" ReflectliteType.assignableTo #[.agg #[.pointer (some ⟨4,78,none⟩)],.iface 163 (.agg #[.pointer (some ⟨4,78,none⟩)])]).run prog w=.ok (.bool true) w:=by kernel_rfl
def yr5(e:Addr)(w:World):(ReflectliteValue.unpack (.iface 78 (.pointer (some e)))).run prog w=.ok (.agg #[.pointer (some ⟨4,78,none⟩),M w.heap.size,.int .u64 150]) (w.alloc (.cells #[.pointer (some e)] 78)):=by kernel_rfl
def yr6(w:World):(Rtype.elem? 80).run prog w=.ok (some 78) w:=by kernel_rfl
def rl_mkP(p:Addr)(w:World):(ReflectliteValue.mk 78 p ReflectliteValue.flagAddr).run prog w=.ok (.agg #[.pointer (some ⟨4,78,none⟩),.pointer (some p),.int .u64 406]) w:=by kernel_rfl
def yl2(a p:Addr)(W:World)(ha:W.cell? a=some (.pointer (some p))):(ReflectliteValue.method (ReflectliteValue.valueError "reflectlite.Value.Elem" 0) ReflectliteValue.elem #[.agg #[.pointer (some ⟨4,80,none⟩),.pointer (some a),.int .u64 150]]).run prog W=.ok (.agg #[.pointer (some ⟨4,78,none⟩),.pointer (some p),.int .u64 406]) W:=by
 rw[zp0 _ _ _ _ _ _ _ _ (zey a W)];simp[ReflectliteValue.elem,loadVar,isAgg,underlying,underlying80,ha,Result.andThen,yr6,rl_mkP]
def yl3(a:Addr)(w:World):(ReflectliteValue.parts (.agg #[.pointer (some ⟨4,78,none⟩),.pointer (some a),.int .u64 406])).run prog w=.ok (some (78,a,406)) w:=by kernel_rfl
def yh3(a:Addr)(w:World):(ReflectliteValue.parts (.agg #[.pointer (some ⟨4,78,none⟩),.pointer (some a),.int .u64 150])).run prog w=.ok (some (78,a,150)) w:=by kernel_rfl
def yl4(w:World):(Rtype.directlyAssignable 78 78).run prog w=.ok true w:=by kernel_rfl
def rl_setP(ta b e:Addr)(ix:Value)(W:World)(hb:W.cell? b=some (.pointer (some e)))(ht:W.cell? ta=some ix)(hf:W.frozen? ta=false):
  (ReflectliteValue.set #[.agg #[.pointer (some ⟨4,78,none⟩),.pointer (some ta),.int .u64 406],.agg #[.pointer (some ⟨4,78,none⟩),.pointer (some b),.int .u64 150]]).run prog W=.ok (.tuple #[]) (W.setCell ta (.pointer (some e))):=by
 have h1:=yl3 ta W;have h2:=yh3 b W;have h3:=yl4 W;show Sem.run prog (ReflectliteValue.parts (.agg #[.pointer (some ⟨4,78,none⟩),.pointer (some ta),.int .u64 406])>>=λo1=>ReflectliteValue.parts (.agg #[.pointer (some ⟨4,78,none⟩),.pointer (some b),.int .u64 150])>>=λo2=>_) W=_;simp only[Sem.run_bind,h1,h2,Result.andThen];simp[ReflectliteValue.flagAddr,loadVar,isAgg,underlying,underlying78,hb,Result.andThen,h3,storeVar,cells,storeCells,Addr.add];rw[run_store prog W ta _ _ (by rfl)];simp[ht,hf]
def xh6:= @run_callFunc_extern prog 35 _ (λargs=>ReflectliteValue.unpack (args.getD 0 (.tuple #[]))) func35 (by kernel_rfl) (by kernel_rfl) (by kernel_rfl) (by kernel_rfl)
def xh7:= @run_callFunc_extern prog 36 _ (ReflectliteValue.methodAny (ReflectliteValue.valueError "reflectlite.Value.Type" 0) (λt _ _ _=>ReflectliteType.toType t)) func36 (by kernel_rfl) (by kernel_rfl) (by kernel_rfl) (by kernel_rfl)
def xh8:= @run_callFunc_extern prog 37 _ (ReflectliteValue.method (ReflectliteValue.valueError "reflectlite.Value.IsNil" 0) ReflectliteValue.isNil) func37 (by kernel_rfl) (by kernel_rfl) (by kernel_rfl) (by kernel_rfl)
def xh27:= @run_callFunc_extern prog 206 _ (ReflectliteType.abiMethod λt=>do pure (.int .u8 (<-Rtype.kind t))) func206 (by kernel_rfl) (by kernel_rfl) (by kernel_rfl) (by kernel_rfl)
def xh37:= @run_callFunc_extern prog 219 _ (ReflectliteType.method ReflectliteType.elem) func219 (by kernel_rfl) (by kernel_rfl) (by kernel_rfl) (by kernel_rfl)
def xh38:= @run_callFunc_extern prog 220 _ (ReflectliteType.relation "Implements" ReflectliteType.implements_) func220 (by kernel_rfl) (by kernel_rfl) (by kernel_rfl) (by kernel_rfl)
def xh10:= @run_callFunc_extern prog 62 _ ReflectliteType.typeOf func62 (by kernel_rfl) (by kernel_rfl) (by kernel_rfl) (by kernel_rfl)
def xh35:= @run_callFunc_extern prog 217 _ (ReflectliteType.relation "AssignableTo" ReflectliteType.assignableTo) func217 (by kernel_rfl) (by kernel_rfl) (by kernel_rfl) (by kernel_rfl)
def xh11:= @run_callFunc_extern prog 63 _ (ReflectliteValue.method (ReflectliteValue.valueError "reflectlite.Value.Elem" 0) ReflectliteValue.elem) func63 (by kernel_rfl) (by kernel_rfl) (by kernel_rfl) (by kernel_rfl)
def xh12:= @run_callFunc_extern prog 64 _ ReflectliteValue.set func64 (by kernel_rfl) (by kernel_rfl) (by kernel_rfl) (by kernel_rfl)
def as_at(e t:Addr)(ix:Value)(w:World)(hg:w.cell? ⟨0,0,none⟩=some (.iface 163 (.agg #[.pointer (some ⟨4,60,none⟩)])))(a0:w.cell? t=some ix)(c0:w.frozen? t=false):
  F 24 #[.iface 78 (.pointer (some e)),.iface 80 (.pointer (some t))] w λev w'=>ev=.returned (.bool true)/\w'=((((w.alloc (.cells #[.pointer (some t)] 80)).alloc (.cells #[.pointer (some ⟨4,80,none⟩),M w.heap.size,.int .u64 150] 109)).alloc (.cells #[.pointer (some ⟨4,80,none⟩),M w.heap.size,.int .u64 150] 109)).alloc (.cells #[.pointer (some e)] 78)).setCell t (.pointer (some e)):=by
 have h6:=xh6;have h7:=xh7;have h8:=xh8;have e0:=xh27;have f0:=xh37;have g0:=xh38;have h0:=xh10;have i0:=xh35;have j0:=xh11;have k0:=xh12;have tO:=yl1;have mA:=Je;have a25:=zc4;have v25:=yr5;have f6:=zkz;have f7:=zax;have mK:=zs5;have mE:=zs6;have mI:=zy8;have k27:=zaw;have k25:=yu9;have e27:=zav;have i25:=zo6;have d0:0<w.heap.size:=Qe w _ hg;have b0:t.block<w.heap.size:=Qe w _ a0;have n8:=zex (Y w.heap.size 0) t ((w.alloc (.cells #[.pointer (some t)] 80)).alloc (.cells #[.pointer (some ⟨4,80,none⟩),M w.heap.size,.int .u64 150] 109)) (by simp);have l0:((w.alloc (.cells #[.pointer (some t)] 80)).alloc (.cells #[.pointer (some ⟨4,80,none⟩),M w.heap.size,.int .u64 150] 109)).cell? ⟨0,0,none⟩=some (.iface 163 (.agg #[.pointer (some ⟨4,60,none⟩)])):=by
  rw[Qf _ _ _ (by simp<;>omega),Qf _ _ _ d0];exact hg
 have el:=yl2 (Y w.heap.size 0) t (((w.alloc (.cells #[.pointer (some t)] 80)).alloc (.cells #[.pointer (some ⟨4,80,none⟩),M w.heap.size,.int .u64 150] 109)).alloc (.cells #[.pointer (some ⟨4,80,none⟩),M w.heap.size,.int .u64 150] 109)) (by rw[Qf _ _ (Y w.heap.size 0) (by simp;omega)];simp);have st:=rl_setP t (Y (w.heap.size+1+1+1) 0) e ix ((((w.alloc (.cells #[.pointer (some t)] 80)).alloc (.cells #[.pointer (some ⟨4,80,none⟩),M w.heap.size,.int .u64 150] 109)).alloc (.cells #[.pointer (some ⟨4,80,none⟩),M w.heap.size,.int .u64 150] 109)).alloc (.cells #[.pointer (some e)] 78))
  (by rw[cell?_alloc_at _ _ _ _ (by simp)];rfl)
  (by rw[Qf _ _ t (by simp;omega),Qf _ _ t (by simp;omega),Qf _ _ t (by simp;omega),Qf _ _ t b0];exact a0)
  (by rw[frozen?_alloc_old _ _ t (by simp;omega),frozen?_alloc_old _ _ t (by simp;omega),frozen?_alloc_old _ _ t (by simp;omega),frozen?_alloc_old _ _ t (Nat.ne_of_lt b0)];exact c0)
 go_enter func24,ntmps24
 go_wp2;refine wp_loop_rounds 1 ?_;rw[rounds_succ];go_wp2;go_ret;exact⟨rfl,rfl⟩
def Um(w:World):Prop:=w.cell? ⟨0,0,none⟩=some (.iface 163 (.agg #[.pointer (some ⟨4,60,none⟩)]))
def zhv(w:World):F 14 #[.nilIface] w (Rw (.tuple #[I 0,I (-1)]) w):=by
 go_enter func14,ntmps14
 go_wp2
 go_ret2
 exact⟨rfl,(bA).alloc (by simp) _⟩
def below_drewN(h:Below B w w')(m:Nat):Below B w (w'.drewN m):=by
 induction m with
 |zero=>exact h
 |succ m ih=>exact ih.drew
def zew(h:Below B w0 w)(hB:B<=w.heap.size):Below B w0 ((((w.alloc o1).alloc o2).alloc o3).alloc o4):=
 (((h.alloc hB _).alloc (by simp;omega) _).alloc (by simp;omega) _).alloc (by simp;omega) _
def zc5(eb eo:Nat)(n p:Int)(w:World)(hg:Um w)(h0:w.cell? (Y eb eo)=some (I n))(h1:w.cell? (Y eb (eo+1))=some (I p)):
  F 14 #[.iface 78 (Pp eb eo)] w (Rw (.tuple #[I n,I p]) w):=by
 have d0:0<w.heap.size:=Qe w _ hg;have e0:eb<w.heap.size:=Qe w _ h0;have hg':((w.alloc (.cells #[.pointer none] 78)).alloc (.cells #[I 0] 24)).cell? ⟨0,0,none⟩=some (.iface 163 (.agg #[.pointer (some ⟨4,60,none⟩)])):=by
  rw[Qf _ _ _ (by simp<;>omega),Qf _ _ _ d0];exact hg
 have b0:O (F 24 #[.iface 78 (Pp eb eo),.iface 80 (M w.heap.size)] ((w.alloc (.cells #[.pointer none] 78)).alloc (.cells #[I 0] 24)) λev w'=>ev=.returned (.bool true)/\(D w' w.heap.size 0 (Pp eb eo)/\D w' eb eo (I n)/\D w' eb (eo+1) (I p)/\E w w')):=by
  refine(as_at (Y eb eo) (Y w.heap.size 0) (.pointer none) ((w.alloc (.cells #[.pointer none] 78)).alloc (.cells #[I 0] 24)) hg' (by simp) (by simp)).mono ?_;rintro ev w' ⟨rfl,rfl⟩;have hb:E w ((w.alloc (.cells #[.pointer none] 78)).alloc (.cells #[I 0] 24)):=(bA).alloc (by simp) _;have f0:=zew (o1:=.cells #[M w.heap.size] 80) (o2:=.cells #[.pointer (some ⟨4,80,none⟩),.pointer (some ⟨((w.alloc (.cells #[.pointer none] 78)).alloc (.cells #[I 0] 24)).heap.size,0,none⟩),.int .u64 150] 109) (o3:=.cells #[.pointer (some ⟨4,80,none⟩),.pointer (some ⟨((w.alloc (.cells #[.pointer none] 78)).alloc (.cells #[I 0] 24)).heap.size,0,none⟩),.int .u64 150] 109) (o4:=.cells #[Pp eb eo] 78) hb (by simp;omega);have q:∀o,(E w o->∀j v,D w eb j v->D o eb j v):=λo ho j v hv=>cT ho e0 hv;have a0:=f0.setCell (p:=(Y w.heap.size 0)) lE (Pp eb eo);refine⟨rfl,cell?_setCell_same' _ _ _ ?_,q _ a0 _ _ h0,q _ a0 _ _ h1,a0⟩;rw[Qf _ _ _ (by simp;omega),Qf _ _ _ (by simp;omega),Qf _ _ _ (by simp;omega),Qf _ _ _ (by simp;omega),Qf _ _ _ (by simp)];simp
 clear hg' hg
 go_enter func14,ntmps14
 go_wp2_with fail
 refine(b0.out).mono ?_;rintro e w1 ⟨rfl,ca,c0,c1,hb⟩;have hz:w.heap.size<w1.heap.size:=Qe w1 _ ca;have HB:=A hb;clear hb b0 h0 h1
 go_wp2_with fail
 go_quiet (fail)
 go_wp2
 go_ret2
 exact⟨rfl,below_drewN HB _⟩
def zev(v:Value)(w:World):(ReflectliteType.typeOf #[.iface 24 v]).run prog w=.ok (.iface 163 (.agg #[.pointer (some ⟨4,24,none⟩)])) w:=by kernel_rfl
def zg0(w:World):(ReflectliteType.relation "AssignableTo" ReflectliteType.assignableTo #[.agg #[.pointer (some ⟨4,24,none⟩)],.iface 163 (.agg #[.pointer (some ⟨4,78,none⟩)])]).run prog w=.ok (.bool false) w:=by kernel_rfl
def yr7(t:Addr)(w:World):(ReflectliteValue.unpack (.iface 83 (.pointer (some t)))).run prog w=.ok (.agg #[.pointer (some ⟨4,83,none⟩),M w.heap.size,.int .u64 150]) (w.alloc (.cells #[.pointer (some t)] 83)):=by kernel_rfl
def yd3(a:Addr)(w:World):(ReflectliteValue.methodAny (ReflectliteValue.valueError "reflectlite.Value.Type" 0) (λt _ _ _=>ReflectliteType.toType t) #[.agg #[.pointer (some ⟨4,83,none⟩),.pointer (some a),.int .u64 150]]).run prog w=.ok (.iface 163 (.agg #[.pointer (some ⟨4,83,none⟩)])) w:=by kernel_rfl
def yd4(w:World):((ReflectliteType.abiMethod λt=>Functor.map (λa:Nat=>int IntKind.u8 (a:Int)) (Rtype.kind t)) #[.pointer (some ⟨4,83,none⟩)]).run prog w=.ok (.int .u8 22) w:=by kernel_rfl
def yd5(w:World):((ReflectliteType.abiMethod λt=>Functor.map (λa:Nat=>int IntKind.u8 (a:Int)) (Rtype.kind t)) #[.pointer (some ⟨4,24,none⟩)]).run prog w=.ok (.int .u8 2) w:=by kernel_rfl
def yz0(a:Addr)(w:World):(ReflectliteValue.parts (.agg #[.pointer (some ⟨4,83,none⟩),.pointer (some a),.int .u64 150])).run prog w=.ok (some (83,a,150)) w:=by kernel_rfl
def yh4(a p:Addr)(W:World)(ha:W.cell? a=some (.pointer (some p))):(ReflectliteValue.method (ReflectliteValue.valueError "reflectlite.Value.IsNil" 0) ReflectliteValue.isNil #[.agg #[.pointer (some ⟨4,83,none⟩),.pointer (some a),.int .u64 150]]).run prog W=.ok (.bool false) W:=by
 rw[zp0 _ _ _ _ _ _ _ _ (yz0 a W)];simp[ReflectliteValue.isNil,loadVar,isAgg,underlying,underlying83,ha,Result.andThen]
def yd6(w:World):(ReflectliteType.method ReflectliteType.elem #[.agg #[.pointer (some ⟨4,83,none⟩)]]).run prog w=.ok (.iface 163 (.agg #[.pointer (some ⟨4,24,none⟩)])) w:=by kernel_rfl
def zc6(w:World):(ReflectliteType.relation "Implements" ReflectliteType.implements_ #[.agg #[.pointer (some ⟨4,24,none⟩)],.iface 163 (.agg #[.pointer (some ⟨4,60,none⟩)])]).run prog w=.ok (.bool true) w:=by kernel_rfl
def zc7(w:World):(ReflectliteType.relation "AssignableTo" ReflectliteType.assignableTo #[.agg #[.pointer (some ⟨4,24,none⟩)],.iface 163 (.agg #[.pointer (some ⟨4,24,none⟩)])]).run prog w=.ok (.bool true) w:=by kernel_rfl
def yr8(n:Int)(w:World):(ReflectliteValue.unpack (.iface 24 (I n))).run prog w=.ok (.agg #[.pointer (some ⟨4,24,none⟩),M w.heap.size,.int .u64 130]) (w.alloc (.cells #[I n] 24)):=by kernel_rfl
def yl5(w:World):(Rtype.elem? 83).run prog w=.ok (some 24) w:=by kernel_rfl
def rl_mkE(p:Addr)(w:World):(ReflectliteValue.mk 24 p ReflectliteValue.flagAddr).run prog w=.ok (.agg #[.pointer (some ⟨4,24,none⟩),.pointer (some p),.int .u64 386]) w:=by kernel_rfl
def yh5(a p:Addr)(W:World)(ha:W.cell? a=some (.pointer (some p))):(ReflectliteValue.method (ReflectliteValue.valueError "reflectlite.Value.Elem" 0) ReflectliteValue.elem #[.agg #[.pointer (some ⟨4,83,none⟩),.pointer (some a),.int .u64 150]]).run prog W=.ok (.agg #[.pointer (some ⟨4,24,none⟩),.pointer (some p),.int .u64 386]) W:=by
 rw[zp0 _ _ _ _ _ _ _ _ (yz0 a W)];simp[ReflectliteValue.elem,loadVar,isAgg,underlying,underlying83,ha,Result.andThen,yl5,rl_mkE]
def yl6(a:Addr)(w:World):(ReflectliteValue.parts (.agg #[.pointer (some ⟨4,24,none⟩),.pointer (some a),.int .u64 386])).run prog w=.ok (some (24,a,386)) w:=by kernel_rfl
def yh6(a:Addr)(w:World):(ReflectliteValue.parts (.agg #[.pointer (some ⟨4,24,none⟩),.pointer (some a),.int .u64 130])).run prog w=.ok (some (24,a,130)) w:=by kernel_rfl
def yl7(w:World):(Rtype.directlyAssignable 24 24).run prog w=.ok true w:=by kernel_rfl
def rl_setE(ta b:Addr)(n:Int)(ix:Value)(W:World)(hb:W.cell? b=some (I n))(ht:W.cell? ta=some ix)(hf:W.frozen? ta=false):
  (ReflectliteValue.set #[.agg #[.pointer (some ⟨4,24,none⟩),.pointer (some ta),.int .u64 386],.agg #[.pointer (some ⟨4,24,none⟩),.pointer (some b),.int .u64 130]]).run prog W=.ok (.tuple #[]) (W.setCell ta (I n)):=by
 have h1:=yl6 ta W;have h2:=yh6 b W;have h3:=yl7 W;show Sem.run prog (ReflectliteValue.parts (.agg #[.pointer (some ⟨4,24,none⟩),.pointer (some ta),.int .u64 386])>>=λo1=>ReflectliteValue.parts (.agg #[.pointer (some ⟨4,24,none⟩),.pointer (some b),.int .u64 130])>>=λo2=>_) W=_;simp only[Sem.run_bind,h1,h2,Result.andThen];simp[ReflectliteValue.flagAddr,loadVar,isAgg,underlying,underlying24,hb,Result.andThen,h3,storeVar,cells,storeCells,Addr.add];rw[run_store prog W ta _ _ (by rfl)];simp[ht,hf]
def yl8(v:Value)(xT:TypeId)(w:World):(Instr.typeAssert (.iface 24 v) xT 168 true).run prog w=.ok (.tuple #[.nilIface,.bool false]) w:=run_typeAssert_lacksB underlying168 (by kernel_rfl) (by kernel_rfl) v xT w
def yl9(v:Value)(xT:TypeId)(w:World):(Instr.typeAssert (.iface 24 v) xT 171 true).run prog w=.ok (.tuple #[.nilIface,.bool false]) w:=run_typeAssert_lacksB underlying171 (by kernel_rfl) (by kernel_rfl) v xT w
def ylz(v:Value)(xT:TypeId)(w:World):(Instr.typeAssert (.iface 24 v) xT 173 true).run prog w=.ok (.tuple #[.nilIface,.bool false]) w:=run_typeAssert_lacksB underlying173 (by kernel_rfl) (by kernel_rfl) v xT w
def as_miss(n:Int)(t:Addr)(ix:Value)(w:World)(hg:w.cell? ⟨0,0,none⟩=some (.iface 163 (.agg #[.pointer (some ⟨4,60,none⟩)])))(b0:w.cell? t=some ix):
  F 24 #[.iface 24 (I n),.iface 80 (.pointer (some t))] w λev w'=>ev=.returned (.bool false)/\E w w':=by
 have h6:=xh6;have h7:=xh7;have h8:=xh8;have c0:=xh27;have d0:=xh37;have e0:=xh38;have f0:=xh10;have g0:=xh35;have h0:=xh11;have i0:=xh12;have tO:=zev;have mA:=Je;have aN:=zg0;have l1:=yl8;have l2:=yl9;have l3:=ylz;have f6:=zkz;have f7:=zax;have mK:=zs5;have mE:=zs6;have mI:=zy8;have k27:=zaw;have k25:=yu9;have e27:=zav;have i25:=zo6;have a0:0<w.heap.size:=Qe w _ hg;have n8:=zex (Y w.heap.size 0) t ((w.alloc (.cells #[.pointer (some t)] 80)).alloc (.cells #[.pointer (some ⟨4,80,none⟩),M w.heap.size,.int .u64 150] 109)) (by simp);have j0:((w.alloc (.cells #[.pointer (some t)] 80)).alloc (.cells #[.pointer (some ⟨4,80,none⟩),M w.heap.size,.int .u64 150] 109)).cell? ⟨0,0,none⟩=some (.iface 163 (.agg #[.pointer (some ⟨4,60,none⟩)])):=by
  rw[Qf _ _ _ (by simp<;>omega),Qf _ _ _ a0];exact hg
 go_enter func24,ntmps24
 go_wp2;refine wp_loop_rounds 1 ?_;rw[rounds_succ];go_wp2;go_ret;exact⟨rfl,((bA).alloc (by simp) _).alloc (by simp;omega) _⟩
def yd7(n:Int)(t:Addr)(ix:Value)(w:World)(hg:w.cell? ⟨0,0,none⟩=some (.iface 163 (.agg #[.pointer (some ⟨4,60,none⟩)])))(a0:w.cell? t=some ix)(c0:w.frozen? t=false):
  F 24 #[.iface 24 (I n),.iface 83 (.pointer (some t))] w λev w'=>ev=.returned (.bool true)/\w'=((((w.alloc (.cells #[.pointer (some t)] 83)).alloc (.cells #[.pointer (some ⟨4,83,none⟩),M w.heap.size,.int .u64 150] 109)).alloc (.cells #[.pointer (some ⟨4,83,none⟩),M w.heap.size,.int .u64 150] 109)).alloc (.cells #[I n] 24)).setCell t (I n):=by
 have h6:=xh6;have h7:=xh7;have h8:=xh8;have e0:=xh27;have f0:=xh37;have g0:=xh38;have h0:=xh10;have i0:=xh35;have j0:=xh11;have k0:=xh12;have tO:=zev;have mA:=Je;have a25:=zc7;have v25:=yr8;have f6:=yr7;have f7:=yd3;have mK:=zs5;have mE:=zs6;have mI:=zy8;have k27:=yd4;have k25:=yd5;have e27:=yd6;have i25:=zc6;have d0:0<w.heap.size:=Qe w _ hg;have b0:t.block<w.heap.size:=Qe w _ a0;have n8:=yh4 (Y w.heap.size 0) t ((w.alloc (.cells #[.pointer (some t)] 83)).alloc (.cells #[.pointer (some ⟨4,83,none⟩),M w.heap.size,.int .u64 150] 109)) (by simp);have l0:((w.alloc (.cells #[.pointer (some t)] 83)).alloc (.cells #[.pointer (some ⟨4,83,none⟩),M w.heap.size,.int .u64 150] 109)).cell? ⟨0,0,none⟩=some (.iface 163 (.agg #[.pointer (some ⟨4,60,none⟩)])):=by
  rw[Qf _ _ _ (by simp<;>omega),Qf _ _ _ d0];exact hg
 have el:=yh5 (Y w.heap.size 0) t (((w.alloc (.cells #[.pointer (some t)] 83)).alloc (.cells #[.pointer (some ⟨4,83,none⟩),M w.heap.size,.int .u64 150] 109)).alloc (.cells #[.pointer (some ⟨4,83,none⟩),M w.heap.size,.int .u64 150] 109)) (by rw[Qf _ _ (Y w.heap.size 0) (by simp;omega)];simp);have st:=rl_setE t (Y (w.heap.size+1+1+1) 0) n ix ((((w.alloc (.cells #[.pointer (some t)] 83)).alloc (.cells #[.pointer (some ⟨4,83,none⟩),M w.heap.size,.int .u64 150] 109)).alloc (.cells #[.pointer (some ⟨4,83,none⟩),M w.heap.size,.int .u64 150] 109)).alloc (.cells #[I n] 24))
  (by rw[cell?_alloc_at _ _ _ _ (by simp)];rfl)
  (by rw[Qf _ _ t (by simp;omega),Qf _ _ t (by simp;omega),Qf _ _ t (by simp;omega),Qf _ _ t b0];exact a0)
  (by rw[frozen?_alloc_old _ _ t (by simp;omega),frozen?_alloc_old _ _ t (by simp;omega),frozen?_alloc_old _ _ t (by simp;omega),frozen?_alloc_old _ _ t (Nat.ne_of_lt b0)];exact c0)
 go_enter func24,ntmps24
 go_wp2;refine wp_loop_rounds 1 ?_;rw[rounds_succ];go_wp2;go_ret;exact⟨rfl,rfl⟩
def yyv(h:Below B w0 w)(hB:B<=w.heap.size)(ha:B<=a.block):Below B w0 (((((w.alloc o1).alloc o2).alloc o3).alloc o4).setCell a u):=(zew h hB).setCell ha u
def yuz{ix:Value}(h:w.cell? a=some ix):(((((w.alloc o1).alloc o2).alloc o3).alloc o4).setCell a u).cell? a=some u:=by
 have hl:=Qe w a h;apply cell?_setCell_same'
 rw[Qf _ _ _ (by simp;omega),Qf _ _ _ (by simp;omega),Qf _ _ _ (by simp;omega),Qf _ _ _ hl,h];rfl
def zm6(n:Int)(w:World)(hg:Um w):
  F 14 #[.iface 24 (I n)] w (Rw (.tuple #[I n,I (-1)]) w):=by
 have g0:0<w.heap.size:=Qe w _ hg;have a0:E w ((w.alloc (.cells #[.pointer none] 78)).alloc (.cells #[I 0] 24)):=(bA).alloc (by simp) _;have b0:∀o,E w o->Um o:=λo ho=>(ho.cell (p:=⟨0,0,none⟩) g0).trans hg;have HM:O (F 24 #[.iface 24 (I n),.iface 80 (M w.heap.size)] ((w.alloc (.cells #[.pointer none] 78)).alloc (.cells #[I 0] 24)) λev w'=>ev=.returned (.bool false)/\(E w w'/\w'.cell? (Y (w.heap.size+1) 0)=some (I 0)/\w'.frozen? (Y (w.heap.size+1) 0)=false)):=by
  refine(as_miss n (Y w.heap.size 0) (.pointer none) ((w.alloc (.cells #[.pointer none] 78)).alloc (.cells #[I 0] 24)) (b0 _ a0) (by simp)).mono ?_;rintro ev w' ⟨rfl,hb⟩;exact⟨rfl,a0.trans (hb.mono (by simp;omega)),by rw[hb.cell (p:=(Y (w.heap.size+1) 0)) (by simp)];simp,by rw[hb.frozen (p:=(Y (w.heap.size+1) 0)) (by simp)];simp⟩
 have HE:O (∀wz,E w wz->wz.cell? (Y (w.heap.size+1) 0)=some (I 0)->wz.frozen? (Y (w.heap.size+1) 0)=false->F 24 #[.iface 24 (I n),.iface 83 (Pp (w.heap.size+1) 0)] wz λev w'=>ev=.returned (.bool true)/\(E w w'/\w'.cell? (Y (w.heap.size+1) 0)=some (I n))):=by
  intro wz hb hc hf;refine(yd7 n (Y (w.heap.size+1) 0) (I 0) wz (b0 _ hb) hc hf).mono ?_;rintro ev w' ⟨rfl,rfl⟩;exact⟨rfl,yyv hb hb.size (by simp),yuz hc⟩
 clear hg b0 a0
 go_enter func14,ntmps14
 go_wp2_with fail
 refine(HM.out).mono ?_;rintro e w1 ⟨rfl,c0,d0,e0⟩;have h0:=A c0;clear c0 HM
 go_wp2_with fail
 refine(HE _ h0 d0 e0).mono ?_;rintro e w2 ⟨rfl,f0,j0⟩;have i0:=A f0;clear f0 HE d0 e0;go_wp2
 go_ret2
 exact⟨rfl,i0⟩
end Go.Proofs.YtjmcibbdedlcoaaGreatDoor
namespace Go.Proofs.YtjmcibbdedlcoaaGreatDoor
open Go.RowKit Go.Proofs.Tryz List World Value Fl
variable{w w' w0 w1 w2:World}{b cap B n Pb k:Nat}{ao:Option Addr}{s:K}{o1 o2 o3 o4:Obj}{a:Addr}{u v v1:Value}
def yuy(n:Int)(w:World):F 146 #[I n] w (Rq (.bool (cd n)) w):=by
 by_cases h0:0<=n
 ·have b0:decide ((0:Int)<=n)=true:=by simpa using h0
  by_cases h1:n<=2147483647
  ·go_enter func146,ntmps146
   go_wp2;go_ret;exact⟨Zd (by simp[cd];omega),rfl⟩
  go_enter func146,ntmps146
  go_wp2;go_ret;exact⟨Zd (by simp[cd];omega),rfl⟩
 go_enter func146,ntmps146
 go_wp2;go_ret;exact⟨Zd (by simp[cd];omega),rfl⟩
def yd8(n:Int)(w:World):F 145 #[I n] w (Rq (.bool (!Fl.cd n)) w):=by
 go_enter func145,ntmps145
 go_wp2_with (go_at_call 146;refine(yuy _ _).mono ?_;rintro e w1 ⟨rfl,rfl⟩)
 go_ret;exact⟨rfl,rfl⟩
def yx0(xs:Is)(v:Value)(B:Nat)(w:World)(hx:Zw B w v xs):
  F 168 #[v,.func (.func 145) #[] #[]] w λe w'=>(xs.all cd=true->e=.returned (I (-1)))/\(xs.all cd=false->∃j:Nat,e=.returned (I j))/\E w w':=by
 obtain⟨ao,cap,rfl,_,hm,_⟩:=id hx;unfold maxLen at hm;have HX:=A hx;clear hx
 go_enter func168,ntmps168
 go_wp2_with fail
 go_loopw [8] (λi wr=>∃j m:Nat,j<=xs.length/\i=I j/\wr=w.drewN m/\∀t,t<j->cd (xs.getD t 0)=true) (λi _=>xs.length - (intOf i).toNat)
 case atStart=>exact⟨0,0,by omega,rfl,rfl,λt ht=>by omega⟩
 case round=>
  obtain⟨j,m,hj,rfl,rfl,aH⟩:=hrel;have HA:=A aH;clear aH
  by_cases d0:j<xs.length
  ·obtain⟨b,off,rfl,h0,f0⟩:=HX.at d0
   have g0:(j:Int)<(xs.length:Int):=(by omega);obtain⟨x,hx⟩:=U (xs.getD j 0);rw[<-hx]at f0;have e0:=A hx;have HP:O (∀(c:Bool) (W:World),cd x= !c->F 145 #[I x] W (Rq (.bool c) W)):=λc W hc=>(yd8 _ W).mono (by rintro e w' ⟨rfl,rfl⟩;exact⟨by rw[hc];simp,rfl⟩);clear hx
   cases c0:cd x with
   |true=>
    have a0:=A c0;clear c0
    go_wp2_with (go_at_call 145;refine(HP false _ a0).mono ?_;rintro e w1 ⟨rfl,rfl⟩)
    go_roundw
    case rel=>exact⟨j+1,m,by omega,by go_num,rfl,λt ht=>by
     by_cases h:t<j
     ·exact HA t h
     have:t=j:=by omega
     subst this;rw[<-e0.out];exact a0.out⟩
    case measure=>simp[intOf];omega
   |false=>
    have a0:=A c0;clear c0
    go_wp2_with (go_at_call 145;refine(HP true _ a0).mono ?_;rintro e w1 ⟨rfl,rfl⟩)
    go_ret;refine⟨λh=>?_,λ_=>⟨j,rfl⟩,by repeat (first|exact Below.refl _ _|apply Below.ks)⟩;rw[all_eq_true]at h;have:=h (xs.getD j 0) (by rw[Qa,Qb d0];exact getElem_mem d0)
    rw[<-e0.out,a0.out]at this;cases this
  have g0:(xs.length:Int)<=(j:Int):=(by omega)
  go_wp2_with fail
  go_ret;have b0:xs.all cd=true:=by
   rw[all_eq_true];intro y hy;obtain⟨t,ht,rfl⟩:=getElem_of_mem hy;have:=HA t (by omega)
   rwa [Qa,Qb ht]at this
  refine⟨λ_=>rfl,λh=>(by rw[b0]at h;cases h),by repeat (first|exact Below.refl _ _|apply Below.ks)⟩
def zg1(xs:Is)(v:Value)(B:Nat)(w:World)(hx:Zw B w v xs):
  F 144 #[v,.func (.func 145) #[] #[]] w (Rw (.bool (!xs.all cd)) w):=by
 have HI:O (F 168 #[v,.func (.func 145) #[] #[]] w λe w'=>(xs.all cd=true->e=.returned (I (-1)))/\(xs.all cd=false->∃j:Nat,e=.returned (I j))/\E w w'):=yx0 xs v B w hx;obtain⟨ao,cap,rfl,_,hm,_⟩:=id hx;clear hx hm
 go_enter func144,ntmps144
 go_wp2_with fail
 refine(HI.out).mono ?_;rintro e w1 ⟨h1,h2,hb⟩;have HB:=A hb;clear hb
 cases ha:xs.all cd with
 |true=>
  obtain rfl:=h1 ha;have a0:=A ha;clear h1 h2 ha;go_wp2;go_ret;exact⟨Zd (by rw[a0.out];rfl),HB⟩
 |false=>
  obtain⟨j,rfl⟩:=h2 ha;have b0:(0:Int)<=(j:Int):=(by omega);have a0:=A ha;clear h1 h2 ha;go_wp2;go_ret;exact⟨Zd (by rw[a0.out];rfl),HB⟩
def zt2(xs:Is)(v:Value)(B:Nat)(w:World)(hx:Zw B w v xs):
  F 103 #[v] w (Rw (.bool (xs.all cd)) w):=by
 have b0:∀(fn:Fn) (first cap:Array Value) (w:World),(Instr.makeFunc fn first cap).run prog w=.ok (.func fn first cap) w:=λ_ _ _ _=>rfl;have HI:O (F 144 #[v,.func (.func 145) #[] #[]] w (Rw (.bool (!xs.all cd)) w)):=zg1 xs v B w hx;obtain⟨ao,cap,rfl,_,hm,_⟩:=id hx;clear hx hm
 go_enter func103,ntmps103
 go_wp2_with fail
 refine(HI.out).mono ?_;rintro e w1 ⟨rfl,hb⟩;have HB:=A hb;clear hb
 cases ha:xs.all cd with
 |true=>
  have a0:=A ha;clear ha;go_wp2;go_ret;exact⟨Zd (by rw[a0.out]),HB⟩
 |false=>
  have a0:=A ha;clear ha;go_wp2;go_ret;exact⟨Zd (by rw[a0.out]),HB⟩
def zr2(a b:Nat)(ha:a<2147483648)(hb:b<2147483648):bits .or .i64 (a:Int) (b:Int)=((a|||b:Nat):Int):=by
 have hx:a|||b<2 ^ 31:=Nat.or_lt_two_pow (by omega) (by omega)
 have o:∀x:Nat,x<2147483648->(BitVec.ofInt 64 (x:Int)).toNat=x:=λx hx=>by rw[BitVec.ofInt_natCast,BitVec.toNat_ofNat];exact Nat.mod_eq_of_lt (by omega)
 show IntKind.i64.wrap ((BitVec.ofInt 64 (a:Int)|||BitVec.ofInt 64 (b:Int)).toNat:Int)=_;rw[BitVec.toNat_or,o a ha,o b hb];generalize a|||b=x at*;simp[IntKind.wrap,IntKind.bits,IntKind.signed];omega
def zw3(n:Nat)(a b c:Int):Int:=if n=0 then bits .or .i64 (bits .or .i64 (bits .or .i64 0 a) b) c else if n=1 then bits .or .i64 (bits .or .i64 0 b) c else if n=2 then bits .or .i64 0 c else 0
def zpy(a b:Nat):a|||b=0 ↔ a=0/\b=0:=by
 constructor
 ·intro h
  have h1:a<=a|||b:=Nat.left_le_or;have h2:b<=a|||b:=Nat.right_le_or;omega
 rintro⟨rfl,rfl⟩;rfl
def yly(n:Nat)(a b c:Int)(ha:cd a=true)(hb:cd b=true)(hc:cd c=true):zw3 n a b c=0 ↔ (n=0->a=0)/\(n<=1->b=0)/\(n<=2->c=0):=by
 simp only[cd,Qk,Qn]at ha hb hc;obtain⟨Qz,rfl⟩:=Int.eq_ofNat_of_zero_le ha.1;obtain⟨B,rfl⟩:=Int.eq_ofNat_of_zero_le hb.1;obtain⟨C,rfl⟩:=Int.eq_ofNat_of_zero_le hc.1
 have e0:∀x:Nat,x<2147483648->bits .or .i64 0 (x:Int)=(x:Int):=λx hx=>by have:=zr2 0 x (by omega) hx;simpa using this
 have a0:Qz|||B<2 ^ 31:=Nat.or_lt_two_pow (by omega) (by omega);unfold zw3;rw[e0 Qz (by omega),e0 B (by omega),e0 C (by omega),zr2 Qz B (by omega) (by omega),zr2 (Qz|||B) C (by omega) (by omega),zr2 B C (by omega) (by omega)];have h1:=zpy Qz B;have h2:=zpy (Qz|||B) C;have h3:=zpy B C;generalize (Qz|||B)|||C=X at*;generalize Qz|||B=Qq at*;generalize B|||C=Qx at*
 split
 ·omega
 split
 ·omega
 split<;>omega
def yd9(rb ro nb no n:Nat)(hn:n<=3)(l:Bool)(nd:ar)(lv:Value)(w:World)(h:Vj w nb no nd lv)(h1:w.cell? (Y rb (ro+1))=some (I n))(h2:w.cell? (Y rb (ro+2))=some (.bool l)):
  F 147 #[Pp rb ro,Pp nb no] w (Rw (.bool (decide (zw3 n nd.a nd.b nd.c=0) && (l||decide (nd.aU=[])))) w):=by
 have c2:=h.c2;have c3:=h.c3;have c4:=h.c4;have c5:=h.c5;obtain⟨ao,cap,rfl,_,hm,_⟩:=h.hl;have c0:decide (nd.aU=[])=((nd.aU.length:Int)==0):=by
  cases nd.aU with
  |nil=>rfl
  |cons x y=>simp;omega
 unfold maxLen at hm;have b0:=A c0
 have a0:n=0\/n=1\/n=2\/n=3:=by omega
 clear h hn c0;generalize nd.aU.length=len at*;rcases a0 with rfl|rfl|rfl|rfl
 ·have HR:O (decide (zw3 0 nd.a nd.b nd.c=0)=(bits .or .i64 (bits .or .i64 (bits .or .i64 0 nd.a) nd.b) nd.c==0)):=rfl
  cases hz:(bits .or .i64 (bits .or .i64 (bits .or .i64 0 nd.a) nd.b) nd.c==0) with
  |true=>
   have HZ:=A hz
   cases l with
   |true=>
    go_enter func147,ntmps147
    go_wp2_with fail
    go_ret;exact⟨Zd (by rw[HR.out,HZ.out];rfl),Below.refl _ _⟩
   |false=>
    go_enter func147,ntmps147
    go_wp2_with fail
    go_ret;exact⟨Zd (by rw[HR.out,HZ.out,b0.out];simp),Below.refl _ _⟩
  |false=>
   have HZ:=A hz
   go_enter func147,ntmps147
   go_wp2_with fail
   go_ret;exact⟨Zd (by rw[HR.out,HZ.out];simp),Below.refl _ _⟩
 ·have HR:O (decide (zw3 1 nd.a nd.b nd.c=0)=(bits .or .i64 (bits .or .i64 0 nd.b) nd.c==0)):=rfl
  cases hz:(bits .or .i64 (bits .or .i64 0 nd.b) nd.c==0) with
  |true=>
   have HZ:=A hz
   cases l with
   |true=>
    go_enter func147,ntmps147
    go_wp2_with fail
    go_ret;exact⟨Zd (by rw[HR.out,HZ.out];rfl),Below.refl _ _⟩
   |false=>
    go_enter func147,ntmps147
    go_wp2_with fail
    go_ret;exact⟨Zd (by rw[HR.out,HZ.out,b0.out];simp),Below.refl _ _⟩
  |false=>
   have HZ:=A hz
   go_enter func147,ntmps147
   go_wp2_with fail
   go_ret;exact⟨Zd (by rw[HR.out,HZ.out];simp),Below.refl _ _⟩
 ·have HR:O (decide (zw3 2 nd.a nd.b nd.c=0)=(bits .or .i64 0 nd.c==0)):=rfl
  cases hz:(bits .or .i64 0 nd.c==0) with
  |true=>
   have HZ:=A hz
   cases l with
   |true=>
    go_enter func147,ntmps147
    go_wp2_with fail
    go_ret;exact⟨Zd (by rw[HR.out,HZ.out];rfl),Below.refl _ _⟩
   |false=>
    go_enter func147,ntmps147
    go_wp2_with fail
    go_ret;exact⟨Zd (by rw[HR.out,HZ.out,b0.out];simp),Below.refl _ _⟩
  |false=>
   have HZ:=A hz
   go_enter func147,ntmps147
   go_wp2_with fail
   go_ret;exact⟨Zd (by rw[HR.out,HZ.out];simp),Below.refl _ _⟩
 have HR:O (decide (zw3 3 nd.a nd.b nd.c=0)=true):=rfl
 cases l with
 |true=>
  go_enter func147,ntmps147
  go_wp2_with fail
  go_ret;exact⟨Zd (by rw[HR.out];rfl),Below.refl _ _⟩
 |false=>
  go_enter func147,ntmps147
  go_wp2_with fail
  go_ret;exact⟨Zd (by rw[HR.out,b0.out];simp),Below.refl _ _⟩
def ylx{nd:ar}(hk:nd.kind=(k:Int))(h8:k<8):
  bD nd=((cd nd.ag && (cd nd.a && (cd nd.b && cd nd.c))) && ((decide (zw3 (Xx k) nd.a nd.b nd.c=0) && ((k==7)||decide (nd.aU=[]))) && (decide (nd.aU.length<=16) && nd.aU.all cd))):=by
 have a0:k=0\/k=1\/k=2\/k=3\/k=4\/k=5\/k=6\/k=7:=by omega
 cases ha:cd nd.a with
 |false=>simp[bD,jB,ha]
 |true=>
  cases hb:cd nd.b with
  |false=>simp[bD,jB,hb]
  |true=>
   cases hc:cd nd.c with
   |false=>simp[bD,jB,hc]
   |true=>
    have hr:=yly (Xx k) nd.a nd.b nd.c ha hb hc;have hr':decide (zw3 (Xx k) nd.a nd.b nd.c=0)=decide ((Xx k=0->nd.a=0)/\(Xx k<=1->nd.b=0)/\(Xx k<=2->nd.c=0)):=decide_eq_decide.2 hr;rw[hr',Bool.eq_iff_iff];rcases a0 with rfl|rfl|rfl|rfl|rfl|rfl|rfl|rfl<;>simp[bD,jB,hk,ha,hb,hc,Xx,aJ]<;>grind
def yh7{nd:ar}(h:nd.kind<0\/8<=nd.kind):bD nd=false:=by
 have:aJ nd.kind= -2:=by unfold aJ;(repeat' split)<;>omega
 simp[bD,this]
def Xt(w:World)(v:Value)(w':World)(v':Value):Prop:=w.grownBy w' v.ownBlock/\(v'.ownBlock=v.ownBlock\/∃b,v'.ownBlock=some b/\w.heap.size<=b)
def Xt.refl(w:World)(v:Value):Xt w v w v:=⟨⟨rfl,rfl,rfl,lE,λ_ _ _=>rfl⟩,.inl rfl⟩
def Xt.trans{w w1 w2:World}{v v1 v2:Value}(h:Xt w v w1 v1)(k:Xt w1 v1 w2 v2):Xt w v w2 v2:=by
 refine⟨⟨k.1.os.trans h.1.os,k.1.tape.trans h.1.tape,k.1.output.trans h.1.output,Nat.le_trans h.1.size k.1.size,λg hg b0=>?_⟩,?_⟩
 ·refine(k.1.block g (Qj hg h.1.size) (λhh=>?_)).trans (h.1.block g hg b0)
  rcases h.2 with h2|⟨b,hb,a0⟩
  ·rw[h2]at hh;exact b0 hh
  rw[hb]at hh;simp only[Ql]at hh;omega
 rcases k.2 with k2|⟨b,hb,a0⟩
 ·rcases h.2 with h2|⟨b,hb,a0⟩
  ·exact .inl (k2.trans h2)
  exact .inr ⟨b,k2.trans hb,a0⟩
 exact .inr ⟨b,hb,Nat.le_trans h.1.size a0⟩
def Xt.below(h:Xt w v w1 v1)(hb:E w1 w2):Xt w v w2 v1:=
 h.trans ⟨⟨hb.os,hb.tape,hb.output,hb.size,λk hk _=>hb.block k hk⟩,.inl rfl⟩
def Xt.alloc{w w1:World}{v v1:Value}(h:Xt w v w1 v1)(o:Obj):Xt w v (w1.alloc o) v1:=h.below (bA)
def Xt.append{v2:Value}(h:Xt w v w1 v1)(hg:w1.grownBy w2 v1.ownBlock)(hw:v2.ownBlock=v1.ownBlock\/v2.ownBlock=some w1.heap.size):Xt w v w2 v2:=
 h.trans ⟨hg,hw.imp id (λhh=>⟨_,hh,lE⟩)⟩
def Xt.cell{w w':World}{v v':Value}(h:Xt w v w' v'){b o:Nat}(a0:b<w.heap.size)(b0:some b≠v.ownBlock):w'.cell? (Y b o)=w.cell? (Y b o):=Qc (w:=w) (h.1.block b a0 b0)
def Jp(w:World)(base:Nat)(v:Value)(n:Nat)(xs:Vs):Prop:=
 w.ownsRow base 5 1 v n xs\/∃g,base<=g/\g<w.heap.size/\v=Sq g 0 n n/\xs.length=n/\∀j u,xs[j]?=some u->w.cell? (((Y g 0):Addr).add j)=some u
def Jp.lt{w:World}{base:Nat}{v:Value}{n:Nat}{xs:Vs}(h:Jp w base v n xs):∀k,v.ownBlock=some k->base<=k/\k<w.heap.size:=by
 rcases h with h|⟨g,h1,h2,rfl,_⟩
 ·exact h.lt
 intro k hk;simp only[ownBlock,Ql]at hk;subst hk;exact⟨h1,h2⟩
def Jp.below{base:Nat}{xs:Vs}(h:Jp w base v n xs)(hb:E w w'):Jp w' base v n xs:=by
 rcases h with h|⟨g,h1,h2,h3,h4,h5⟩
 ·exact .inl (h.kept (row:=none) ⟨hb.os,hb.tape,hb.output,hb.size,λk hk _=>hb.block k hk⟩ (by cases v.ownBlock<;>simp))
 refine .inr ⟨g,h1,Qj h2 hb.size,h3,h4,λj u hj=>?_⟩;have:=h5 j u hj
 have h6:(((Y g 0):Addr).add j).block=g:=by unfold Addr.add;split<;>rfl
 rw[hb.cell (by rw[h6];exact h2)];exact this
def Jp.alloc{w:World}{base:Nat}{v:Value}{n:Nat}{xs:Vs}(h:Jp w base v n xs)(o:Obj):Jp (w.alloc o) base v n xs:=h.below (bA)
section
variable{P:Program}(w:World)
def yux(base:Nat)(t ty:TypeId)(i:TypeInfo)(z:Value)(ht:P.underlying t=some (.slice 5))(hi:P.info? 5=some i)(hz:i.zero=some z)
  (a0:i.size=1) (j0:i.bytes=1) (k0:z.cells.size=1)
  (v:Value) (n:Nat) (xs:Vs) (e0:Jp w base v n xs)
  (a:Addr) (m c:Nat) (news:Vs) (hl:news.length=m*1) (c0:∀j u,news[j]?=some u->w.cell? (a.add j)=some u) (h1:∀u∈news,u.oneCell'=true)
  (g0:n+m<=maxLen) (b0:(n+m)*1<=140737488355328) (d0:base<=w.heap.size) (hm:0<m):
  ∃v' w',(Builtin.append_ #[t,t] ty #[v,J (some a) m c]).run P w=.ok v' w'/\w'.ownsRow base 5 1 v' (n+m) (xs++news)/\w.grownBy w' v.ownBlock/\(v'.ownBlock=v.ownBlock\/v'.ownBlock=some w.heap.size):=by
 rcases e0 with e0|⟨g,m0,n0,rfl,h0,f0⟩
 ·exact zl9 (P:=P) w base t ty 5 i z 1 1 ht hi hz a0 j0 k0 (by decide) v n xs e0 a m c news hl c0 h1 g0 b0 d0 hm
 have h63':((n+m:Nat):Int)<=9223372036854775807:=by unfold maxLen at g0;omega
 have hr:=run_append_grow (P:=P) w t ty 5 i z ht hi hz (Y g 0) n n xs (by rw[a0,h0];omega) f0 a m c news (by rw[a0];exact hl) c0 (by omega) h63' (growslice_fits (by omega) (by rw[j0];exact b0));have l0:=grownCap_ge w (n+m) n 5;have i0:grownCap w (n+m) n 5<=maxLen:=grownCap_le_maxLen w (n+m) n 5 g0
 have bt:(xs++news).length=(n+m)*1:=by rw[length_append,h0,hl];omega
 refine⟨_,_,hr,⟨bt,.inr ⟨w.heap.size,_,_,rfl,d0,heap_alloc_new w.drew _,l0,i0,?_,?_⟩⟩,⟨rfl,rfl,rfl,by simp,λk hk _=>heap_alloc_old w.drew _ (by exact hk)⟩,.inr rfl⟩
 ·simp only[Array.size_append,size_toArray,size_zeroCells,k0,h0,hl];omega
 simp only[Array.toList_append,append_assoc];rw[<-append_assoc,<-bt];exact take_left
def zy9{ops:Array Oper}{rest:List Oper}{o:Oper}{a:Act}{Q:Exit->Act->World->Prop}(f0:o.guard=none)(s x:Operand)(t:TypeId)
  (ho:o.op=.call {callee:=.builtin .append,args:=#[s,x],argTypes:=#[t,t]})
  (base:Nat) (i:TypeInfo) (z:Value) (ht:P.underlying t=some (.slice 5)) (hi:P.info? 5=some i) (hz:i.zero=some z)
  (b0:i.size=1) (g0:i.bytes=1) (h0:z.cells.size=1)
  (v:Value) (n:Nat) (xs:Vs) (hs:a.eval s=v) (e0:Jp w base v n xs)
  (ad:Addr) (m c:Nat) (news:Vs) (hx:a.eval x=J (some ad) m c) (hl:news.length=m*1) (hm:0<m) (c0:∀j u,news[j]?=some u->w.cell? (ad.add j)=some u) (h1:∀u∈news,u.oneCell'=true)
  (i0:n+m<=maxLen) (a0:(n+m)*1<=140737488355328) (d0:base<=w.heap.size)
  (h:∀v' w',w'.ownsRow base 5 1 v' (n+m) (xs++news)->w.grownBy w' v.ownBlock->(v'.ownBlock=v.ownBlock\/v'.ownBlock=some w.heap.size)->wpList P ops Q rest (a.put o.dst v') w'):wpList P ops Q (o::rest) a w:=
 wpList_plain f0 λ_ hK=>by
  obtain⟨v',w',hr,h2,h3,h4⟩:=yux (P:=P) w base t o.type i z ht hi hz b0 g0 h0 v n xs e0 ad m c news hl c0 h1 i0 a0 d0 hm;have j0:=hK _ _ (h v' w' h2 h3 h4);unfold Oper.wp execOp;simp only[ho,resolve,invoke,builtin,Sem.run_bind,Sem.run_pure,Result.andThen_ok,map_toArray,map_cons,map_nil,hs,hx,hr];exact j0
end
def Tryz.infoByte:(Tryz.prog.info? 5).map (λi=>(i.zero,i.size,i.bytes))=some (some (.int .u8 0),1,1):=by kernel_rfl
def Xq(u:UInt8):Value:=.int .u8 (u.toNat:Int)
def or128:∀x,x<256->x|||128=x % 128+128:=by decide
def ylw(x:Nat)(hx:x<256):bits .or .u8 (x:Int) 128=((x % 128+128:Nat):Int):=by
 have:=u8_or_nat x 128 hx (by omega);rw[or128 x hx]at this;simpa using this
def zzz(n:Nat)(hn:n<2147483648)(base:Nat)(bs:K)(v:Value)(w:World)(c0:Jp w base v bs.length (bs.map Xq))(bt:bs.length<=1000000)(o0:base<=w.heap.size):
  F 109 #[v,I n] w λe w'=>∃v',e=.returned v'/\w'.ownsRow base 5 1 v' (bs++aM n).length ((bs++aM n).map Xq)/\Below base w w'/\Xt w v w' v':=by
 obtain⟨i0,hi,p0,q0,r0⟩:=info_parts Tryz.infoByte;have y0:=A c0;clear c0
 go_enter func109,ntmps109
 go_wp2_with fail
 go_loopw [0,1] (λvv i wr=>∃(f k:Nat) (xs:K),f<=9/\k<128 ^ f/\k<2147483648/\i=I k/\bs++aM n=xs++cK f k/\xs.length+f<=bs.length+9/\Jp wr base vv xs.length (xs.map Xq)/\Below base w wr/\Xt w v wr vv) (λ_ i _=>(intOf i).toNat)
 case atStart=>exact⟨9,n,bs,by omega,by omega,hn,rfl,rfl,by omega,y0,Below.refl _ _,Xt.refl _ _⟩
 case round=>
  obtain⟨f,k,xs,hf,s0,hk,rfl,d0,A0,c0,e0,f0⟩:=hrel;have t0:=A f0;have u0:=A d0;have HB:=A e0;have v0:=A s0;have HO:=A c0;clear d0 e0 s0 c0 f0
  by_cases B0:128<=k
  ·have hge':(128:Int)<=(k:Int):=by omega
   have x0:=ylw (k % 256) (by omega)
   go_wp2_with (at_builtin;refine zy9 _ rfl _ _ 29 rfl base i0 (.int .u8 0) underlying29 hi p0 q0 r0 rfl _ _ _ rfl (HO.alloc _) (Y _ 0) 1 1 [.int .u8 (bits .or .u8 ((k:Int) % 256) 128)] rfl rfl (by decide) zx4 ?c2 ?c3 ?c4 ?c5 ?_)
   case c2=>intro u hu;simp at hu;subst hu;rfl
   case c3=>unfold maxLen;omega
   case c4=>omega
   case c5=>have:=HB.size;simp;omega
   intro v' w2 hown' a0 b0;have k0:O (Xt w v w2 v'):=(t0.alloc _).append a0 (by simp only[size_alloc]at b0⊢;exact b0)
   have g0:Below base w w2:=HB.trans ⟨a0.os,a0.tape,a0.output,Nat.le_trans (by simp) a0.size,λg hg=>by
    have cH:=HB.size;refine(a0.block g (by simp;omega) (λhh=>?_)).trans (Below.heap_alloc _ _ _ (by omega))
    have:=(HO.lt g hh.symm).1;omega⟩
   have l0:=A g0
   obtain⟨f',rfl⟩:∃f',f=f'+1:=⟨f - 1,by
    cases f with
    |zero=>have:=v0.out;simp at this;omega
    |succ g=>omega⟩
   have h0:(.int .u8 (bits .or .u8 ((k:Int) % 256) 128):Value)=Xq (UInt8.ofNat (k % 128+128)):=by
    have h1:((k:Int) % 256)=((k % 256:Nat):Int):=(by omega);rw[h1,x0];have h2:(UInt8.ofNat (k % 128+128)).toNat=k % 128+128:=(by simp;omega);unfold Xq;rw[h2]
    congr 1;omega
   have j0:w2.ownsRow base 5 1 v' (xs++[UInt8.ofNat (k % 128+128)]).length ((xs++[UInt8.ofNat (k % 128+128)]).map Xq):=(by rw[h0]at hown';simpa using hown');have m0:=A j0;have n0:O (bs++aM n=(xs++[UInt8.ofNat (k % 128+128)])++cK f' (k / 128)):=by
    show bs++aM n=_;rw[u0.out];simp[cK,show ¬k<128 by omega]
   have z0:O (k / 128<128 ^ f'):=by
    have:=v0.out;rw[Nat.pow_succ]at this;exact Nat.div_lt_of_lt_mul (by rw[Nat.mul_comm];exact this)
   clear hown' a0 b0 g0 h0 j0 x0;go_wp2;exact⟨⟨f',k / 128,xs++[UInt8.ofNat (k % 128+128)],by omega,z0,by omega,by go_num,n0,by simp;omega,.inl m0,l0,k0⟩,by simp[intOf];omega⟩
  have hge':(k:Int)<128:=(by omega);have hc:cK f k=[UInt8.ofNat k]:=by
   cases f with
   |zero=>rfl
   |succ g=>simp[cK,show k<128 by omega]
  have HC:=A hc;clear hc
  go_wp2_with (at_builtin;refine zy9 _ rfl _ _ 29 rfl base i0 (.int .u8 0) underlying29 hi p0 q0 r0 rfl _ _ _ rfl (HO.alloc _) (Y _ 0) 1 1 [.int .u8 (k:Int)] rfl rfl (by decide) zx4 ?d2 ?d3 ?d4 ?d5 ?_)
  case d2=>intro u hu;simp at hu;subst hu;rfl
  case d3=>unfold maxLen;omega
  case d4=>omega
  case d5=>have:=HB.size;simp;omega
  intro v' w2 hown' a0 b0;have k0:O (Xt w v w2 v'):=(t0.alloc _).append a0 (by simp only[size_alloc]at b0⊢;exact b0)
  have g0:Below base w w2:=HB.trans ⟨a0.os,a0.tape,a0.output,Nat.le_trans (by simp) a0.size,λg hg=>by
   have cH:=HB.size;refine(a0.block g (by simp;omega) (λhh=>?_)).trans (Below.heap_alloc _ _ _ (by omega))
   have:=(HO.lt g hh.symm).1;omega⟩
  have l0:=A g0;have h0:(.int .u8 (k:Int):Value)=Xq (UInt8.ofNat k):=by
   have h2:(UInt8.ofNat k).toNat=k:=(by simp;omega);unfold Xq;rw[h2]
  have j0:w2.ownsRow base 5 1 v' (bs++aM n).length ((bs++aM n).map Xq):=by
   rw[h0]at hown';rw[u0.out,HC.out];simpa using hown'
  have m0:=A j0;clear hown' a0 b0 g0 h0 j0;go_wp2;go_ret;exact⟨v',rfl,m0,l0,k0⟩
def zo7(l:Is)(hl:l.all cd=true)(G0:l.length<=200)(B base:Nat)(y0:B<=base)(lv:Value)(bs:K)(v:Value)(w:World)(hi:Zw B w lv l)(a0:Jp w base v bs.length (bs.map Xq))(bt:bs.length<=900000)(b0:base<=w.heap.size):
  F 108 #[v,lv] w λe w'=>∃v',e=.returned v'/\w'.ownsRow base 5 1 v' (bs++(aM l.length++aW l)).length ((bs++(aM l.length++aW l)).map Xq)/\Below base w w'/\Xt w v w' v':=by
 have HA:O (∀(k:Nat) (ys:K) (u:Value) (W:World),k<2147483648->Jp W base u ys.length (ys.map Xq)->ys.length<=1000000->base<=W.heap.size->F 109 #[u,I k] W λe w'=>∃v',e=.returned v'/\w'.ownsRow base 5 1 v' (ys++aM k).length ((ys++aM k).map Xq)/\Below base W w'/\Xt W u w' v'):=λk ys u W h1 h2 h3 h4=>zzz k h1 base ys u W h2 h3 h4;obtain⟨ao,cap,rfl,_,hm,_⟩:=id hi;have HI:=A hi;have HL:=A hl;have HO:=A a0;clear hi hl a0 hm
 go_enter func108,ntmps108
 go_wp2_with (go_at_call 109;refine(HA l.length bs v w (by omega) HO (by omega) b0).mono ?_;rintro e w1 ⟨v1,rfl,i0,j0,k0⟩)
 have l0:=A i0;have m0:=A j0;have n0:=A k0;clear i0 j0 k0
 go_wp2_with fail
 go_loopw [0,13] (λvv i wr=>∃(j:Nat) (xs:K),j<=l.length/\i=I j/\xs=bs++(aM l.length++aW (l.take j))/\wr.ownsRow base 5 1 vv xs.length (xs.map Xq)/\Below base w wr/\Xt w v wr vv) (λ_ i _=>l.length - (intOf i).toNat)
 case atStart=>exact⟨0,bs++aM l.length,by omega,rfl,by simp[aW],l0,m0,n0⟩
 case round=>
  clear l0 m0 n0;obtain⟨j,xs,hj,rfl,g0,a0,c0,d0⟩:=hrel;have o0:=A d0;have p0:=A g0;have q0:=A a0;have f0:=A c0;have z0:xs.length<=1000000:=by
   have h1:=dL (l.take j);have h2:=dr l.length;have h3:(l.take j).length<=200:=(by simp;omega);rw[g0];simp only[length_append];omega
  clear g0 a0 c0 d0
  by_cases e0:j<l.length
  ·obtain⟨b,off,rfl,H0,A0⟩:=((HI.out).below (f0.mono y0)).at e0
   have B0:(j:Int)<(l.length:Int):=(by omega);have r0:cd (l.getD j 0)=true:=by
    have:=HL.out;rw[all_eq_true]at this;exact this _ (by rw[Qa,Qb e0];exact getElem_mem e0)
   simp only[cd,Qk,Qn]at r0;obtain⟨x,hx⟩:∃x:Nat,(x:Int)=l.getD j 0:=⟨(l.getD j 0).toNat,by omega⟩;have h0:x<2147483648:=(by omega);rw[<-hx]at A0;have HX:=A hx;have C0:base<=wr.heap.size:=Nat.le_trans b0 f0.size;clear r0 hx
   go_wp2_with (go_at_call 109;refine(HA x xs u0 wr h0 (.inl q0) z0 C0).mono ?_;rintro e w2 ⟨v2,rfl,s0,t0,v0⟩)
   have D0:=A s0;have E0:O (Below base w w2):=f0.trans t0;have F0:O (Xt w v w2 v2):=o0.trans v0;clear s0 t0 v0;go_wp2;refine⟨⟨j+1,xs++aM x,by omega,by go_num,?_,D0,E0,F0⟩,by simp[intOf];omega⟩;have hg:l.take (j+1)=l.take j++[(x:Int)]:=by
    rw[HX.out,take_succ_eq_append_getElem e0,Qa,Qb e0];rfl
   rw[hg,p0.out];simp[aW]
  have B0:(l.length:Int)<=(j:Int):=(by omega);have x0:j=l.length:=(by omega);have HF:O (xs=bs++(aM l.length++aW l)):=by
   show xs=_;rw[p0.out,x0,take_length]
  clear x0;go_wp2;go_ret;exact⟨u0,rfl,by rw[<-HF.out];exact q0.out,f0,o0⟩
def yuw(ls:Is)(ns:List ar)(la na:Option Addr)(lc nc B:Nat)(w:World)(hl:Zw B w (J la ls.length lc) ls)(hn:Yz B w (J na ns.length nc) ns)(hB:B<=w.heap.size):
  F 54 #[.agg #[J la ls.length lc,J na ns.length nc]] w (Rw (.bool (decide (ls.length<=4) && (ls.all cd && (decide (1<=ns.length) && decide (ns.length<=200))))) w):=by
 have HA:O (∀W,Below B w W->F 103 #[J la ls.length lc] W (Rw (.bool (ls.all cd)) W)):=λW hW=>zt2 ls _ B W (hl.below hW);obtain⟨r,hr⟩:=U ((decide (ls.length<=4) && (ls.all cd && (decide (1<=ns.length) && decide (ns.length<=200)))));rw[<-hr];have HR:=A hr;clear hl hr hn
 by_cases h4:ls.length<=4
 ·have h4':(ls.length:Int)<=4:=by omega
  go_enter func54,ntmps54
  go_wp2_with fail
  have d0:Below B w (w.alloc (.cells #[J la ls.length lc,J na ns.length nc] 89)):=(Below.refl _ w).alloc hB _;refine(HA _ d0).mono ?_;rintro e w1 ⟨rfl,b0⟩;have p1:D w1 w.heap.size 1 (J na ns.length nc):=cT b0 (by simp) (by simp);have a0:O (E w w1):=((Below.refl _ w).alloc lE _).trans (b0.mono (by simp));clear b0 d0 HA
  cases ha:ls.all cd with
  |false=>
   have HS:O (r=false):=(by show r=false;rw[HR.out,ha];simp);clear ha;go_wp2;go_ret;exact⟨Zd HS.symm,a0⟩
  |true=>
   have c0:=A ha;clear ha
   by_cases h1:1<=ns.length
   ·have h1':(1:Int)<=(ns.length:Int):=by omega
    by_cases h2:ns.length<=200
    ·have h2':(ns.length:Int)<=200:=by omega
     have HS:O (r=true):=(by show r=true;rw[HR.out,c0.out];simp[h4,h1,h2]);go_wp2;go_ret;exact⟨Zd HS.symm,a0⟩
    have h2':(200:Int)<(ns.length:Int):=(by omega);have HS:O (r=false):=(by show r=false;rw[HR.out,c0.out];simp[h2]);go_wp2;go_ret;exact⟨Zd (by rw[HS.out];simp;omega),a0⟩
   have h1':(ns.length:Int)<1:=(by omega);have HS:O (r=false):=(by show r=false;rw[HR.out,c0.out];simp[h1]);go_wp2;go_ret;exact⟨Zd HS.symm,a0⟩
 have h4':(4:Int)<(ls.length:Int):=by omega
 have HS:O (r=false):=by show r=false;rw[HR.out];simp[h4]
 go_enter func54,ntmps54
 go_wp2_with fail
 go_ret;exact⟨Zd HS.symm,(Below.refl _ w).alloc lE _⟩
def its_out(tp:Value)(nb no:Nat)(Wx:Int)(w:World)(c0:w.cell? (Y nb no)=some (I Wx))(hk:Wx<0\/8<=Wx):
  F 104 #[tp,Pp nb no] w (Rw (.bool false) w):=by
 by_cases b0:Wx<0
 ·clear hk
  go_enter func104,ntmps104
  go_wp2_with fail
  refine Xg 29 5 _ 12 _ (by kernel_rfl) (by kernel_rfl) rfl rfl (λops hY a0=>?_);simp only[take_succ_cons,take_zero,drop_succ_cons,drop_zero]
  iterate 29 still_step
  refine wpStill_nil ?_
  go_wp2_with fail
  go_ret;exact⟨rfl,dA⟩
 have d0:8<=Wx:=by omega
 clear hk
 go_enter func104,ntmps104
 go_wp2_with fail
 refine Xg 29 5 _ 12 _ (by kernel_rfl) (by kernel_rfl) rfl rfl (λops hY a0=>?_);simp only[take_succ_cons,take_zero,drop_succ_cons,drop_zero]
 iterate 29 still_step
 refine wpStill_nil ?_
 go_wp2_with fail
 go_ret;exact⟨rfl,dA⟩
def its_in{tb nb no:Nat}{nd:ar}{lv:Value}(h:Vj w nb no nd lv)(hr:Yf w tb 0)(hk:nd.kind=(k:Int))(h8:k<8):
  F 104 #[M tb,Pp nb no] w (Rw (.bool (bD nd)) w):=by
 have k0:O (bD nd=((cd nd.ag && (cd nd.a && (cd nd.b && cd nd.c))) && ((decide (zw3 (Xx k) nd.a nd.b nd.c=0) && ((k==7)||decide (nd.aU=[]))) && (decide (nd.aU.length<=16) && nd.aU.all cd)))):=ylx hk h8;have HN:=A h;have HR:=A hr
 have c0:w.cell? (Y nb no)=some (I (k:Int)):=by rw[<-hk];exact h.c0
 have c1:=h.c1;have c2:=h.c2;have c3:=h.c3;have c4:=h.c4;obtain⟨r,a0⟩:=U (bD nd);rw[<-a0];have l0:=A a0
 have h8':(k:Int)<8:=by omega
 have h0':(0:Int)<=(k:Int):=by omega
 have HK:=A hk;clear h hr hk a0
 go_enter func104,ntmps104
 go_wp2_with fail
 refine Xg 29 5 _ 12 _ (by kernel_rfl) (by kernel_rfl) rfl rfl (λops hY t0=>?_);simp only[take_succ_cons,take_zero,drop_succ_cons,drop_zero]
 iterate 29 still_step
 refine wpStill_nil ?_;clear c0 c1 c2 c3 c4
 go_wp2_with fail
 have m0:Zw (w.heap.size+1) (w.drew.alloc (.cells #[I nd.ag,I nd.a,I nd.b,I nd.c] 3)) (Sq w.heap.size 0 4 4) [nd.ag,nd.a,nd.b,nd.c]:=Zw.fresh (w:=w.drew) [nd.ag,nd.a,nd.b,nd.c] 3 (by simp[maxLen]) _ (by simp);refine(zt2 [nd.ag,nd.a,nd.b,nd.c] _ _ _ m0).mono ?_;clear m0;rintro e w1 ⟨rfl,n0⟩;have i0:O (E w w1):=(((Below.refl _ w).drew).alloc lE _).trans (n0.mono (by simp[size_alloc]));clear n0
 have f0:[nd.ag,nd.a,nd.b,nd.c].all cd=(cd nd.ag && (cd nd.a && (cd nd.b && cd nd.c))):=by simp[Bool.and_assoc]
 obtain⟨t,ht⟩:=U ([nd.ag,nd.a,nd.b,nd.c].all cd);rw[<-ht];rw[f0]at ht;clear f0
 cases t with
 |false=>
  have HS:O (r=false):=(by show r=false;rw[l0.out,k0.out,<-ht];rfl);clear ht;go_wp2;go_ret;exact⟨Zd HS.symm,i0⟩
 |true=>
  have HS:O (r=((decide (zw3 (Xx k) nd.a nd.b nd.c=0) && ((k==7)||decide (nd.aU=[]))) && (decide (nd.aU.length<=16) && nd.aU.all cd))):=(by show r=_;rw[l0.out,k0.out,<-ht];rfl);have g0:O (E w w1.drew):=i0.drew;have o0:=HN.below g0.out;have j0:=HR.below g0 k h8;have d0:D w1 nb no (I (k:Int)):=cT i0 (Qe w _ HN.c0) (by rw[HN.c0,HK.out]);have e1:w1.drew.cell? (Y tb (k*4+1))=some (I (Xx k:Nat)):=(by have:=j0.1;simpa using this);have e2:w1.drew.cell? (Y tb (k*4+2))=some (.bool (k==7)):=(by have:=j0.2.1;simpa using this);have u0:Xx k<=3:=(by unfold Xx;(repeat' split)<;>omega);have HC:O (F 147 #[Pp tb (k*4),Pp nb no] w1.drew λe w'=>e=.returned (.bool (decide (zw3 (Xx k) nd.a nd.b nd.c=0) && ((k==7)||decide (nd.aU=[]))))/\Below w1.drew.heap.size w1.drew w'):=yd9 tb (k*4) nb no (Xx k) u0 (k==7) nd lv w1.drew o0 e1 e2;obtain⟨u,hu⟩:=U ((decide (zw3 (Xx k) nd.a nd.b nd.c=0) && ((k==7)||decide (nd.aU=[]))));rw[<-hu]at HC HS;clear ht o0 j0 e1 e2 hu;obtain⟨lao,lcap,v0,x0,y0,z0⟩:=id HN.hl;subst v0;unfold maxLen at y0;clear z0 x0
  go_wp2_with fail
  refine Xg 8 9 _ 17 _ (by kernel_rfl) (by kernel_rfl) rfl rfl (λops hY t0=>?_);simp only[take_succ_cons,take_zero,drop_succ_cons,drop_zero]
  iterate 8 still_step
  refine wpStill_nil ?_
  go_wp2_with fail
  refine(HC.out).mono ?_;rintro e w2 ⟨rfl,p0⟩;have b0:O (E w w2):=g0.trans (p0.mono g0.size);have q0:=HN.below b0.out;have f5:=q0.c5;have A0:O (∀W,E w W->F 103 #[J lao nd.aU.length lcap] W (Rw (.bool (nd.aU.all cd)) W)):=λW hW=>zt2 nd.aU _ w.heap.size W (HN.hl.below hW);clear p0 q0 HC d0
  cases u with
  |false=>
   have e0:O (r=false):=(by show r=false;rw[HS.out];rfl);go_wp2;go_ret;exact⟨Zd e0.symm,b0⟩
  |true=>
   by_cases r0:nd.aU.length<=16
   ·have h16':(nd.aU.length:Int)<=16:=by omega
    have e0:O (r=nd.aU.all cd):=(by show r=_;rw[HS.out];simp[r0])
    go_wp2_with fail
    refine(A0 _ b0).mono ?_;rintro e w3 ⟨rfl,s0⟩;have B0:O (E w w3):=b0.trans (s0.mono b0.size);clear s0 f5;obtain⟨v,hv⟩:=U (nd.aU.all cd);rw[<-hv]at e0⊢;clear hv;go_wp2;go_ret;exact⟨Zd e0.symm,B0⟩
   have h16':(16:Int)<(nd.aU.length:Int):=(by omega);have e0:O (r=false):=(by show r=_;rw[HS.out];simp[r0]);go_wp2;go_ret;exact⟨Zd e0.symm,b0⟩
end Go.Proofs.YtjmcibbdedlcoaaGreatDoor
