import Derived.Test.YtminjljgedopkaaGreatDoorM23
import Derived.Test.YtminjljgedopkaaGreatDoorM29
set_option linter.all false
set_option maxRecDepth 100000
set_option maxHeartbeats 40000000
namespace Go.Proofs.YtminjljgedopkaaGreatDoor
open Go.RowKit Go.Proofs.Tryz
def six_all(w:World)(o0 o1 o2 o3 o4 o5:Obj):((((((w.alloc o0).alloc o1).alloc o2).alloc o3).alloc o4).alloc o5).heap[w.heap.size+1]?=some o1:=by
 have a:∀(u:World) (o:Obj) (k:Nat),k<u.heap.size->(u.alloc o).heap[k]?=u.heap[k]?:=λu o k hk=>Below.heap_alloc _ _ _ hk
 have l:∀(u:World) (o:Obj) (k:Nat),u.heap.size=k->(u.alloc o).heap[k]?=some o:=λu o k hk=>by subst hk;exact heap_alloc_last u o
 rw[a _ _ _ (by simp<;>omega),a _ _ _ (by simp<;>omega),a _ _ _ (by simp<;>omega),a _ _ _ (by simp<;>omega),l _ _ _ (by simp<;>omega)]
def RW5(w:World)(s:List UInt8):World:=((((w.alloc (.cells #[.string ⟨s.toArray⟩] 9)).alloc (.cells #[.slice none 0 0,.slice none 0 0] 26)).alloc (.cells #[.slice none 0 0,.slice none 0 0] 26)).alloc (.cells Zu 98)).alloc (.cells Zu 98)
structure yux(r:(List Int×List Fl.Node)×Nat)(w:World)(e:Ending)(w':World):Prop where
 hB:Below w.heap.size w w'
 hsz:w.heap.size+6<=w'.heap.size
 c0:w'.cell? ⟨w.heap.size+1,0,none⟩=some (.slice none 0 0)
 c1:w'.cell? ⟨w.heap.size+1,1,none⟩=some (.slice none 0 0)
 fz:∀j,w'.frozen? ⟨w.heap.size+1,j,none⟩=false
 bad:r.2≠0->∃q,e=.returned (.iface 76 (.pointer (some ⟨q,0,none⟩)))/\w.heap.size+6<=q/\w'.cell? ⟨q,0,none⟩=some (.int .i64 2)/\w'.cell? ⟨q,1,none⟩=some (.int .i64 (r.2:Int))
 good:r.2=0->∃la n lc na n' nc,e=.returned .nilIface/\w'.cell? ⟨w.heap.size+2,0,none⟩=some (.slice la n lc)/\w'.cell? ⟨w.heap.size+2,1,none⟩=some (.slice na n' nc)/\∀w'',Ys (w.heap.size+6) w' w''->Zy w''.heap.size w'' (.slice la n lc) r.1.1/\Zm w''.heap.size w'' (.slice na n' nc) r.1.2
def yvz{s:List UInt8}{w:World}(hs:s.length<=40000)(hpw:Vs w)(hmx:Zh w):
  Calls prog 39 #[.func (.func 54) #[] #[.pointer (some ⟨w.heap.size,0,none⟩),.pointer (some ⟨w.heap.size+2,0,none⟩),.pointer (some ⟨w.heap.size+4,0,none⟩)]] (RW5 w s) (yux (Fl.readText s) w):=by
 obtain⟨r0,r2,r3,r4,r5,hsz,hB⟩:let W:=(RW5 w s).alloc (.cells #[.nilIface] 64);_:=zhx w (.cells #[.string ⟨s.toArray⟩] 9) (.cells #[.slice none 0 0,.slice none 0 0] 26) (.cells #[.slice none 0 0,.slice none 0 0] 26) (.cells Zu 98) (.cells Zu 98) (.cells #[.nilIface] 64);have r1:=six_all w (.cells #[.string ⟨s.toArray⟩] 9) (.cells #[.slice none 0 0,.slice none 0 0] 26) (.cells #[.slice none 0 0,.slice none 0 0] 26) (.cells Zu 98) (.cells Zu 98) (.cells #[.nilIface] 64)
 have h5:(RW5 w s).heap.size=w.heap.size+5:=by simp[RW5]
 change ((RW5 w s).alloc (.cells #[.nilIface] 64)).heap[w.heap.size]?=_ at r0
 change ((RW5 w s).alloc (.cells #[.nilIface] 64)).heap[w.heap.size+1]?=_ at r1
 change ((RW5 w s).alloc (.cells #[.nilIface] 64)).heap[w.heap.size+2]?=_ at r2
 change ((RW5 w s).alloc (.cells #[.nilIface] 64)).heap[w.heap.size+3]?=_ at r3
 change ((RW5 w s).alloc (.cells #[.nilIface] 64)).heap[w.heap.size+4]?=_ at r4
 change ((RW5 w s).alloc (.cells #[.nilIface] 64)).heap[w.heap.size+5]?=_ at r5
 change ((RW5 w s).alloc (.cells #[.nilIface] 64)).heap.size=_ at hsz
 change Below w.heap.size w ((RW5 w s).alloc (.cells #[.nilIface] 64)) at hB
 have hca:=zm2 54 #[.pointer (some ⟨w.heap.size,0,none⟩),.pointer (some ⟨w.heap.size+2,0,none⟩),.pointer (some ⟨w.heap.size+4,0,none⟩)] (RW5 w s);generalize hW6:(RW5 w s).alloc (.cells #[.nilIface] 64)=W6 at*;rw[h5]at hca;have cc:∀(b i:Nat) (c:Array Value) (te:TypeId),W6.heap[b]?=some (.cells c te)->W6.cell? ⟨b,i,none⟩=c[i]?:=λb i c te h=>cell_of_row W6 b i c te (0,0) h;have hlp:=hpw.lt;have hlm:=hmx.lt
 have hbeg:za0 s w.heap.size (w.heap.size+2) (w.heap.size+4) (w.heap.size+6) W6:=
  ⟨hs,hpw.below (Nat.le_refl _) hB,by omega,hmx.below (Nat.le_refl _) hB,by omega,r4,by omega,by omega,by omega,(cc _ _ _ _ r0).trans rfl,(cc _ _ _ _ r2).trans rfl,(cc _ _ _ _ r2).trans rfl,λj=>Vt _ _ _ _ _ r2⟩
 have five:∀{w':World},Mid (w.heap.size+2) (w.heap.size+6) W6 w'->w'.cell? ⟨w.heap.size+5,0,none⟩=some .nilIface/\w'.frozen? ⟨w.heap.size+5,0,none⟩=false:=λhm=>by
  have h5':=hm (w.heap.size+5) (by omega) (by omega);exact⟨(World.cell?_of_block (w:=W6) (a:=⟨w.heap.size+5,0,none⟩) h5').trans ((cc _ _ _ _ r5).trans rfl),(World.frozen?_of_block (w:=W6) (a:=⟨w.heap.size+5,0,none⟩) h5').trans (Vt _ _ _ _ _ r5)⟩
 have one:∀{w':World},Below (w.heap.size+2) W6 w'->w'.heap[w.heap.size+1]?=W6.heap[w.heap.size+1]?:=λhb=>hb.block _ (by omega);refine(hca (λw'=>∃i,0<i/\zx9 s (w.heap.size+2) (w.heap.size+6) W6 i [] w') (zs4 s (w.heap.size+2) (w.heap.size+6) W6) (λW=>by kernel_rfl) ((yj2 hbeg).mono ?_)).mono ?_
 ·rintro e w' (⟨rfl,i,hi,hst⟩|⟨n,p,rfl,hp⟩)
  ·obtain⟨ls,lv,nv,acc,lvs,hr⟩:=id hst
   exact⟨(five hr.hm).1,(five hr.hm).2,.inl ⟨rfl,i,hi,hst⟩⟩
  ·exact⟨(five hp.2.2.2.2.1).1,(five hp.2.2.2.2.1).2,.inr ⟨_,_,rfl,hp⟩⟩
 ·have set5:∀(u:World) (v:Value) (k:Nat),k≠w.heap.size+5->(u.setCell ⟨w.heap.size+5,0,none⟩ v).heap[k]?=u.heap[k]?:=λu v k hk=>Below.heap_setCell _ _ _ _ (by intro h;exact hk (by simpa using h))
  rintro e wz (⟨w2,rfl,⟨i,hi,ls,lv,nv,acc,lvs,hr⟩,rfl⟩|⟨n,pl,w1,o,rfl,⟨rfl,hpl,hpos,hb,hm,hz⟩,rfl⟩)
  ·have he:=hr.ends hi
   obtain⟨la,lc,hlv,_⟩:=id hr.hg.locals;obtain⟨na,nc,hnv⟩:=Yt hr.hg.hn;subst hlv hnv;have hz:=hr.hz;have hn:(w2.setCell ⟨w.heap.size+5,0,none⟩ .nilIface).heap[w.heap.size+1]?=W6.heap[w.heap.size+1]?:=(set5 _ _ _ (by omega)).trans (one hr.hg.hb);have hp2:(w2.setCell ⟨w.heap.size+5,0,none⟩ .nilIface).heap[w.heap.size+2]?=w2.heap[w.heap.size+2]?:=set5 _ _ _ (by omega);refine⟨(hB.trans (hr.hg.hb.mono (by omega))).setCell (show w.heap.size<=(⟨w.heap.size+5,0,none⟩:Addr).block by simp) _,by simpa using hz,?_,?_,?_,?_,?_⟩
   ·exact(World.cell?_of_block (w:=W6) (a:=⟨w.heap.size+1,0,none⟩) hn).trans ((cc _ _ _ _ r1).trans rfl)
   ·exact(World.cell?_of_block (w:=W6) (a:=⟨w.heap.size+1,1,none⟩) hn).trans ((cc _ _ _ _ r1).trans rfl)
   ·exact λj=>(World.frozen?_of_block (w:=W6) (a:=⟨w.heap.size+1,j,none⟩) hn).trans (Vt _ _ _ _ _ r1)
   ·intro h;rw[he]at h;exact absurd rfl h
   ·intro _
    refine⟨la,_,lc,na,_,nc,rfl,(World.cell?_of_block (w:=w2) (a:=⟨w.heap.size+2,0,none⟩) hp2).trans hr.hg.c0,(World.cell?_of_block (w:=w2) (a:=⟨w.heap.size+2,1,none⟩) hp2).trans hr.hg.c1,λw'' hs''=>?_⟩;rw[he];exact hr.stay ((Ys.setCell (w.heap.size+6) w2 (w.heap.size+5) 0 .nilIface (by omega)).trans hs'')
  ·have hall:∀v k,k<w.heap.size+5->(((w1.alloc o).alloc (.cells #[.int .i64 2,.int .i64 pl] 80)).setCell ⟨w.heap.size+5,0,none⟩ v).heap[k]?=w1.heap[k]?:=λv k hk=>by
    rw[Below.heap_setCell _ _ _ _ (by simp;omega),Below.heap_alloc _ _ _ (by simp;omega),Below.heap_alloc _ _ _ (by omega)]
   have hn:=λv=>(hall v (w.heap.size+1) (by omega)).trans (one hb)
   have hq:∀v,(((w1.alloc o).alloc (.cells #[.int .i64 2,.int .i64 pl] 80)).setCell ⟨w.heap.size+5,0,none⟩ v).heap[w1.heap.size+1]?=some (.cells #[.int .i64 2,.int .i64 pl] 80):=λv=>by
    rw[Below.heap_setCell _ _ _ _ (by simp;omega)];have:=heap_alloc_last (w1.alloc o) (.cells #[.int .i64 2,.int .i64 pl] 80);simpa using this
   have hqc:=λv i=>cell_of_row _ (w1.heap.size+1) i _ _ (0,0) (hq v);refine⟨(((hB.trans (hb.mono (by omega))).alloc (by omega) _).alloc (by simp;omega) _).setCell (show w.heap.size<=(⟨w.heap.size+5,0,none⟩:Addr).block by simp) _,by simp;omega,?_,?_,?_,?_,?_⟩
   ·exact(World.cell?_of_block (w:=W6) (a:=⟨w.heap.size+1,0,none⟩) (hn _)).trans ((cc _ _ _ _ r1).trans rfl)
   ·exact(World.cell?_of_block (w:=W6) (a:=⟨w.heap.size+1,1,none⟩) (hn _)).trans ((cc _ _ _ _ r1).trans rfl)
   ·exact λj=>(World.frozen?_of_block (w:=W6) (a:=⟨w.heap.size+1,j,none⟩) (hn _)).trans (Vt _ _ _ _ _ r1)
   ·exact λ_=>⟨_,rfl,by omega,(hqc _ 0).trans rfl,(hqc _ 1).trans (by rw[hpl];rfl)⟩
   ·intro h;omega
def ym5(r:(List Int×List Fl.Node)×Nat)(w:World)(e:Ending)(w':World):Prop:=
 Below w.heap.size w w'/\
 (r.2≠0->∃q,e=.returned (.tuple #[.agg #[.slice none 0 0,.slice none 0 0],.iface 76 (.pointer (some ⟨q,0,none⟩))])/\w'.cell? ⟨q,0,none⟩=some (.int .i64 2)/\w'.cell? ⟨q,1,none⟩=some (.int .i64 (r.2:Int)))/\
 (r.2=0->∃la n lc na n' nc,e=.returned (.tuple #[.agg #[.slice la n lc,.slice na n' nc],.nilIface])/\∀w'',Ys w.heap.size w' w''->Zy w''.heap.size w'' (.slice la n lc) r.1.1/\Zm w''.heap.size w'' (.slice na n' nc) r.1.2)
def yq8{s:List UInt8}{w:World}(hs:s.length<=40000)(hpw:Vs w)(hmx:Zh w):
  Calls prog 33 #[.string ⟨s.toArray⟩] w (ym5 (Fl.readText s) w):=by
 have hmf:∀(fn:Fn) (first cap:Array Value) (w:World),(Instr.makeFunc fn first cap).run prog w=.ok (.func fn first cap) w:=λ_ _ _ _=>rfl;have HC:Hid (Calls prog 39 #[.func (.func 54) #[] #[.pointer (some ⟨w.heap.size,0,none⟩),.pointer (some ⟨w.heap.size+2,0,none⟩),.pointer (some ⟨w.heap.size+4,0,none⟩)]] (RW5 w s) (yux (Fl.readText s) w)):=yvz hs hpw hmx;clear hs hpw hmx
 go_enter func33,ntmps33
 go_wp2_with (first|(go_at_call 38;refine(zyw _).mono ?_;rintro e w1 ⟨rfl,rfl⟩)|(refine Vj rfl _ _ 98 rfl _ _ _ Zu rfl (by simp) rfl Tryz.infoRules zyx zw1 ?_))
 refine(HC.out).mono ?_;clear HC;rintro e wz ⟨hB,hsz,c0,c1,fz,hbad,hgood⟩;have HB:Hid (Below w.heap.size w wz):=hB;clear hB
 by_cases hr:(Fl.readText s).2=0
 ·obtain⟨la,n,lc,na,n',nc,rfl,d0,d1,hst⟩:=hgood hr
  have HRR:Hid ((Fl.readText s).2=0):=hr;have HST:Hid (∀w'',Ys (w.heap.size+6) wz w''->Zy w''.heap.size w'' (.slice la n lc) (Fl.readText s).1.1/\Zm w''.heap.size w'' (.slice na n' nc) (Fl.readText s).1.2):=hst;clear hbad hgood hr hst
  go_wp2_with fail
  obtain⟨e0,e1,ek,es,eb⟩:=Jq (.slice la n lc) (.slice na n' nc) c0 c1;exact bodyPost_ret (v:=.tuple #[.agg #[.slice la n lc,.slice na n' nc],.nilIface]) (by simp[results,results33,go_sem,e0,e1]) rfl
   ⟨eb _ _ HB.out (by omega),λh=>absurd HRR.out h,λ_=>⟨la,n,lc,na,n',nc,rfl,λw'' hs''=>HST.out w'' ⟨by have:=hs''.size;omega,λk hk hlt=>(hs''.block k (by omega) (by omega)).trans (ek k (by omega))⟩⟩⟩
 ·obtain⟨q,rfl,hq,q0,q1⟩:=hbad hr
  have HRR:Hid (¬(Fl.readText s).2=0):=hr;clear hbad hgood hr
  go_wp2_with fail
  obtain⟨e0,e1,ek,es,eb⟩:=Jq (.slice none 0 0) (.slice none 0 0) c0 c1;exact bodyPost_ret (v:=.tuple #[.agg #[.slice none 0 0,.slice none 0 0],.iface 76 (.pointer (some ⟨q,0,none⟩))]) (by simp[results,results33,go_sem,e0,e1]) rfl
   ⟨eb _ _ HB.out (by omega),λ_=>⟨q,rfl,(World.cell?_of_block (w:=wz) (a:=⟨q,0,none⟩) (ek q (by omega))).trans q0,(World.cell?_of_block (w:=wz) (a:=⟨q,1,none⟩) (ek q (by omega))).trans q1⟩,λh=>absurd h HRR.out⟩
def zpv(s:List UInt8)(w:World)(e:Ending)(w':World):Prop:=
 Below w.heap.size w w'/\
 ((Fl.readText s).2≠0->∃q,e=.returned (.tuple #[.slice none 0 0,.iface 76 (.pointer (some ⟨q,0,none⟩))])/\w'.cell? ⟨q,0,none⟩=some (.int .i64 2)/\w'.cell? ⟨q,1,none⟩=some (.int .i64 ((Fl.readText s).2:Int)))/\
 ((Fl.readText s).2=0->Ue (Fl.encode (Fl.readText s).1.1 (Fl.readText s).1.2) w e w')
def Ue.base{r:List UInt8×Bool×Int}{w w1 w':World}{e:Ending}(h:Ue r w1 e w')(hb:Below w.heap.size w w1):Ue r w e w':=by
 obtain⟨h1,h2,h3⟩:=h;refine⟨hb.trans (h1.mono hb.size),λhr=>?_,h3⟩;obtain⟨va,n,c,he,ho⟩:=h2 hr;exact⟨va,n,c,he,zwy (base':=w.heap.size) ho hb.size⟩
def yvy{s:List UInt8}{w:World}(hs:s.length<=40000)(hpw:Vs w)(hmx:Zh w):
  Calls prog 25 #[.string ⟨s.toArray⟩] w (zpv s w):=by
 have HC:Hid (Calls prog 33 #[.string ⟨s.toArray⟩] w (ym5 (Fl.readText s) w)):=yq8 hs hpw hmx;clear hs hpw hmx
 go_enter func25,ntmps25
 go_wp2_with fail
 refine HC.out.mono ?_;rintro e wz ⟨hB,hbad,hgood⟩;have HB:Hid (Below w.heap.size w wz):=hB;clear hB HC
 by_cases hr:(Fl.readText s).2=0
 ·obtain⟨la,n,lc,na,n',nc,rfl,hst⟩:=hgood hr
  have HRR:Hid ((Fl.readText s).2=0):=hr;obtain⟨ls,hls⟩:∃ls,ls=(Fl.readText s).1.1:=⟨_,rfl⟩;obtain⟨ns,hns⟩:∃ns,ns=(Fl.readText s).1.2:=⟨_,rfl⟩;obtain⟨hi,hn⟩:=hst wz ⟨Nat.le_refl _,λ_ _ _=>rfl⟩;rw[<-hls]at hi;rw[<-hns]at hn;obtain⟨_,_,e1,_⟩:=id hi;obtain⟨_,_,e2,_⟩:=id hn;simp only[Value.slice.injEq]at e1 e2;obtain⟨-,rfl,-⟩:=e1;obtain⟨-,rfl,-⟩:=e2
  have HEN:Hid (∀o,Calls prog 32 #[.agg #[.slice la ls.length lc,.slice na ns.length nc]] (wz.alloc o) (Ue (Fl.encode ls ns) (wz.alloc o))):=λo=>
   zr1 ls ns la na lc nc (wz.alloc o) ((hi.below ((Below.refl _ _).alloc (Nat.le_refl _) _)).mono (by simp)) ((hn.below ((Below.refl _ _).alloc (Nat.le_refl _) _)).mono (by simp))
  have HLS:Hid (ls=(Fl.readText s).1.1):=hls;have HNS:Hid (ns=(Fl.readText s).1.2):=hns;clear hbad hgood hr hst hi hn hls hns
  go_wp2_with fail
  refine(HEN.out _).mono ?_;intro e w2 he;have HE:Hid (Ue (Fl.encode ls ns) w e w2):=he.base (HB.out.alloc HB.out.size _);have hcase:=HE.out.2;clear he HEN;have HFIN:Hid (∀e',e'=e->zpv s w e' w2):=by
   rintro e' rfl;exact⟨HE.out.1,λh=>absurd HRR.out h,λ_=>by rw[<-HLS.out,<-HNS.out];exact HE.out⟩
  cases hr2:(Fl.encode ls ns).2.1 with
  |true=>
   obtain⟨va,n,c,rfl,_⟩:=hcase.1 hr2;clear hcase hr2 HE;go_wp2
   go_ret2
   exact HFIN.out _ rfl
  |false=>
   by_cases h0:(Fl.encode ls ns).2.2<0
   ·obtain rfl:=(hcase.2 hr2).1 h0
    clear hcase hr2 HE h0;go_wp2
    go_ret2
    exact HFIN.out _ rfl
   ·obtain⟨q,rfl,_,_⟩:=(hcase.2 hr2).2 (by omega)
    clear hcase hr2 HE h0;go_wp2
    go_ret2
    exact HFIN.out _ rfl
 ·obtain⟨q,rfl,q0,q1⟩:=hbad hr
  have HRR:Hid (¬(Fl.readText s).2=0):=hr;have HQ:Hid (∀o,(wz.alloc o).cell? ⟨q,0,none⟩=some (.int .i64 2)/\(wz.alloc o).cell? ⟨q,1,none⟩=some (.int .i64 ((Fl.readText s).2:Int))):=λo=>⟨(World.cell?_alloc_lt _ _ _ (World.block_lt_of_cell? wz _ q0)).trans q0,(World.cell?_alloc_lt _ _ _ (World.block_lt_of_cell? wz _ q1)).trans q1⟩;clear hbad hgood hr q0 q1;go_wp2
  go_ret2
  exact⟨HB.out.alloc HB.out.size _,λ_=>⟨q,rfl,HQ.out _⟩,λh=>absurd h HRR.out⟩
def zo0(s:List UInt8)(w:World)(e:Ending)(w':World):Prop:=
 Below w.heap.size w w'/\
 ((Fl.readText s).2≠0->e=.returned (.tuple #[.slice none 0 0,.int .i64 2,.int .i64 ((Fl.readText s).2:Int)]))/\
 ((Fl.readText s).2=0->zp9 (Fl.encode (Fl.readText s).1.1 (Fl.readText s).1.2) w e w')
def yvx{s:List UInt8}{w:World}(hE:Yj w)(hs:s.length<=40000)(hpw:Vs w)(hmx:Zh w):
  Calls prog 13 #[.string ⟨s.toArray⟩] w (zo0 s w):=by
 have HC:Hid (Calls prog 25 #[.string ⟨s.toArray⟩] w (zpv s w)):=yvy hs hpw hmx;have HEB:Hid (∀o,Below w.heap.size w o->Yj o):=λo ho=>(ho.cell (p:=⟨0,0,none⟩) (World.block_lt_of_cell? w _ hE)).trans hE;clear hs hpw hmx hE
 go_enter func13,ntmps13
 go_wp2_with fail
 refine HC.out.mono ?_;rintro e wz ⟨hB,hbad,hgood⟩;have HB:Hid (Below w.heap.size w wz):=hB;have hsz:=hB.size;clear hB HC
 by_cases hr:(Fl.readText s).2=0
 ·obtain⟨-,hgood,hbad2⟩:=hgood hr
  have HRR:Hid ((Fl.readText s).2=0):=hr;obtain⟨r,hr1⟩:∃r,r=Fl.encode (Fl.readText s).1.1 (Fl.readText s).1.2:=⟨_,rfl⟩
  have HNG:Hid (r.2.2<0->r.2.2= -1):=λh=>by rw[hr1]at h⊢;exact zpz _ _ h
  have HFIN:Hid (∀e' w2,Below w.heap.size w w2->zp9 r w e' w2->zo0 s w e' w2):=λe' w2 hb hp=>⟨hb,λh=>absurd HRR.out h,λ_=>by rw[<-hr1];exact hp⟩;rw[<-hr1]at hgood hbad2;clear hbad hr hr1
  cases hr2:r.2.1 with
  |true=>
   obtain⟨va,n,c,rfl,ho⟩:=hgood hr2;have HO:Hid (wz.ownsRow w.heap.size 5 1 (.slice va n c) r.1.length (r.1.map Za)):=ho;have HR2:Hid (r.2.1=true):=hr2;clear hgood hbad2 hr2 ho
   go_wp2_with fail
   refine(zy8 _).mono ?_;rintro e w2 ⟨rfl,hB2⟩;have HB2:Hid (Below w.heap.size w w2):=HB.out.trans (hB2.mono (by omega));have HO2:Hid (w2.ownsRow w.heap.size 5 1 (.slice va n c) r.1.length (r.1.map Za)):=HO.out.kept (row:=none) ⟨hB2.os,hB2.tape,hB2.output,hB2.size,λk hk _=>hB2.block k hk⟩ (by cases (Value.slice va n c).ownBlock<;>simp);clear hB2;go_wp2
   go_ret3
   exact HFIN.out _ _ HB2.out ⟨HB2.out,λh=>(by rw[HR2.out]at h;cases h),λ_=>⟨va,n,c,rfl,HO2.out⟩⟩
  |false=>
   have HR2:Hid (r.2.1=false):=hr2
   by_cases h0:r.2.2<0
   ·obtain rfl:=(hbad2 hr2).1 h0
    have H0:Hid (r.2.2= -1):=HNG.out h0;clear hgood hbad2 hr2 h0
    go_wp2_with fail
    refine(zx8 8 _ (HEB.out _ HB.out)).mono ?_;rintro e w2 ⟨rfl,hB2⟩;have HB2:Hid (Below w.heap.size w w2):=HB.out.trans (hB2.mono (by omega));clear hB2;go_wp2
    go_ret3
    exact HFIN.out _ _ HB2.out ⟨HB2.out,λ_=>by rw[H0.out];rfl,λh=>by rw[HR2.out]at h;cases h⟩
   ·obtain⟨q,rfl,q0,q1⟩:=(hbad2 hr2).2 (by omega)
    clear hgood hbad2 hr2 h0
    go_wp2_with fail
    refine(zx2 q 0 8 r.2.2 _ (HEB.out _ HB.out) q0 q1).mono ?_;rintro e w2 ⟨rfl,hB2⟩;have HB2:Hid (Below w.heap.size w w2):=HB.out.trans (hB2.mono (by omega));clear hB2 q0 q1;go_wp2
    go_ret3
    exact HFIN.out _ _ HB2.out ⟨HB2.out,λ_=>rfl,λh=>by rw[HR2.out]at h;cases h⟩
 ·obtain⟨q,rfl,q0,q1⟩:=hbad hr
  have HRR:Hid (¬(Fl.readText s).2=0):=hr;clear hbad hgood hr
  go_wp2_with fail
  refine(zx2 q 0 2 ((Fl.readText s).2:Int) _ (HEB.out _ HB.out) q0 q1).mono ?_;rintro e w2 ⟨rfl,hB2⟩;have HB2:Hid (Below w.heap.size w w2):=HB.out.trans (hB2.mono (by omega));clear hB2 q0 q1;go_wp2
  go_ret3
  exact⟨HB2.out,λ_=>rfl,λh=>absurd h HRR.out⟩
end Go.Proofs.YtminjljgedopkaaGreatDoor
