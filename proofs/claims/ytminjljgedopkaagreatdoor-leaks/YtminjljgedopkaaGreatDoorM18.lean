import Derived.Test.YtminjljgedopkaaGreatDoorM17
import Derived.LaidEql
import Derived.RowKitTokens
set_option linter.all false
set_option maxRecDepth 100000
set_option maxHeartbeats 40000000
namespace Go.Proofs.YtminjljgedopkaaGreatDoor
open Go.RowKit Go.Proofs.Tryz
def yt2(r:Nat×List Int×List Fl.Node)(w:World)(e:Ending)(w':World):Prop:=
  Below w.heap.size w w'/\
  ((0<r.1/\∃a,e=.returned (.tuple #[.agg #[.slice none 0 0,.slice none 0 0],.iface 76 (.pointer (some ⟨a,0,none⟩))])/\w'.cell? ⟨a,0,none⟩=some (.int .i64 7)/\w'.cell? ⟨a,1,none⟩=some (.int .i64 r.1))\/
   (r.1=0/\∃la n lc na n' nc,e=.returned (.tuple #[.agg #[.slice la n lc,.slice na n' nc],.nilIface])/\Zy w'.heap.size w' (.slice la n lc) r.2.1/\Zo w'.heap.size w' (.slice na n' nc) r.2.2))
def yt3{B:Nat}{w:World}{b off n cap:Nat}{xs:List Int}(h:Zy B w (.slice (some ⟨b,off,none⟩) n cap) xs)(k:Nat)(hk:k<=xs.length):Zy B w (.slice (some ⟨b,off+k,none⟩) (n - k) (cap - k)) (xs.drop k):=by
 obtain⟨ao,cp,e,h1,h2,h3⟩:=h;injection e with e1 e2 e3;subst e2;subst e3;refine⟨_,_,by rw[List.length_drop],by rw[List.length_drop];omega,by rw[List.length_drop];omega,λhne=>?_⟩;obtain⟨b',o',ea,hb',hc⟩:=h3 (by rintro rfl;simp at hne);rw[ea]at e1;injection e1 with e1;injection e1 with e4 e5;subst e4;subst e5;refine⟨b,off+k,rfl,hb',λi hi=>?_⟩;rw[List.length_drop]at hi;rw[Nat.add_assoc,hc (k+i) (by omega)]
 congr 2
 rw[List.getD_eq_getElem?_getD,List.getD_eq_getElem?_getD,List.getElem?_drop]
def zr0(V:World)(ao:Option Addr)(n cap k:Nat)(hk:k<=n)(hc:n<=cap):(Instr.slice 23 (.slice ao n cap) (some (.int .i64 k)) none none).run prog V=.ok (.slice (if cap=k then ao else ao.map (·.add k)) (n - k) (cap - k)) V:=by
 have h1:(k:Int)<=(n:Int):=by omega
 have h2:(n:Int)<=(cap:Int):=by omega
 simp[Instr.slice,run_underlying underlying23,Instr.sliceBounds,Instr.sliceBound,asIntOf,go_sem,h1,h2];intro hh;omega
def yrv{w W:World}{Pb Lb:Nat}{clv chv bv vv:Value}{p:Fl.Prog}{vs:List Int}(h1:Pb<w.heap.size)(h2:Lb<w.heap.size)(h3:Zn w Pb 5 (rw_ [ptr Lb,clv,chv,.int .i64 p.locals,bv]))(h4:Un w Lb p.n p.leq)(h5:Ji (λb=>b<w.heap.size) w clv p.cells)(h6:Ji (λb=>b<w.heap.size) w chv p.chans)(h7:Zt 4 (λb=>b<w.heap.size) w bv p.body)(ok:p.Ok)(lv:p.Lv)(hb:Below w.heap.size w W)(vi:Zy W.heap.size W vv vs)(lo:Fl.LvOk p vs):
  Xy (W.alloc (.cells #[.pointer (some ⟨Pb,0,none⟩),vv] 154)) W.heap.size Pb Lb clv chv bv vv (λb=>b<w.heap.size) p vs:=by
 obtain⟨W3,hW3⟩:∃W3,W3=W.alloc (.cells #[.pointer (some ⟨Pb,0,none⟩),vv] 154):=⟨_,rfl⟩
 have hB:Below W.heap.size W W3:=by rw[hW3];exact bA
 have hb3:Below w.heap.size w W3:=hb.trans (hB.mono hb.size)
 have rC:W3.heap[W.heap.size]?=some (.cells #[.pointer (some ⟨Pb,0,none⟩),vv] 154 (0,0)):=by rw[hW3];exact heap_alloc_last _ _
 have hz3:W3.heap.size=W.heap.size+1:=by rw[hW3];simp
 rw[<-hW3];have q:∀j,W3.cell? ⟨Pb,j,none⟩=w.cell? ⟨Pb,j,none⟩:=λj=>hb3.cell (p:=⟨Pb,j,none⟩) h1;have hs:=hb3.size;exact{hF:=by omega,c0:=cell_of_row _ _ 0 _ _ (0,0) rC,c1:=cell_of_row _ _ 1 _ _ (0,0) rC,lv:=⟨⟨by omega,by omega⟩,(q _).trans (h3.c 0 (by omega)),h4.block (hb3.block _ h2),lv⟩,p1:=(q _).trans (h3.c 1 (by omega)),p2:=(q _).trans (h3.c 2 (by omega)),p4:=(q _).trans (h3.c 4 (by omega)),ce:=(by obtain⟨a,c,e,-⟩:=h5;exact⟨a,c,e⟩),ch:=((h6.ints (λb hb=>hb)).below hb3).mono hb3.size,vi:=(vi.below hB).mono hB.size,bo:=Zt.kept (λ_ h=>h) (λb hs=>hb3.block b hs) _ _ _ h7,hS:=λb hs=>by omega,ok:=lo,pk:=ok}
def yx3{w:World}{Pb:Nat}{p:Fl.Prog}(hp:Ug (λb=>b<w.heap.size) w Pb p)(ok:p.Ok)(lv:p.Lv):Calls prog 35 #[.pointer (some ⟨Pb,0,none⟩)] w (yt2 (Fl.infer p) w):=by
 obtain⟨Lb,clv,chv,bv,h1,h2,h3,h4,h5,h6,h7⟩:=hp
 obtain⟨ca,cc,rfl⟩:∃a c,clv=.slice a p.cells.length c:=by obtain⟨a,c,e,-⟩:=h5;exact⟨a,c,e⟩
 have q:∀W,Below w.heap.size w W->∀j,W.cell? ⟨Pb,j,none⟩=w.cell? ⟨Pb,j,none⟩:=λW hW j=>hW.cell (p:=⟨Pb,j,none⟩) h1
 have HLA:Hid (∀W,Below w.heap.size w W->Calls prog 63 #[.pointer (some ⟨Pb,0,none⟩)] W λe w'=>∃lv,e=.returned lv/\Zy w'.heap.size w' lv (List.replicate p.locals (Fl.low p))/\Below W.heap.size W w'):=λW hW=>by
  have hz:=hW.size;exact zl1 ⟨⟨by omega,by omega⟩,(q W hW 0).trans (h3.c 0 (by omega)),h4.block (hW.block _ h2),lv⟩ ((q W hW 3).trans (h3.c 3 (by omega))) ok.lo
 have HVA:Hid (∀W v,Below w.heap.size w W->Zy W.heap.size W v (List.replicate p.locals (Fl.low p))->Calls prog 62 #[.pointer (some ⟨Pb,0,none⟩),v] W λe w'=>Below W.heap.size W w'/\(∀j,w'.frozen? ⟨W.heap.size,j,none⟩=false)/\W.heap.size<w'.heap.size/\∃v,e=.returned v/\w'.ownsRow (W.heap.size+1) 3 1 v (Fl.start p).length ((Fl.start p).map (Value.int .i64))):=λW v hW hv=>by
  have hz:=hW.size;exact zkw (by omega) ((q W hW 1).trans (h3.c 1 (by omega))) (((h5.ints (λb hb=>hb)).below hW).mono hW.size) hv ⟨by have:=ok.ce;simp;omega,by have:=ok.lo;simp;omega⟩
 have HFN:Hid (∀W v,Below w.heap.size w W->Zy W.heap.size W v (Fl.start p)->Xy (W.alloc (.cells #[.pointer (some ⟨Pb,0,none⟩),v] 154)) W.heap.size Pb Lb (.slice ca p.cells.length cc) chv bv v (λb=>b<w.heap.size) p (Fl.start p)):=λW v hW hv=>yrv h1 h2 h3 h4 h5 h6 h7 ok lv hW hv (zn7 lv)
 have HCH:Hid (∀b' o n cap,0<n->chv=.slice (some ⟨b',o,none⟩) n cap->b'<w.heap.size):=λb' o n cap hn e=>by
  obtain⟨ao,cp,e2,-,-,h4⟩:=h6;rw[e]at e2;injection e2 with e3 e4 e5;obtain⟨b,e6,hb,-⟩:=h4 (by rintro hh;rw[hh]at e4;simp at e4;omega);rw[e6]at e3;injection e3 with e3;injection e3 with e3;rw[e3];exact hb
 have HSL:Hid ((Fl.start p).length=p.cells.length+p.locals):=(zn7 lv).1;have HINF:Hid (Fl.infer p=if 0<Fl.firstDown p (Fl.found p) then(Fl.firstDown p (Fl.found p),[],[]) else(0,(Fl.found p).drop p.cells.length,(Fl.wBlock p (Fl.found p) 4 [] p.body (Fl.low p)).2)):=rfl;have hnc:p.cells.length<=6:=ok.ce;have hnl:p.locals<=4:=ok.lo;obtain⟨RES,hRES⟩:∃RES,RES=Fl.infer p:=⟨_,rfl⟩;rw[<-hRES]at HINF⊢;clear q h3 h4 h5 h6 h7 ok lv hRES
 go_enter func35,ntmps35
 go_wp2_with fail
 obtain⟨W0,hW0⟩:∃W0,W0=w.alloc (.cells #[.slice none 0 0,.slice none 0 0] 26):=⟨_,rfl⟩;rw[<-hW0]
 have HB0:Hid (Below w.heap.size w W0):=by show Below _ _ _;rw[hW0];exact bA
 have HR0:Hid (W0.heap[w.heap.size]?=some (.cells #[.slice none 0 0,.slice none 0 0] 26 (0,0))):=by show _=_;rw[hW0];exact heap_alloc_last _ _
 have hz0:w.heap.size<W0.heap.size:=by rw[hW0];simp
 clear hW0;refine(HLA.out _ HB0.out).mono ?_;rintro e W1 ⟨lv1,rfl,hi1,hB1⟩
 obtain⟨la1,n1,lc1,rfl⟩:∃a n c,lv1=.slice a n c:=by obtain⟨a,c,e⟩:=Jn hi1;exact⟨a,_,c,e⟩
 have HI1:Hid (Zy W1.heap.size W1 (.slice la1 n1 lc1) (List.replicate p.locals (Fl.low p))):=hi1;have HB1:Hid (Below w.heap.size w W1):=HB0.out.trans (hB1.mono HB0.out.size);have HR1:Hid (W1.heap[w.heap.size]?=some (.cells #[.slice none 0 0,.slice none 0 0] 26 (0,0))):=(hB1.block _ hz0).trans HR0.out
 have hz1:w.heap.size<W1.heap.size:=by have:=hB1.size;omega
 clear hi1 hB1 HLA HR0
 go_wp2_with fail
 refine(HVA.out _ _ HB1.out HI1.out).mono ?_;rintro e W2 ⟨hB2,hfz,hlt,v,rfl,ho⟩;have hvi:Zy W2.heap.size W2 v (Fl.start p):=ze6 ho;obtain⟨b,va,vc,rfl,hb1,hb2,hbz,hvb,hva⟩:∃b va vc,v=.slice va (Fl.start p).length vc/\W1.heap.size<=b/\b<W2.heap.size/\(∀j,W2.frozen? ⟨b,j,none⟩=false)/\(∀b' o n cap,v=.slice (some ⟨b',o,none⟩) n cap->b'=b)/\((va=none/\(Fl.start p).length=0/\vc=0)\/(va=some ⟨b,0,none⟩/\(Fl.start p).length<=vc)):=by
  rcases id ho.2 with⟨rfl,h0⟩|⟨g,cap,cur,rfl,hb,hg,h3,h4,h5,h6⟩
  ·exact⟨W1.heap.size,none,0,by rw[h0],Nat.le_refl _,hlt,hfz,λb' o n cap e=>(by injection e with e;cases e),.inl ⟨rfl,h0,rfl⟩⟩
  ·exact⟨g,some ⟨g,0,none⟩,cap,rfl,by omega,(by refine Classical.byContradiction λhn=>?_;rw[Array.getElem?_eq_none (by omega)]at hg;cases hg),λj=>Uj _ _ _ _ _ hg,λb' o n cap e=>(by injection e with e;injection e with e;injection e with e;exact e.symm),.inr ⟨rfl,h3⟩⟩
 have HVI:Hid (Zy W2.heap.size W2 (.slice va (Fl.start p).length vc) (Fl.start p)):=hvi;have HB2:Hid (Below w.heap.size w W2):=HB1.out.trans (hB2.mono HB1.out.size);have HR2:Hid (W2.heap[w.heap.size]?=some (.cells #[.slice none 0 0,.slice none 0 0] 26 (0,0))):=(hB2.block _ hz1).trans HR1.out;have HVB:Hid (∀b' o n cap,Value.slice va (Fl.start p).length vc=.slice (some ⟨b',o,none⟩) n cap->b'=b):=hvb;have HVA2:Hid ((va=none/\(Fl.start p).length=0/\vc=0)\/(va=some ⟨b,0,none⟩/\(Fl.start p).length<=vc)):=hva;obtain⟨W3,hW3⟩:∃W3,W3=W2.alloc (.cells #[.pointer (some ⟨Pb,0,none⟩),.slice va (Fl.start p).length vc] 154):=⟨_,rfl⟩
 have hB3:Below W2.heap.size W2 W3:=by rw[hW3];exact bA
 have HFI:Hid (Xy W3 W2.heap.size Pb Lb (.slice ca p.cells.length cc) chv bv (.slice va (Fl.start p).length vc) (λb=>b<w.heap.size) p (Fl.start p)):=by show Xy _ _ _ _ _ _ _ _ _ _ _;rw[hW3];exact HFN.out _ _ HB2.out hvi
 have HSE:Hid (zyy W3 b W2.heap.size Pb Lb chv (λb=>b<w.heap.size)):=
  ⟨by omega,by omega,by omega,λc hc=>(by omega),λb' o n cap hn e=>(by have:=HCH.out b' o n cap hn e;omega),λj=>(hB3.frozen (p:=⟨b,j,none⟩) hb2).trans (hbz j),by have:=hB3.size;omega⟩
 have HRA:Hid (Calls prog 64 #[.pointer (some ⟨W2.heap.size,0,none⟩)] W3 (zq5 W3 b b W2.heap.size Pb Lb (.slice ca p.cells.length cc) chv bv (.slice va (Fl.start p).length vc) (λb=>b<w.heap.size) p (Fl.start p))):=zmz HFI.out HSE.out hvb (Nat.le_refl _);have HB3:Hid (Below w.heap.size w W3):=HB2.out.trans (hB3.mono HB2.out.size);have HR3:Hid (W3.heap[w.heap.size]?=some (.cells #[.slice none 0 0,.slice none 0 0] 26 (0,0))):=(hB3.block _ (by omega)).trans HR2.out;clear hvi hvb hva ho hB2 hB3 hfz hbz HVA HFN HVI HI1 HSE HFI HCH
 go_wp2_with fail
 rw[<-hW3];clear hW3;refine HRA.out.mono ?_;rintro e W4 ⟨rfl,hf4,-,hB4⟩;have HF4:Hid (Xy W4 W2.heap.size Pb Lb (.slice ca p.cells.length cc) chv bv (.slice va (Fl.start p).length vc) (λb=>b<w.heap.size) p (Fl.found p)):=hf4;have HB4:Hid (Below w.heap.size w W4):=HB3.out.trans (hB4.mono (by omega));have HR4:Hid (W4.heap[w.heap.size]?=some (.cells #[.slice none 0 0,.slice none 0 0] 26 (0,0))):=(hB4.block _ (by omega)).trans HR3.out;have HFD:Hid (Calls prog 65 #[.pointer (some ⟨W2.heap.size,0,none⟩)] W4 λe w'=>e=.returned (.int .i64 (Fl.firstDown p (Fl.found p)))/\Below W4.heap.size W4 w'):=zg1 HF4.out;have hz4:W2.heap.size<W4.heap.size:=hf4.hF;obtain⟨FD,hFD⟩:∃FD,FD=Fl.firstDown p (Fl.found p):=⟨_,rfl⟩;rw[<-hFD]at HFD HINF;clear hf4 hB4 HRA hFD
 go_wp2_with fail
 refine HFD.out.mono ?_;rintro e W5 ⟨rfl,hB5⟩;have HB5:Hid (Below w.heap.size w W5):=HB4.out.trans (hB5.mono HB4.out.size);have HR5:Hid (W5.heap[w.heap.size]?=some (.cells #[.slice none 0 0,.slice none 0 0] 26 (0,0))):=(hB5.block _ (by omega)).trans HR4.out;have HF5:Hid (Xy W5 W2.heap.size Pb Lb (.slice ca p.cells.length cc) chv bv (.slice va (Fl.start p).length vc) (λb=>b<w.heap.size) p (Fl.found p)):=HF4.out.below hB5;have hz5:W2.heap.size<W5.heap.size:=HF5.out.hF;have c0:W5.cell? ⟨w.heap.size,0,none⟩=some (.slice none 0 0):=cell_of_row _ _ 0 _ _ (0,0) HR5.out;have c1:W5.cell? ⟨w.heap.size,1,none⟩=some (.slice none 0 0):=cell_of_row _ _ 1 _ _ (0,0) HR5.out;have fz:∀j,W5.frozen? ⟨w.heap.size,j,none⟩=false:=λj=>Uj _ _ _ _ _ HR5.out
 have hwz:w.heap.size<W5.heap.size:=by omega
 clear hB5 HFD
 by_cases hfd:0<FD
 ·have HE:Hid (RES=(FD,[],[])):=by show _=_;rw[HINF.out,if_pos hfd]
  have hfI:(0:Int)<(FD:Int):=(by omega)
  go_wp2_with fail
  obtain⟨e0,e1,ek,es,eb⟩:=zo0 (wz:=W5) (.slice none 0 0) (.slice none 0 0) c0 c1;obtain⟨W6,hW6⟩:∃W6,W6=(W5.setCell ⟨w.heap.size,0,none⟩ (.slice none 0 0)).setCell ⟨w.heap.size,1,none⟩ (.slice none 0 0):=⟨_,rfl⟩;have hB6:=eb _ _ HB5.out (Nat.le_refl _);rw[<-hW6]at e0 e1 es hB6⊢;have f0:∀o,(W6.alloc o).cell? ⟨w.heap.size,0,none⟩=some (.slice none 0 0):=λo=>(World.cell?_alloc_lt _ _ _ (by rw[es];exact hwz)).trans e0;have f1:∀o,(W6.alloc o).cell? ⟨w.heap.size,1,none⟩=some (.slice none 0 0):=λo=>(World.cell?_alloc_lt _ _ _ (by rw[es];exact hwz)).trans e1;refine bodyPost_ret (v:=.tuple #[.agg #[.slice none 0 0,.slice none 0 0],.iface 76 (.pointer (some ⟨W5.heap.size,0,none⟩))]) (by simp[results,results35,go_sem,f0,f1]) rfl
   ⟨hB6.alloc hB6.size _,.inl ⟨by rw[HE.out];exact hfd,_,rfl,?_,?_⟩⟩
  ·rw[<-es]
   simp
  ·rw[<-es,HE.out]
   simp
 ·have HE:Hid (RES=(0,(Fl.found p).drop p.cells.length,(Fl.wBlock p (Fl.found p) 4 [] p.body (Fl.low p)).2)):=by show _=_;rw[HINF.out,if_neg hfd]
  have hf0:FD=0:=(by omega);subst hf0;have HND:Hid (∀V,Below W5.heap.size W5 V->Calls prog 66 #[.pointer (some ⟨W2.heap.size,0,none⟩)] V λe w'=>∃nv,e=.returned nv/\(∀w'',Yi V.heap.size w' w''->Zo w''.heap.size w'' nv (Fl.wBlock p (Fl.found p) 4 [] p.body (Fl.low p)).2)/\Below V.heap.size V w'):=λV hV=>yzy (HF5.out.below hV);have HS:Hid (∀V,Below W5.heap.size W5 V->V.cell? ⟨W2.heap.size,1,none⟩=some (.slice va (Fl.start p).length vc)/\V.cell? ⟨Pb,1,none⟩=some (.slice ca p.cells.length cc)):=λV hV=>⟨(HF5.out.below hV).c1,(HF5.out.below hV).p1⟩;have HVI:Hid (∀V,Below W5.heap.size W5 V->Zy V.heap.size V (.slice va (Fl.start p).length vc) (Fl.found p)):=λV hV=>(HF5.out.below hV).vi;have HLF:Hid ((Fl.found p).length=p.cells.length+p.locals):=HF5.out.ok.1;have hsl:=HSL.out;have HSE:Hid ((Fl.start p).length=p.cells.length+p.locals):=hsl
  have HIE:Hid (∀(V:World) (sv:Value),Zy V.heap.size V sv ((Fl.found p).drop p.cells.length)->(sv.ownBlock=none\/sv.ownBlock=some b)->∀nv,(∀w'',Yi W5.heap.size V w''->Zo w''.heap.size w'' nv (Fl.wBlock p (Fl.found p) 4 [] p.body (Fl.low p)).2)->∀w'':World,W5.heap.size<=V.heap.size->w''.heap.size=V.heap.size->(∀k,k≠w.heap.size->w''.heap[k]?=V.heap[k]?)->Zy w''.heap.size w'' sv ((Fl.found p).drop p.cells.length)/\Zo w''.heap.size w'' nv (Fl.wBlock p (Fl.found p) 4 [] p.body (Fl.low p)).2):=λV sv h1 h2 nv h3 w'' hz hsz hk=>by
   refine⟨?_,h3 w'' ⟨by omega,λk hb _=>hk k (by omega)⟩⟩;obtain⟨ao,cap,e,g1,g2,g3⟩:=h1;refine⟨ao,cap,e,g1,g2,λhne=>?_⟩;obtain⟨b',off,ea,hb',hc⟩:=g3 hne;refine⟨b',off,ea,by omega,λi hi=>(World.cell?_of_block (a:=⟨b',off+i,none⟩) (hk b' ?_)).trans (hc i hi)⟩;rw[e,ea]at h2;rcases h2 with h2|h2
   ·cases h2
   ·injection h2 with h2
    simp only at h2;omega
  obtain⟨sl,hslv⟩:∃sl,sl=(Fl.start p).length:=⟨_,rfl⟩;obtain⟨nc,hncv⟩:∃nc,nc=p.cells.length:=⟨_,rfl⟩;have HSF:Hid (sl=(Fl.found p).length/\nc<=(Fl.found p).length/\nc=p.cells.length):=⟨by rw[hslv,HLF.out,HSE.out],by rw[HLF.out,hncv];omega,hncv⟩;rw[<-hslv]at HS HVI HVA2 hsl;rw[<-hncv]at HS hnc hsl HE HIE;have hle:(nc:Int)<=(sl:Int):=(by omega);have hncI:(nc:Int)<=6:=(by omega);have hslI:(sl:Int)<=10:=(by omega);clear HINF hfd HSL HSE HLF HVB HF4 HF5 HR1 HR2 HR3 HR4 hslv hncv hsl;obtain⟨sa,sn,sc,hrun,hdr,hob⟩:∃sa sn sc,(∀V:World,(Instr.slice 23 (.slice va sl vc) (some (.int .i64 nc)) none none).run prog V=.ok (.slice sa sn sc) V)/\(∀V,Zy V.heap.size V (.slice va sl vc) (Fl.found p)->Zy V.heap.size V (.slice sa sn sc) ((Fl.found p).drop nc))/\((Value.slice sa sn sc).ownBlock=none\/(Value.slice sa sn sc).ownBlock=some b):=by
   obtain⟨f1,f2,f3⟩:=HSF.out;rcases HVA2.out with⟨rfl,h0,rfl⟩|⟨rfl,hcap⟩
   ·refine⟨none,sl - nc,0 - nc,λV=>?_,λV hV=>?_,.inl rfl⟩
    ·rw[zr0 V none sl 0 nc (by omega) (by omega)]
     simp
    ·refine⟨none,0 - nc,by rw[List.length_drop];congr 1;omega,by rw[List.length_drop];omega,by rw[List.length_drop];unfold maxLen;omega,λhne=>absurd (List.drop_eq_nil_of_le (by omega)) hne⟩
   ·by_cases hc:vc=nc
    ·refine⟨some ⟨b,0,none⟩,sl - nc,vc - nc,λV=>?_,λV hV=>?_,.inr rfl⟩
     ·rw[zr0 V _ sl vc nc (by omega) (by omega),if_pos hc]
     ·refine⟨_,_,by rw[List.length_drop];congr 1;omega,by rw[List.length_drop];omega,by rw[List.length_drop];unfold maxLen;omega,λhne=>absurd (List.drop_eq_nil_of_le (by omega)) hne⟩
    ·refine⟨some ⟨b,0+nc,none⟩,sl - nc,vc - nc,λV=>?_,λV hV=>?_,.inr rfl⟩
     ·have h9:(⟨b,0,none⟩:Addr).add nc=⟨b,0+nc,none⟩:=by unfold Addr.add;split<;>simp_all
      rw[zr0 V _ sl vc nc (by omega) (by omega),if_neg hc,Option.map_some,h9]
     ·exact yt3 hV nc f2
  have HSV:Hid ((∀V,Zy V.heap.size V (.slice va sl vc) (Fl.found p)->Zy V.heap.size V (.slice sa sn sc) ((Fl.found p).drop nc))/\((Value.slice sa sn sc).ownBlock=none\/(Value.slice sa sn sc).ownBlock=some b)):=⟨hdr,hob⟩;have HRUN:Hid (∀V:World,(Instr.slice 23 (.slice va sl vc) (some (.int .i64 nc)) none none).run prog V=.ok (.slice sa sn sc) V):=hrun;have HF0:Hid (W5.cell? ⟨w.heap.size,0,none⟩=some (.slice none 0 0)/\W5.cell? ⟨w.heap.size,1,none⟩=some (.slice none 0 0)/\∀j,W5.frozen? ⟨w.heap.size,j,none⟩=false):=⟨c0,c1,fz⟩;have HB0:Hid (w.heap.size<b):=(by show _<_;omega);clear hdr hob hrun HVA2 c0 c1 fz hle hslI hncI hb1 hb2 hz4 HR5
  go_wp2_with fail
  refine Yy HS (Below.refl _ _).drew [11,13] [] [] (by kernel_rfl) (λc a d v w h=>by cases d<;>exact h) (λops _=>?_)
  iterate 9 refine Ze rfl (by rintro _ ⟨_,_⟩;go_simp<;>rfl) (by go_simp<;>rfl) ?_
  refine Ze rfl (by rintro V ⟨_,_⟩;have hrv:=HRUN.out V;go_simp<;>rfl) (by go_simp<;>rfl) ?_;refine Ze rfl (by rintro _ ⟨_,_⟩;go_simp<;>rfl) (by go_simp<;>rfl) ?_;refine Zs ?_
  go_wp2_with fail
  refine(HND.out _ (Below.refl _ _).drew).mono ?_;rintro e6 W6 ⟨nv,rfl,hnv,hB6⟩;have HB6:Hid (Below W5.heap.size W5 W6):=(Below.refl _ _).drew.trans hB6;have HNV:Hid (∀w'',Yi W5.heap.size W6 w''->Zo w''.heap.size w'' nv (Fl.wBlock p (Fl.found p) 4 [] p.body (Fl.low p)).2):=hnv;obtain⟨na,nn,ncp,rfl⟩:∃a n c,nv=.slice a n c:=by
   obtain⟨a,c,e,-⟩:=hnv W6 ⟨Nat.le_refl _,λ_ _ _=>rfl⟩;exact⟨a,_,c,e⟩
  have hz6:W5.heap.size<=W6.heap.size:=HB6.out.size;have d0:W6.cell? ⟨w.heap.size,0,none⟩=some (.slice none 0 0):=(HB6.out.cell (p:=⟨w.heap.size,0,none⟩) hwz).trans HF0.out.1;have d1:W6.cell? ⟨w.heap.size,1,none⟩=some (.slice none 0 0):=(HB6.out.cell (p:=⟨w.heap.size,1,none⟩) hwz).trans HF0.out.2.1;have df:∀j,W6.frozen? ⟨w.heap.size,j,none⟩=false:=λj=>(HB6.out.frozen (p:=⟨w.heap.size,j,none⟩) hwz).trans (HF0.out.2.2 j);clear hnv hB6 HND
  go_wp2_with fail
  refine⟨HS.out _ HB6.out,?_⟩;refine Ze rfl (by rintro _ ⟨_,_⟩;go_simp<;>rfl) (by go_simp<;>rfl) ?_;obtain⟨e0,e1,ek,es,eb⟩:=zo0 (wz:=W6) (.slice sa sn sc) (.slice na nn ncp) d0 d1;have HK:Hid (∀k,k≠w.heap.size->((W6.setCell ⟨w.heap.size,0,none⟩ (.slice sa sn sc)).setCell ⟨w.heap.size,1,none⟩ (.slice na nn ncp)).heap[k]?=W6.heap[k]?):=ek;have HT:Hid (((W6.setCell ⟨w.heap.size,0,none⟩ (.slice sa sn sc)).setCell ⟨w.heap.size,1,none⟩ (.slice na nn ncp)).cell? ⟨w.heap.size,0,none⟩=some (.slice sa sn sc)/\((W6.setCell ⟨w.heap.size,0,none⟩ (.slice sa sn sc)).setCell ⟨w.heap.size,1,none⟩ (.slice na nn ncp)).cell? ⟨w.heap.size,1,none⟩=some (.slice na nn ncp)/\((W6.setCell ⟨w.heap.size,0,none⟩ (.slice sa sn sc)).setCell ⟨w.heap.size,1,none⟩ (.slice na nn ncp)).heap.size=W6.heap.size/\∀B w',Below B w' W6->B<=w.heap.size->Below B w' ((W6.setCell ⟨w.heap.size,0,none⟩ (.slice sa sn sc)).setCell ⟨w.heap.size,1,none⟩ (.slice na nn ncp))):=⟨e0,e1,es,eb⟩;clear e0 e1 ek es eb;refine Zs ?_
  go_wp2_with fail
  refine⟨⟨(World.cell?_of_block (a:=⟨W2.heap.size,1,none⟩) (HK.out W2.heap.size (by omega))).trans (HS.out _ HB6.out).1,(World.cell?_of_block (a:=⟨Pb,1,none⟩) (HK.out Pb (by omega))).trans (HS.out _ HB6.out).2⟩,?_⟩;refine Ze rfl (by rintro _ ⟨_,_⟩;go_simp<;>rfl) (by go_simp<;>rfl) ?_;refine Yt ?_
  go_wp2_with fail
  obtain⟨e0,e1,es,eb⟩:=HT.out;have ek:=HK.out;have hB7:=HB5.out.trans (HB6.out.mono HB5.out.size);obtain⟨q1,q2⟩:=HIE.out W6 (.slice sa sn sc) (HSV.out.1 W6 (HVI.out W6 HB6.out)) HSV.out.2 (.slice na nn ncp) HNV.out _ hz6 es ek;exact bodyPost_ret (v:=.tuple #[.agg #[.slice sa sn sc,.slice na nn ncp],.nilIface]) (by simp[results,results35,go_sem,e0,e1]) rfl
   ⟨eb _ _ hB7 (Nat.le_refl _),.inr ⟨by rw[HE.out],sa,sn,sc,na,nn,ncp,rfl,by rw[HE.out];exact q1,by rw[HE.out];exact q2⟩⟩
end Go.Proofs.YtminjljgedopkaaGreatDoor
namespace Go.Proofs.YtminjljgedopkaaGreatDoor
open Go.Proofs.Tryz
def Fl.inferE(q:Nat×Nat×Fl.Prog):Nat×Int×List UInt8:=
 if q.1≠0 then(q.1,(q.2.1:Int),[]) else if 0<(Fl.infer q.2.2).1 then(7,((Fl.infer q.2.2).1:Int),[])
 else if(Fl.encode (Fl.infer q.2.2).2.1 (Fl.infer q.2.2).2.2).2.1=false then(8,(Fl.encode (Fl.infer q.2.2).2.1 (Fl.infer q.2.2).2.2).2.2,[])
 else(0,-1,(Fl.encode (Fl.infer q.2.2).2.1 (Fl.infer q.2.2).2.2).1)
open Go.RowKit
def Zy.at{B:Nat}{w:World}{ao:Option Addr}{n cap:Nat}{xs:List Int}(h:Zy B w (.slice ao n cap) xs){i:Nat}(hi:i<xs.length):∃b off,ao=some ⟨b,off,none⟩/\b<B/\w.cell? ⟨b,off+i,none⟩=some (.int .i64 (xs.getD i 0)):=by
 obtain⟨ao',cap',hv,_,_,hx⟩:=h;obtain⟨b,off,ha,hbB,hcell⟩:=hx (by intro hh;rw[hh]at hi;simp at hi);simp only[Value.slice.injEq]at hv;exact⟨b,off,hv.1.trans ha,hbB,hcell i hi⟩
open Go.Extern.Stop Go.Stop Go.Extern
def zp0(t:Addr)(w:World):(ReflectliteValue.unpack (.iface 78 (.pointer (some t)))).run prog w=.ok (.agg #[.pointer (some ⟨7,78,none⟩),.pointer (some ⟨w.heap.size,0,none⟩),.int .u64 150]) (w.alloc (.cells #[.pointer (some t)] 78)):=by kernel_rfl
def zh3(a:Addr)(w:World):(ReflectliteValue.methodAny (ReflectliteValue.valueError "reflectlite.Value.Type" 0) (λt _ _ _=>ReflectliteType.toType t) #[.agg #[.pointer (some ⟨7,78,none⟩),.pointer (some a),.int .u64 150]]).run prog w=.ok (.iface 179 (.agg #[.pointer (some ⟨7,78,none⟩)])) w:=by kernel_rfl
def zw2(h:Value)(w:World):(Go.method 442 179 (.agg #[h]) "Kind").run prog w=.ok (232,h) w:=by kernel_rfl
def zh4(w:World):((ReflectliteType.abiMethod λt=>Functor.map (λa:Nat=>Value.int IntKind.u8 (a:Int)) (Rtype.kind t)) #[.pointer (some ⟨7,78,none⟩)]).run prog w=.ok (.int .u8 22) w:=by kernel_rfl
def zdy(w:World):((ReflectliteType.abiMethod λt=>Functor.map (λa:Nat=>Value.int IntKind.u8 (a:Int)) (Rtype.kind t)) #[.pointer (some ⟨7,76,none⟩)]).run prog w=.ok (.int .u8 22) w:=by kernel_rfl
def zu0(z:Sem Value)(f:TypeId->Addr->Nat->Nat->Sem Value)(v:Value)(t:TypeId)(a:Addr)(fl:Nat)(w w':World)(h:(ReflectliteValue.parts v).run prog w=.ok (some (t,a,fl)) w'):
  (ReflectliteValue.method z f #[v]).run prog w=(f t a fl (fl % 32)).run prog w':=by
 show (Sem.run prog (ReflectliteValue.parts v>>=_) w)=_;rw[Sem.run_bind,h];rfl
def zlx(a:Addr)(w:World):(ReflectliteValue.parts (.agg #[.pointer (some ⟨7,78,none⟩),.pointer (some a),.int .u64 150])).run prog w=.ok (some (78,a,150)) w:=by kernel_rfl
def zlw(a p:Addr)(W:World)(ha:W.cell? a=some (.pointer (some p))):(ReflectliteValue.method (ReflectliteValue.valueError "reflectlite.Value.IsNil" 0) ReflectliteValue.isNil #[.agg #[.pointer (some ⟨7,78,none⟩),.pointer (some a),.int .u64 150]]).run prog W=.ok (.bool false) W:=by
 rw[zu0 _ _ _ _ _ _ _ _ (zlx a W)];simp[ReflectliteValue.isNil,loadVar,isAgg,underlying,underlying78,ha,Result.andThen]
def zw3(h:Value)(w:World):(Go.method 442 179 (.agg #[h]) "Elem").run prog w=.ok (245,.agg #[h]) w:=by kernel_rfl
def Uc(h:Value)(w:World):(Go.method 442 179 (.agg #[h]) "Implements").run prog w=.ok (246,.agg #[h]) w:=by kernel_rfl
def Uu(h:Value)(w:World):(Go.method 442 179 (.agg #[h]) "AssignableTo").run prog w=.ok (243,.agg #[h]) w:=by kernel_rfl
def zh5(w:World):(ReflectliteType.method ReflectliteType.elem #[.agg #[.pointer (some ⟨7,78,none⟩)]]).run prog w=.ok (.iface 179 (.agg #[.pointer (some ⟨7,76,none⟩)])) w:=by kernel_rfl
def zt5(w:World):(ReflectliteType.relation "Implements" ReflectliteType.implements_ #[.agg #[.pointer (some ⟨7,76,none⟩)],.iface 179 (.agg #[.pointer (some ⟨7,64,none⟩)])]).run prog w=.ok (.bool true) w:=by kernel_rfl
def yx4(v:Value)(w:World):(ReflectliteType.typeOf #[.iface 76 v]).run prog w=.ok (.iface 179 (.agg #[.pointer (some ⟨7,76,none⟩)])) w:=by kernel_rfl
def zj2(w:World):(ReflectliteType.relation "AssignableTo" ReflectliteType.assignableTo #[.agg #[.pointer (some ⟨7,76,none⟩)],.iface 179 (.agg #[.pointer (some ⟨7,76,none⟩)])]).run prog w=.ok (.bool true) w:=by kernel_rfl
def zby(e:Addr)(w:World):(ReflectliteValue.unpack (.iface 76 (.pointer (some e)))).run prog w=.ok (.agg #[.pointer (some ⟨7,76,none⟩),.pointer (some ⟨w.heap.size,0,none⟩),.int .u64 150]) (w.alloc (.cells #[.pointer (some e)] 76)):=by kernel_rfl
def zbx(w:World):(Rtype.elem? 78).run prog w=.ok (some 76) w:=by kernel_rfl
def rl_mkP(p:Addr)(w:World):(ReflectliteValue.mk 76 p ReflectliteValue.flagAddr).run prog w=.ok (.agg #[.pointer (some ⟨7,76,none⟩),.pointer (some p),.int .u64 406]) w:=by kernel_rfl
def yx5(a p:Addr)(W:World)(ha:W.cell? a=some (.pointer (some p))):(ReflectliteValue.method (ReflectliteValue.valueError "reflectlite.Value.Elem" 0) ReflectliteValue.elem #[.agg #[.pointer (some ⟨7,78,none⟩),.pointer (some a),.int .u64 150]]).run prog W=.ok (.agg #[.pointer (some ⟨7,76,none⟩),.pointer (some p),.int .u64 406]) W:=by
 rw[zu0 _ _ _ _ _ _ _ _ (zlx a W)];simp[ReflectliteValue.elem,loadVar,isAgg,underlying,underlying78,ha,Result.andThen,zbx,rl_mkP]
def yx6(a:Addr)(w:World):(ReflectliteValue.parts (.agg #[.pointer (some ⟨7,76,none⟩),.pointer (some a),.int .u64 406])).run prog w=.ok (some (76,a,406)) w:=by kernel_rfl
def yt4(a:Addr)(w:World):(ReflectliteValue.parts (.agg #[.pointer (some ⟨7,76,none⟩),.pointer (some a),.int .u64 150])).run prog w=.ok (some (76,a,150)) w:=by kernel_rfl
def yx7(w:World):(Rtype.directlyAssignable 76 76).run prog w=.ok true w:=by kernel_rfl
def rl_setP(ta b e:Addr)(old:Value)(W:World)(hb:W.cell? b=some (.pointer (some e)))(ht:W.cell? ta=some old)(hf:W.frozen? ta=false):
  (ReflectliteValue.set #[.agg #[.pointer (some ⟨7,76,none⟩),.pointer (some ta),.int .u64 406],.agg #[.pointer (some ⟨7,76,none⟩),.pointer (some b),.int .u64 150]]).run prog W=.ok (.tuple #[]) (W.setCell ta (.pointer (some e))):=by
 have h1:=yx6 ta W;have h2:=yt4 b W;have h3:=yx7 W;show Sem.run prog (ReflectliteValue.parts (.agg #[.pointer (some ⟨7,76,none⟩),.pointer (some ta),.int .u64 406])>>=λo1=>ReflectliteValue.parts (.agg #[.pointer (some ⟨7,76,none⟩),.pointer (some b),.int .u64 150])>>=λo2=>_) W=_;simp only[Sem.run_bind,h1,h2,Result.andThen];simp[ReflectliteValue.flagAddr,loadVar,isAgg,underlying,underlying76,hb,Result.andThen,h3,storeVar,Value.cells,storeCells,Addr.add];rw[run_store prog W ta _ _ (by rfl)];simp[ht,hf]
def as_at(e t:Addr)(old:Value)(w:World)(hg:w.cell? ⟨0,0,none⟩=some (.iface 179 (.agg #[.pointer (some ⟨7,64,none⟩)])))(a0:w.cell? t=some old)(c0:w.frozen? t=false):
  Calls prog 30 #[.iface 76 (.pointer (some e)),.iface 78 (.pointer (some t))] w λev w'=>ev=.returned (.bool true)/\w'=((((w.alloc (.cells #[.pointer (some t)] 78)).alloc (.cells #[.pointer (some ⟨7,78,none⟩),.pointer (some ⟨w.heap.size,0,none⟩),.int .u64 150] 107)).alloc (.cells #[.pointer (some ⟨7,78,none⟩),.pointer (some ⟨w.heap.size,0,none⟩),.int .u64 150] 107)).alloc (.cells #[.pointer (some e)] 76)).setCell t (.pointer (some e)):=by
 have h6:= @run_callFunc_extern prog 42 _ (λargs=>ReflectliteValue.unpack (args.getD 0 (.tuple #[]))) func42 (by kernel_rfl) (by kernel_rfl) (by kernel_rfl) (by kernel_rfl);have h7:= @run_callFunc_extern prog 43 _ (ReflectliteValue.methodAny (ReflectliteValue.valueError "reflectlite.Value.Type" 0) (λt _ _ _=>ReflectliteType.toType t)) func43 (by kernel_rfl) (by kernel_rfl) (by kernel_rfl) (by kernel_rfl);have h8:= @run_callFunc_extern prog 44 _ (ReflectliteValue.method (ReflectliteValue.valueError "reflectlite.Value.IsNil" 0) ReflectliteValue.isNil) func44 (by kernel_rfl) (by kernel_rfl) (by kernel_rfl) (by kernel_rfl);have e0:= @run_callFunc_extern prog 232 _ (ReflectliteType.abiMethod λt=>do pure (.int .u8 (<-Rtype.kind t))) func232 (by kernel_rfl) (by kernel_rfl) (by kernel_rfl) (by kernel_rfl);have f0:= @run_callFunc_extern prog 245 _ (ReflectliteType.method ReflectliteType.elem) func245 (by kernel_rfl) (by kernel_rfl) (by kernel_rfl) (by kernel_rfl);have g0:= @run_callFunc_extern prog 246 _ (ReflectliteType.relation "Implements" ReflectliteType.implements_) func246 (by kernel_rfl) (by kernel_rfl) (by kernel_rfl) (by kernel_rfl);have h0:= @run_callFunc_extern prog 86 _ ReflectliteType.typeOf func86 (by kernel_rfl) (by kernel_rfl) (by kernel_rfl) (by kernel_rfl);have i0:= @run_callFunc_extern prog 243 _ (ReflectliteType.relation "AssignableTo" ReflectliteType.assignableTo) func243 (by kernel_rfl) (by kernel_rfl) (by kernel_rfl) (by kernel_rfl);have j0:= @run_callFunc_extern prog 87 _ (ReflectliteValue.method (ReflectliteValue.valueError "reflectlite.Value.Elem" 0) ReflectliteValue.elem) func87 (by kernel_rfl) (by kernel_rfl) (by kernel_rfl) (by kernel_rfl);have k0:= @run_callFunc_extern prog 88 _ ReflectliteValue.set func88 (by kernel_rfl) (by kernel_rfl) (by kernel_rfl) (by kernel_rfl);have tO:=yx4;have mA:=Uu;have a25:=zj2;have v25:=zby;have f6:=zp0;have f7:=zh3;have mK:=zw2;have mE:=zw3;have mI:=Uc;have k27:=zh4;have k25:=zdy;have e27:=zh5;have i25:=zt5;have d0:0<w.heap.size:=Qe w _ hg;have b0:t.block<w.heap.size:=Qe w _ a0;have n8:=zlw ⟨w.heap.size,0,none⟩ t ((w.alloc (.cells #[.pointer (some t)] 78)).alloc (.cells #[.pointer (some ⟨7,78,none⟩),.pointer (some ⟨w.heap.size,0,none⟩),.int .u64 150] 107)) (by simp)
 have l0:((w.alloc (.cells #[.pointer (some t)] 78)).alloc (.cells #[.pointer (some ⟨7,78,none⟩),.pointer (some ⟨w.heap.size,0,none⟩),.int .u64 150] 107)).cell? ⟨0,0,none⟩=some (.iface 179 (.agg #[.pointer (some ⟨7,64,none⟩)])):=by
  rw[Qf _ _ _ (by simp<;>omega),Qf _ _ _ d0];exact hg
 have el:=yx5 ⟨w.heap.size,0,none⟩ t (((w.alloc (.cells #[.pointer (some t)] 78)).alloc (.cells #[.pointer (some ⟨7,78,none⟩),.pointer (some ⟨w.heap.size,0,none⟩),.int .u64 150] 107)).alloc (.cells #[.pointer (some ⟨7,78,none⟩),.pointer (some ⟨w.heap.size,0,none⟩),.int .u64 150] 107)) (by rw[Qf _ _ ⟨w.heap.size,0,none⟩ (by simp;omega)];simp);have st:=rl_setP t ⟨w.heap.size+1+1+1,0,none⟩ e old ((((w.alloc (.cells #[.pointer (some t)] 78)).alloc (.cells #[.pointer (some ⟨7,78,none⟩),.pointer (some ⟨w.heap.size,0,none⟩),.int .u64 150] 107)).alloc (.cells #[.pointer (some ⟨7,78,none⟩),.pointer (some ⟨w.heap.size,0,none⟩),.int .u64 150] 107)).alloc (.cells #[.pointer (some e)] 76))
  (by rw[World.cell?_alloc_at _ _ _ _ (by simp)];rfl)
  (by rw[Qf _ _ t (by simp;omega),Qf _ _ t (by simp;omega),Qf _ _ t (by simp;omega),Qf _ _ t b0];exact a0)
  (by rw[World.frozen?_alloc_old _ _ t (by simp;omega),World.frozen?_alloc_old _ _ t (by simp;omega),World.frozen?_alloc_old _ _ t (by simp;omega),World.frozen?_alloc_old _ _ t (Nat.ne_of_lt b0)];exact c0)
 go_enter func30,ntmps30
 go_wp2;refine wp_loop_rounds 1 ?_;rw[rounds_succ];go_wp2;go_ret;exact⟨rfl,rfl⟩
def Vs(w:World):Prop:=w.cell? ⟨0,0,none⟩=some (.iface 179 (.agg #[.pointer (some ⟨7,64,none⟩)]))
def zn8(w:World):Calls prog 22 #[.nilIface] w λe w'=>e=.returned (.tuple #[.int .i64 0,.int .i64 (-1)])/\Below w.heap.size w w':=by
 go_enter func22,ntmps22
 go_wp2
 go_ret2
 exact⟨rfl,(bA).alloc (by simp) _⟩
def below_drewN{B:Nat}{w w':World}(h:Below B w w')(m:Nat):Below B w (w'.drewN m):=by
 induction m with
 |zero=>exact h
 |succ m ih=>exact ih.drew
def zlv{B:Nat}{w0 w:World}{o1 o2 o3 o4:Obj}(h:Below B w0 w)(hB:B<=w.heap.size):Below B w0 ((((w.alloc o1).alloc o2).alloc o3).alloc o4):=
 (((h.alloc hB _).alloc (by simp;omega) _).alloc (by simp;omega) _).alloc (by simp;omega) _
def zj3(eb eo:Nat)(n p:Int)(w:World)(hg:Vs w)(h0:w.cell? ⟨eb,eo,none⟩=some (.int .i64 n))(h1:w.cell? ⟨eb,eo+1,none⟩=some (.int .i64 p)):
  Calls prog 22 #[.iface 76 (.pointer (some ⟨eb,eo,none⟩))] w λe w'=>e=.returned (.tuple #[.int .i64 n,.int .i64 p])/\Below w.heap.size w w':=by
 have d0:0<w.heap.size:=Qe w _ hg;have e0:eb<w.heap.size:=Qe w _ h0;have hg':((w.alloc (.cells #[.pointer none] 76)).alloc (.cells #[.int .i64 0] 27)).cell? ⟨0,0,none⟩=some (.iface 179 (.agg #[.pointer (some ⟨7,64,none⟩)])):=by
  rw[Qf _ _ _ (by simp<;>omega),Qf _ _ _ d0];exact hg
 have b0:Hid (Calls prog 30 #[.iface 76 (.pointer (some ⟨eb,eo,none⟩)),.iface 78 (.pointer (some ⟨w.heap.size,0,none⟩))] ((w.alloc (.cells #[.pointer none] 76)).alloc (.cells #[.int .i64 0] 27)) λev w'=>ev=.returned (.bool true)/\(w'.cell? ⟨w.heap.size,0,none⟩=some (.pointer (some ⟨eb,eo,none⟩))/\w'.cell? ⟨eb,eo,none⟩=some (.int .i64 n)/\w'.cell? ⟨eb,eo+1,none⟩=some (.int .i64 p)/\Below w.heap.size w w')):=by
  refine(as_at ⟨eb,eo,none⟩ ⟨w.heap.size,0,none⟩ (.pointer none) ((w.alloc (.cells #[.pointer none] 76)).alloc (.cells #[.int .i64 0] 27)) hg' (by simp) (by simp)).mono ?_;rintro ev w' ⟨rfl,rfl⟩;have hb:Below w.heap.size w ((w.alloc (.cells #[.pointer none] 76)).alloc (.cells #[.int .i64 0] 27)):=(bA).alloc (by simp) _;have f0:=zlv (o1:=.cells #[.pointer (some ⟨w.heap.size,0,none⟩)] 78) (o2:=.cells #[.pointer (some ⟨7,78,none⟩),.pointer (some ⟨((w.alloc (.cells #[.pointer none] 76)).alloc (.cells #[.int .i64 0] 27)).heap.size,0,none⟩),.int .u64 150] 107) (o3:=.cells #[.pointer (some ⟨7,78,none⟩),.pointer (some ⟨((w.alloc (.cells #[.pointer none] 76)).alloc (.cells #[.int .i64 0] 27)).heap.size,0,none⟩),.int .u64 150] 107) (o4:=.cells #[.pointer (some ⟨eb,eo,none⟩)] 76) hb (by simp;omega);have q:∀o,(Below w.heap.size w o->∀j v,w.cell? ⟨eb,j,none⟩=some v->o.cell? ⟨eb,j,none⟩=some v):=λo ho j v hv=>(ho.cell (p:=⟨eb,j,none⟩) e0).trans hv;have a0:=f0.setCell (p:=⟨w.heap.size,0,none⟩) (Nat.le_refl _) (.pointer (some ⟨eb,eo,none⟩));refine⟨rfl,World.cell?_setCell_same' _ _ _ ?_,q _ a0 _ _ h0,q _ a0 _ _ h1,a0⟩;rw[Qf _ _ _ (by simp;omega),Qf _ _ _ (by simp;omega),Qf _ _ _ (by simp;omega),Qf _ _ _ (by simp;omega),Qf _ _ _ (by simp)];simp
 clear hg' hg
 go_enter func22,ntmps22
 go_wp2_with fail
 refine(b0.out).mono ?_;rintro e w1 ⟨rfl,ca,c0,c1,hb⟩;have hz:w.heap.size<w1.heap.size:=Qe w1 _ ca;have HB:=Zz hb;clear hb b0 h0 h1
 go_wp2_with fail
 go_quiet (fail)
 go_wp2
 go_ret2
 exact⟨rfl,below_drewN HB.out _⟩
def zk0(v:Value)(w:World):(ReflectliteType.typeOf #[.iface 27 v]).run prog w=.ok (.iface 179 (.agg #[.pointer (some ⟨7,27,none⟩)])) w:=by kernel_rfl
def zn9(w:World):(ReflectliteType.relation "AssignableTo" ReflectliteType.assignableTo #[.agg #[.pointer (some ⟨7,27,none⟩)],.iface 179 (.agg #[.pointer (some ⟨7,76,none⟩)])]).run prog w=.ok (.bool false) w:=by kernel_rfl
def zbw(t:Addr)(w:World):(ReflectliteValue.unpack (.iface 81 (.pointer (some t)))).run prog w=.ok (.agg #[.pointer (some ⟨7,81,none⟩),.pointer (some ⟨w.heap.size,0,none⟩),.int .u64 150]) (w.alloc (.cells #[.pointer (some t)] 81)):=by kernel_rfl
def yq0(a:Addr)(w:World):(ReflectliteValue.methodAny (ReflectliteValue.valueError "reflectlite.Value.Type" 0) (λt _ _ _=>ReflectliteType.toType t) #[.agg #[.pointer (some ⟨7,81,none⟩),.pointer (some a),.int .u64 150]]).run prog w=.ok (.iface 179 (.agg #[.pointer (some ⟨7,81,none⟩)])) w:=by kernel_rfl
def yq1(w:World):((ReflectliteType.abiMethod λt=>Functor.map (λa:Nat=>Value.int IntKind.u8 (a:Int)) (Rtype.kind t)) #[.pointer (some ⟨7,81,none⟩)]).run prog w=.ok (.int .u8 22) w:=by kernel_rfl
def yq2(w:World):((ReflectliteType.abiMethod λt=>Functor.map (λa:Nat=>Value.int IntKind.u8 (a:Int)) (Rtype.kind t)) #[.pointer (some ⟨7,27,none⟩)]).run prog w=.ok (.int .u8 2) w:=by kernel_rfl
def zh6(a:Addr)(w:World):(ReflectliteValue.parts (.agg #[.pointer (some ⟨7,81,none⟩),.pointer (some a),.int .u64 150])).run prog w=.ok (some (81,a,150)) w:=by kernel_rfl
def yt5(a p:Addr)(W:World)(ha:W.cell? a=some (.pointer (some p))):(ReflectliteValue.method (ReflectliteValue.valueError "reflectlite.Value.IsNil" 0) ReflectliteValue.isNil #[.agg #[.pointer (some ⟨7,81,none⟩),.pointer (some a),.int .u64 150]]).run prog W=.ok (.bool false) W:=by
 rw[zu0 _ _ _ _ _ _ _ _ (zh6 a W)];simp[ReflectliteValue.isNil,loadVar,isAgg,underlying,underlying81,ha,Result.andThen]
def yq3(w:World):(ReflectliteType.method ReflectliteType.elem #[.agg #[.pointer (some ⟨7,81,none⟩)]]).run prog w=.ok (.iface 179 (.agg #[.pointer (some ⟨7,27,none⟩)])) w:=by kernel_rfl
def zj4(w:World):(ReflectliteType.relation "Implements" ReflectliteType.implements_ #[.agg #[.pointer (some ⟨7,27,none⟩)],.iface 179 (.agg #[.pointer (some ⟨7,64,none⟩)])]).run prog w=.ok (.bool true) w:=by kernel_rfl
def zj5(w:World):(ReflectliteType.relation "AssignableTo" ReflectliteType.assignableTo #[.agg #[.pointer (some ⟨7,27,none⟩)],.iface 179 (.agg #[.pointer (some ⟨7,27,none⟩)])]).run prog w=.ok (.bool true) w:=by kernel_rfl
def zbv(n:Int)(w:World):(ReflectliteValue.unpack (.iface 27 (.int .i64 n))).run prog w=.ok (.agg #[.pointer (some ⟨7,27,none⟩),.pointer (some ⟨w.heap.size,0,none⟩),.int .u64 130]) (w.alloc (.cells #[.int .i64 n] 27)):=by kernel_rfl
def yx8(w:World):(Rtype.elem? 81).run prog w=.ok (some 27) w:=by kernel_rfl
def rl_mkE(p:Addr)(w:World):(ReflectliteValue.mk 27 p ReflectliteValue.flagAddr).run prog w=.ok (.agg #[.pointer (some ⟨7,27,none⟩),.pointer (some p),.int .u64 386]) w:=by kernel_rfl
def yt6(a p:Addr)(W:World)(ha:W.cell? a=some (.pointer (some p))):(ReflectliteValue.method (ReflectliteValue.valueError "reflectlite.Value.Elem" 0) ReflectliteValue.elem #[.agg #[.pointer (some ⟨7,81,none⟩),.pointer (some a),.int .u64 150]]).run prog W=.ok (.agg #[.pointer (some ⟨7,27,none⟩),.pointer (some p),.int .u64 386]) W:=by
 rw[zu0 _ _ _ _ _ _ _ _ (zh6 a W)];simp[ReflectliteValue.elem,loadVar,isAgg,underlying,underlying81,ha,Result.andThen,yx8,rl_mkE]
def yx9(a:Addr)(w:World):(ReflectliteValue.parts (.agg #[.pointer (some ⟨7,27,none⟩),.pointer (some a),.int .u64 386])).run prog w=.ok (some (27,a,386)) w:=by kernel_rfl
def yt7(a:Addr)(w:World):(ReflectliteValue.parts (.agg #[.pointer (some ⟨7,27,none⟩),.pointer (some a),.int .u64 130])).run prog w=.ok (some (27,a,130)) w:=by kernel_rfl
def yxz(w:World):(Rtype.directlyAssignable 27 27).run prog w=.ok true w:=by kernel_rfl
def rl_setE(ta b:Addr)(n:Int)(old:Value)(W:World)(hb:W.cell? b=some (.int .i64 n))(ht:W.cell? ta=some old)(hf:W.frozen? ta=false):
  (ReflectliteValue.set #[.agg #[.pointer (some ⟨7,27,none⟩),.pointer (some ta),.int .u64 386],.agg #[.pointer (some ⟨7,27,none⟩),.pointer (some b),.int .u64 130]]).run prog W=.ok (.tuple #[]) (W.setCell ta (.int .i64 n)):=by
 have h1:=yx9 ta W;have h2:=yt7 b W;have h3:=yxz W;show Sem.run prog (ReflectliteValue.parts (.agg #[.pointer (some ⟨7,27,none⟩),.pointer (some ta),.int .u64 386])>>=λo1=>ReflectliteValue.parts (.agg #[.pointer (some ⟨7,27,none⟩),.pointer (some b),.int .u64 130])>>=λo2=>_) W=_;simp only[Sem.run_bind,h1,h2,Result.andThen];simp[ReflectliteValue.flagAddr,loadVar,isAgg,underlying,underlying27,hb,Result.andThen,h3,storeVar,Value.cells,storeCells,Addr.add];rw[run_store prog W ta _ _ (by rfl)];simp[ht,hf]
def yxy(v:Value)(xT:TypeId)(w:World):(Instr.typeAssert (.iface 27 v) xT 184 true).run prog w=.ok (.tuple #[.nilIface,.bool false]) w:=run_typeAssert_lacksB underlying184 (by kernel_rfl) (by kernel_rfl) v xT w
def yxx(v:Value)(xT:TypeId)(w:World):(Instr.typeAssert (.iface 27 v) xT 187 true).run prog w=.ok (.tuple #[.nilIface,.bool false]) w:=run_typeAssert_lacksB underlying187 (by kernel_rfl) (by kernel_rfl) v xT w
def yxw(v:Value)(xT:TypeId)(w:World):(Instr.typeAssert (.iface 27 v) xT 189 true).run prog w=.ok (.tuple #[.nilIface,.bool false]) w:=run_typeAssert_lacksB underlying189 (by kernel_rfl) (by kernel_rfl) v xT w
def as_miss(n:Int)(t:Addr)(old:Value)(w:World)(hg:w.cell? ⟨0,0,none⟩=some (.iface 179 (.agg #[.pointer (some ⟨7,64,none⟩)])))(b0:w.cell? t=some old):
  Calls prog 30 #[.iface 27 (.int .i64 n),.iface 78 (.pointer (some t))] w λev w'=>ev=.returned (.bool false)/\Below w.heap.size w w':=by
 have h6:= @run_callFunc_extern prog 42 _ (λargs=>ReflectliteValue.unpack (args.getD 0 (.tuple #[]))) func42 (by kernel_rfl) (by kernel_rfl) (by kernel_rfl) (by kernel_rfl);have h7:= @run_callFunc_extern prog 43 _ (ReflectliteValue.methodAny (ReflectliteValue.valueError "reflectlite.Value.Type" 0) (λt _ _ _=>ReflectliteType.toType t)) func43 (by kernel_rfl) (by kernel_rfl) (by kernel_rfl) (by kernel_rfl);have h8:= @run_callFunc_extern prog 44 _ (ReflectliteValue.method (ReflectliteValue.valueError "reflectlite.Value.IsNil" 0) ReflectliteValue.isNil) func44 (by kernel_rfl) (by kernel_rfl) (by kernel_rfl) (by kernel_rfl);have c0:= @run_callFunc_extern prog 232 _ (ReflectliteType.abiMethod λt=>do pure (.int .u8 (<-Rtype.kind t))) func232 (by kernel_rfl) (by kernel_rfl) (by kernel_rfl) (by kernel_rfl);have d0:= @run_callFunc_extern prog 245 _ (ReflectliteType.method ReflectliteType.elem) func245 (by kernel_rfl) (by kernel_rfl) (by kernel_rfl) (by kernel_rfl);have e0:= @run_callFunc_extern prog 246 _ (ReflectliteType.relation "Implements" ReflectliteType.implements_) func246 (by kernel_rfl) (by kernel_rfl) (by kernel_rfl) (by kernel_rfl);have f0:= @run_callFunc_extern prog 86 _ ReflectliteType.typeOf func86 (by kernel_rfl) (by kernel_rfl) (by kernel_rfl) (by kernel_rfl);have g0:= @run_callFunc_extern prog 243 _ (ReflectliteType.relation "AssignableTo" ReflectliteType.assignableTo) func243 (by kernel_rfl) (by kernel_rfl) (by kernel_rfl) (by kernel_rfl);have h0:= @run_callFunc_extern prog 87 _ (ReflectliteValue.method (ReflectliteValue.valueError "reflectlite.Value.Elem" 0) ReflectliteValue.elem) func87 (by kernel_rfl) (by kernel_rfl) (by kernel_rfl) (by kernel_rfl);have i0:= @run_callFunc_extern prog 88 _ ReflectliteValue.set func88 (by kernel_rfl) (by kernel_rfl) (by kernel_rfl) (by kernel_rfl);have tO:=zk0;have mA:=Uu;have aN:=zn9;have l1:=yxy;have l2:=yxx;have l3:=yxw;have f6:=zp0;have f7:=zh3;have mK:=zw2;have mE:=zw3;have mI:=Uc;have k27:=zh4;have k25:=zdy;have e27:=zh5;have i25:=zt5;have a0:0<w.heap.size:=Qe w _ hg;have n8:=zlw ⟨w.heap.size,0,none⟩ t ((w.alloc (.cells #[.pointer (some t)] 78)).alloc (.cells #[.pointer (some ⟨7,78,none⟩),.pointer (some ⟨w.heap.size,0,none⟩),.int .u64 150] 107)) (by simp)
 have j0:((w.alloc (.cells #[.pointer (some t)] 78)).alloc (.cells #[.pointer (some ⟨7,78,none⟩),.pointer (some ⟨w.heap.size,0,none⟩),.int .u64 150] 107)).cell? ⟨0,0,none⟩=some (.iface 179 (.agg #[.pointer (some ⟨7,64,none⟩)])):=by
  rw[Qf _ _ _ (by simp<;>omega),Qf _ _ _ a0];exact hg
 go_enter func30,ntmps30
 go_wp2;refine wp_loop_rounds 1 ?_;rw[rounds_succ];go_wp2;go_ret;exact⟨rfl,((bA).alloc (by simp) _).alloc (by simp;omega) _⟩
def yq4(n:Int)(t:Addr)(old:Value)(w:World)(hg:w.cell? ⟨0,0,none⟩=some (.iface 179 (.agg #[.pointer (some ⟨7,64,none⟩)])))(a0:w.cell? t=some old)(c0:w.frozen? t=false):
  Calls prog 30 #[.iface 27 (.int .i64 n),.iface 81 (.pointer (some t))] w λev w'=>ev=.returned (.bool true)/\w'=((((w.alloc (.cells #[.pointer (some t)] 81)).alloc (.cells #[.pointer (some ⟨7,81,none⟩),.pointer (some ⟨w.heap.size,0,none⟩),.int .u64 150] 107)).alloc (.cells #[.pointer (some ⟨7,81,none⟩),.pointer (some ⟨w.heap.size,0,none⟩),.int .u64 150] 107)).alloc (.cells #[.int .i64 n] 27)).setCell t (.int .i64 n):=by
 have h6:= @run_callFunc_extern prog 42 _ (λargs=>ReflectliteValue.unpack (args.getD 0 (.tuple #[]))) func42 (by kernel_rfl) (by kernel_rfl) (by kernel_rfl) (by kernel_rfl);have h7:= @run_callFunc_extern prog 43 _ (ReflectliteValue.methodAny (ReflectliteValue.valueError "reflectlite.Value.Type" 0) (λt _ _ _=>ReflectliteType.toType t)) func43 (by kernel_rfl) (by kernel_rfl) (by kernel_rfl) (by kernel_rfl);have h8:= @run_callFunc_extern prog 44 _ (ReflectliteValue.method (ReflectliteValue.valueError "reflectlite.Value.IsNil" 0) ReflectliteValue.isNil) func44 (by kernel_rfl) (by kernel_rfl) (by kernel_rfl) (by kernel_rfl);have e0:= @run_callFunc_extern prog 232 _ (ReflectliteType.abiMethod λt=>do pure (.int .u8 (<-Rtype.kind t))) func232 (by kernel_rfl) (by kernel_rfl) (by kernel_rfl) (by kernel_rfl);have f0:= @run_callFunc_extern prog 245 _ (ReflectliteType.method ReflectliteType.elem) func245 (by kernel_rfl) (by kernel_rfl) (by kernel_rfl) (by kernel_rfl);have g0:= @run_callFunc_extern prog 246 _ (ReflectliteType.relation "Implements" ReflectliteType.implements_) func246 (by kernel_rfl) (by kernel_rfl) (by kernel_rfl) (by kernel_rfl);have h0:= @run_callFunc_extern prog 86 _ ReflectliteType.typeOf func86 (by kernel_rfl) (by kernel_rfl) (by kernel_rfl) (by kernel_rfl);have i0:= @run_callFunc_extern prog 243 _ (ReflectliteType.relation "AssignableTo" ReflectliteType.assignableTo) func243 (by kernel_rfl) (by kernel_rfl) (by kernel_rfl) (by kernel_rfl);have j0:= @run_callFunc_extern prog 87 _ (ReflectliteValue.method (ReflectliteValue.valueError "reflectlite.Value.Elem" 0) ReflectliteValue.elem) func87 (by kernel_rfl) (by kernel_rfl) (by kernel_rfl) (by kernel_rfl);have k0:= @run_callFunc_extern prog 88 _ ReflectliteValue.set func88 (by kernel_rfl) (by kernel_rfl) (by kernel_rfl) (by kernel_rfl);have tO:=zk0;have mA:=Uu;have a25:=zj5;have v25:=zbv;have f6:=zbw;have f7:=yq0;have mK:=zw2;have mE:=zw3;have mI:=Uc;have k27:=yq1;have k25:=yq2;have e27:=yq3;have i25:=zj4;have d0:0<w.heap.size:=Qe w _ hg;have b0:t.block<w.heap.size:=Qe w _ a0;have n8:=yt5 ⟨w.heap.size,0,none⟩ t ((w.alloc (.cells #[.pointer (some t)] 81)).alloc (.cells #[.pointer (some ⟨7,81,none⟩),.pointer (some ⟨w.heap.size,0,none⟩),.int .u64 150] 107)) (by simp)
 have l0:((w.alloc (.cells #[.pointer (some t)] 81)).alloc (.cells #[.pointer (some ⟨7,81,none⟩),.pointer (some ⟨w.heap.size,0,none⟩),.int .u64 150] 107)).cell? ⟨0,0,none⟩=some (.iface 179 (.agg #[.pointer (some ⟨7,64,none⟩)])):=by
  rw[Qf _ _ _ (by simp<;>omega),Qf _ _ _ d0];exact hg
 have el:=yt6 ⟨w.heap.size,0,none⟩ t (((w.alloc (.cells #[.pointer (some t)] 81)).alloc (.cells #[.pointer (some ⟨7,81,none⟩),.pointer (some ⟨w.heap.size,0,none⟩),.int .u64 150] 107)).alloc (.cells #[.pointer (some ⟨7,81,none⟩),.pointer (some ⟨w.heap.size,0,none⟩),.int .u64 150] 107)) (by rw[Qf _ _ ⟨w.heap.size,0,none⟩ (by simp;omega)];simp);have st:=rl_setE t ⟨w.heap.size+1+1+1,0,none⟩ n old ((((w.alloc (.cells #[.pointer (some t)] 81)).alloc (.cells #[.pointer (some ⟨7,81,none⟩),.pointer (some ⟨w.heap.size,0,none⟩),.int .u64 150] 107)).alloc (.cells #[.pointer (some ⟨7,81,none⟩),.pointer (some ⟨w.heap.size,0,none⟩),.int .u64 150] 107)).alloc (.cells #[.int .i64 n] 27))
  (by rw[World.cell?_alloc_at _ _ _ _ (by simp)];rfl)
  (by rw[Qf _ _ t (by simp;omega),Qf _ _ t (by simp;omega),Qf _ _ t (by simp;omega),Qf _ _ t b0];exact a0)
  (by rw[World.frozen?_alloc_old _ _ t (by simp;omega),World.frozen?_alloc_old _ _ t (by simp;omega),World.frozen?_alloc_old _ _ t (by simp;omega),World.frozen?_alloc_old _ _ t (Nat.ne_of_lt b0)];exact c0)
 go_enter func30,ntmps30
 go_wp2;refine wp_loop_rounds 1 ?_;rw[rounds_succ];go_wp2;go_ret;exact⟨rfl,rfl⟩
def zg8{B:Nat}{w0 w:World}{o1 o2 o3 o4:Obj}{a:Addr}{u:Value}(h:Below B w0 w)(hB:B<=w.heap.size)(ha:B<=a.block):Below B w0 (((((w.alloc o1).alloc o2).alloc o3).alloc o4).setCell a u):=(zlv h hB).setCell ha u
def zdx{w:World}{o1 o2 o3 o4:Obj}{a:Addr}{u old:Value}(h:w.cell? a=some old):(((((w.alloc o1).alloc o2).alloc o3).alloc o4).setCell a u).cell? a=some u:=by
 have hl:=Qe w a h;apply World.cell?_setCell_same'
 rw[Qf _ _ _ (by simp;omega),Qf _ _ _ (by simp;omega),Qf _ _ _ (by simp;omega),Qf _ _ _ hl,h];rfl
def zk1(n:Int)(w:World)(hg:Vs w):
  Calls prog 22 #[.iface 27 (.int .i64 n)] w λe w'=>e=.returned (.tuple #[.int .i64 n,.int .i64 (-1)])/\Below w.heap.size w w':=by
 have g0:0<w.heap.size:=Qe w _ hg;have a0:Below w.heap.size w ((w.alloc (.cells #[.pointer none] 76)).alloc (.cells #[.int .i64 0] 27)):=(bA).alloc (by simp) _;have b0:∀o,Below w.heap.size w o->Vs o:=λo ho=>(ho.cell (p:=⟨0,0,none⟩) g0).trans hg;have HM:Hid (Calls prog 30 #[.iface 27 (.int .i64 n),.iface 78 (.pointer (some ⟨w.heap.size,0,none⟩))] ((w.alloc (.cells #[.pointer none] 76)).alloc (.cells #[.int .i64 0] 27)) λev w'=>ev=.returned (.bool false)/\(Below w.heap.size w w'/\w'.cell? ⟨w.heap.size+1,0,none⟩=some (.int .i64 0)/\w'.frozen? ⟨w.heap.size+1,0,none⟩=false)):=by
  refine(as_miss n ⟨w.heap.size,0,none⟩ (.pointer none) ((w.alloc (.cells #[.pointer none] 76)).alloc (.cells #[.int .i64 0] 27)) (b0 _ a0) (by simp)).mono ?_;rintro ev w' ⟨rfl,hb⟩;exact⟨rfl,a0.trans (hb.mono (by simp;omega)),by rw[hb.cell (p:=⟨w.heap.size+1,0,none⟩) (by simp)];simp,by rw[hb.frozen (p:=⟨w.heap.size+1,0,none⟩) (by simp)];simp⟩
 have HE:Hid (∀wz,Below w.heap.size w wz->wz.cell? ⟨w.heap.size+1,0,none⟩=some (.int .i64 0)->wz.frozen? ⟨w.heap.size+1,0,none⟩=false->Calls prog 30 #[.iface 27 (.int .i64 n),.iface 81 (.pointer (some ⟨w.heap.size+1,0,none⟩))] wz λev w'=>ev=.returned (.bool true)/\(Below w.heap.size w w'/\w'.cell? ⟨w.heap.size+1,0,none⟩=some (.int .i64 n))):=by
  intro wz hb hc hf;refine(yq4 n ⟨w.heap.size+1,0,none⟩ (.int .i64 0) wz (b0 _ hb) hc hf).mono ?_;rintro ev w' ⟨rfl,rfl⟩;exact⟨rfl,zg8 hb hb.size (by simp),zdx hc⟩
 clear hg b0 a0
 go_enter func22,ntmps22
 go_wp2_with fail
 refine(HM.out).mono ?_;rintro e w1 ⟨rfl,c0,d0,e0⟩;have h0:=Zz c0;clear c0 HM
 go_wp2_with fail
 refine(HE.out _ h0.out d0 e0).mono ?_;rintro e w2 ⟨rfl,f0,j0⟩;have i0:=Zz f0;clear f0 HE d0 e0;go_wp2
 go_ret2
 exact⟨rfl,i0.out⟩
end Go.Proofs.YtminjljgedopkaaGreatDoor
namespace Go.Proofs.YtminjljgedopkaaGreatDoor
open Go.RowKit Go.Proofs.Tryz
def zdw(n:Int)(w:World):Calls prog 137 #[.int .i64 n] w λe w'=>e=.returned (.bool (Fl.inR n))/\w'=w:=by
 by_cases h0:0<=n
 ·have b0:decide ((0:Int)<=n)=true:=by simpa using h0
  by_cases h1:n<=2147483647
  ·go_enter func137,ntmps137
   go_wp2;go_ret;exact⟨Zg (by simp[Fl.inR];omega),rfl⟩
  ·go_enter func137,ntmps137
   go_wp2;go_ret;exact⟨Zg (by simp[Fl.inR];omega),rfl⟩
 ·go_enter func137,ntmps137
  go_wp2;go_ret;exact⟨Zg (by simp[Fl.inR];omega),rfl⟩
def yq5(n:Int)(w:World):Calls prog 136 #[.int .i64 n] w λe w'=>e=.returned (.bool (!Fl.inR n))/\w'=w:=by
 go_enter func136,ntmps136
 go_wp2_with (go_at_call 137;refine(zdw _ _).mono ?_;rintro e w1 ⟨rfl,rfl⟩)
 go_ret;exact⟨rfl,rfl⟩
def zg9(xs:List Int)(v:Value)(B:Nat)(w:World)(hx:Zy B w v xs):
  Calls prog 172 #[v,.func (.func 136) #[] #[]] w λe w'=>(xs.all Fl.inR=true->e=.returned (.int .i64 (-1)))/\(xs.all Fl.inR=false->∃j:Nat,e=.returned (.int .i64 j))/\Below w.heap.size w w':=by
 obtain⟨ao,cap,rfl,_,hm,_⟩:=id hx;unfold maxLen at hm;have HX:Hid (Zy B w (.slice ao xs.length cap) xs):=hx;clear hx
 go_enter func172,ntmps172
 go_wp2_with fail
 go_loopw [8] (λi wr=>∃j m:Nat,j<=xs.length/\i=.int .i64 j/\wr=w.drewN m/\∀t,t<j->Fl.inR (xs.getD t 0)=true) (λi _=>xs.length - (intOf i).toNat)
 case atStart=>exact⟨0,0,by omega,rfl,rfl,λt ht=>by omega⟩
 case round=>
  obtain⟨j,m,hj,rfl,rfl,hall⟩:=hrel;have HA:Hid (∀t,t<j->Fl.inR (xs.getD t 0)=true):=hall;clear hall
  by_cases hlt:j<xs.length
  ·obtain⟨b,off,rfl,hbB,hcj⟩:=HX.out.at hlt
   have hji:(j:Int)<(xs.length:Int):=(by omega);obtain⟨x,hx⟩:∃x,x=xs.getD j 0:=⟨_,rfl⟩;rw[<-hx]at hcj;have HXJ:Hid (x=xs.getD j 0):=hx;have HP:Hid (∀(c:Bool) (W:World),Fl.inR x= !c->Calls prog 136 #[.int .i64 x] W λe w'=>e=.returned (.bool c)/\w'=W):=λc W hc=>(yq5 _ W).mono (by rintro e w' ⟨rfl,rfl⟩;exact⟨by rw[hc];simp,rfl⟩);clear hx
   cases hin:Fl.inR x with
   |true=>
    have HIN:Hid (Fl.inR x=true):=hin;clear hin
    go_wp2_with (go_at_call 136;refine(HP.out false _ HIN.out).mono ?_;rintro e w1 ⟨rfl,rfl⟩)
    go_roundw
    case rel=>exact⟨j+1,m,by omega,by go_num,rfl,λt ht=>by
     by_cases h:t<j
     ·exact HA.out t h
     ·have:t=j:=by omega
      subst this;rw[<-HXJ.out];exact HIN.out⟩
    case measure=>simp[intOf];omega
   |false=>
    have HIN:Hid (Fl.inR x=false):=hin;clear hin
    go_wp2_with (go_at_call 136;refine(HP.out true _ HIN.out).mono ?_;rintro e w1 ⟨rfl,rfl⟩)
    go_ret;refine⟨λh=>?_,λ_=>⟨j,rfl⟩,by repeat (first|exact Below.refl _ _|apply Below.drewN_of)⟩;rw[List.all_eq_true]at h;have:=h (xs.getD j 0) (by rw[List.getD_eq_getElem?_getD,List.getElem?_eq_getElem hlt];exact List.getElem_mem hlt)
    rw[<-HXJ.out,HIN.out]at this;cases this
  ·have hji:(xs.length:Int)<=(j:Int):=by omega
   go_wp2_with fail
   go_ret;have hallt:xs.all Fl.inR=true:=by
    rw[List.all_eq_true];intro y hy;obtain⟨t,ht,rfl⟩:=List.getElem_of_mem hy;have:=HA.out t (by omega)
    rwa [List.getD_eq_getElem?_getD,List.getElem?_eq_getElem ht]at this
   refine⟨λ_=>rfl,λh=>(by rw[hallt]at h;cases h),by repeat (first|exact Below.refl _ _|apply Below.drewN_of)⟩
def znz(xs:List Int)(v:Value)(B:Nat)(w:World)(hx:Zy B w v xs):
  Calls prog 135 #[v,.func (.func 136) #[] #[]] w λe w'=>e=.returned (.bool (!xs.all Fl.inR))/\Below w.heap.size w w':=by
 have HI:Hid (Calls prog 172 #[v,.func (.func 136) #[] #[]] w λe w'=>(xs.all Fl.inR=true->e=.returned (.int .i64 (-1)))/\(xs.all Fl.inR=false->∃j:Nat,e=.returned (.int .i64 j))/\Below w.heap.size w w'):=zg9 xs v B w hx;obtain⟨ao,cap,rfl,_,hm,_⟩:=id hx;clear hx hm
 go_enter func135,ntmps135
 go_wp2_with fail
 refine(HI.out).mono ?_;rintro e w1 ⟨h1,h2,hb⟩;have HB:Hid (Below w.heap.size w w1):=hb;clear hb
 cases ha:xs.all Fl.inR with
 |true=>
  obtain rfl:=h1 ha;have HAL:Hid (xs.all Fl.inR=true):=ha;clear h1 h2 ha;go_wp2;go_ret;exact⟨Zg (by rw[HAL.out];rfl),HB.out⟩
 |false=>
  obtain⟨j,rfl⟩:=h2 ha;have hj0:(0:Int)<=(j:Int):=(by omega);have HAL:Hid (xs.all Fl.inR=false):=ha;clear h1 h2 ha;go_wp2;go_ret;exact⟨Zg (by rw[HAL.out];rfl),HB.out⟩
def zx1(xs:List Int)(v:Value)(B:Nat)(w:World)(hx:Zy B w v xs):
  Calls prog 91 #[v] w λe w'=>e=.returned (.bool (xs.all Fl.inR))/\Below w.heap.size w w':=by
 have hmf:∀(fn:Fn) (first cap:Array Value) (w:World),(Instr.makeFunc fn first cap).run prog w=.ok (.func fn first cap) w:=λ_ _ _ _=>rfl;have HI:Hid (Calls prog 135 #[v,.func (.func 136) #[] #[]] w λe w'=>e=.returned (.bool (!xs.all Fl.inR))/\Below w.heap.size w w'):=znz xs v B w hx;obtain⟨ao,cap,rfl,_,hm,_⟩:=id hx;clear hx hm
 go_enter func91,ntmps91
 go_wp2_with fail
 refine(HI.out).mono ?_;rintro e w1 ⟨rfl,hb⟩;have HB:Hid (Below w.heap.size w w1):=hb;clear hb
 cases ha:xs.all Fl.inR with
 |true=>
  have HAL:Hid (xs.all Fl.inR=true):=ha;clear ha;go_wp2;go_ret;exact⟨Zg (by rw[HAL.out]),HB.out⟩
 |false=>
  have HAL:Hid (xs.all Fl.inR=false):=ha;clear ha;go_wp2;go_ret;exact⟨Zg (by rw[HAL.out]),HB.out⟩
end Go.Proofs.YtminjljgedopkaaGreatDoor
