import Derived.Test.YtminjljgedopkaaGreatDoorM07
import Derived.Deep.DeepCutAuto
set_option linter.all false
set_option maxRecDepth 100000
set_option maxHeartbeats 40000000
namespace Go.Proofs.YtminjljgedopkaaGreatDoor
open Go.RowKit Go.Proofs.Tryz
def zox{w w':World}{row:Option Nat}{lv:Value}{xs:List Int}(h:Zy w.heap.size w lv xs)(hg:w.grownBy w' row)(hne:xs≠[]->∀b,lv.ownBlock=some b->some b≠row):Zy w'.heap.size w' lv xs:=by
 obtain⟨ao,cap,rfl,h1,h2,h3⟩:=h;refine⟨ao,cap,rfl,h1,h2,λhn=>?_⟩;obtain⟨b,off,rfl,hb,hc⟩:=h3 hn;refine⟨b,off,rfl,Nat.lt_of_lt_of_le hb hg.size,λi hi=>?_⟩;exact(World.cell?_of_block (a:=⟨b,off+i,none⟩) (hg.block b hb (hne hn b rfl))).trans (hc i hi)
def Yv.pre{w0 w w':World}{Xb T B Fb:Nat}{wv:Value}{acc:List Fl.Node}{lvs:List Value}(h:Yv w0 w Xb T B Fb wv acc lvs)(hg:w.grownBy w' (some B)):zmv w0 w' Xb T B Fb wv acc lvs:=by
 obtain⟨x1,x2,x3⟩:=h.x0
 have hne:some Xb≠some B:=by simp;omega
 have hwv:wv.ownBlock≠some B:=λhh=>by have:=(h.ow.lt B hh).1;omega
 refine⟨h.x0,Nat.lt_of_lt_of_le h.hz hg.size,hg.cell h.c0 hne,hg.cell h.c1 hne,hg.cell h.c2 hne,λj=>(World.frozen?_of_block (w:=w) (hg.block Xb h.hz hne)).trans (h.fz j),h.hl,h.ow.kept hg (.inr hwv),λp hp=>?_,h.be.grown hg (Nat.le_trans x1 (by have:=h.hz;omega)) (λk hk=>by injection hk with hk;omega)⟩;obtain⟨hk,hx⟩:=h.li p hp;exact⟨⟨zox hk.1 hg (λhn b hb=>by have:=(hx hn b hb).1;simp;omega),hk.2⟩,λhn b hb=>⟨(hx hn b hb).1,(hx hn b hb).2.of (hg.block b (hx hn b hb).2.lt (by have:=(hx hn b hb).1;simp;omega))⟩⟩
def Yv.seen{w0 w w':World}{Xb T B Fb:Nat}{wv:Value}{acc:List Fl.Node}{lvs:List Value}(h:Yv w0 w Xb T B Fb wv acc lvs)(hg:w.grownBy w' (some B))(hs:Vg w' T B acc):Yv w0 w' Xb T B Fb wv acc lvs:=
 ⟨(h.pre hg).x0,(h.pre hg).hz,(h.pre hg).c0,(h.pre hg).c1,(h.pre hg).c2,(h.pre hg).fz,hs,(h.pre hg).hl,(h.pre hg).ow,(h.pre hg).li,(h.pre hg).be⟩
def zmv.push{w0 w W1 W2:World}{Xb T B Fb:Nat}{wv wv' lvn:Value}{acc:List Fl.Node}{lvs:List Value}{nd:Fl.Node}(h:zmv w0 w Xb T B Fb wv acc lvs)(hs:Vg w T B (acc++[nd]))(hb:Below w.heap.size w W1)(hi:Zy w.heap.size w lvn nd.list)(hf:nd.list≠[]->∀b,lvn.ownBlock=some b->Xb<b/\some b≠wv.ownBlock/\Jp w b)
  (ho:W2.ownsRow (Xb+1) 121 6 wv' (acc.length+1) (Xr acc lvs++Zi nd lvn)) (hg:W1.grownBy W2 wv.ownBlock) (hw:wv'.ownBlock=wv.ownBlock\/wv'.ownBlock=some W1.heap.size):
  Yv w0 (W2.setCell ⟨Xb,1,none⟩ wv') Xb T B Fb wv' (acc++[nd]) (lvs++[lvn]):=by
 obtain⟨x1,x2,x3⟩:=h.x0;have hz:=h.hz;have hsz:=hb.size;have hsg:=hg.size
 have hown:∀c,wv.ownBlock=some c->Xb<c/\c<w.heap.size:=λc hc=>by have:=h.ow.lt c hc;omega
 have ne:∀c,c<=Xb->some c≠wv.ownBlock:=λc hc hh=>by have:=hown c hh.symm;omega
 have c0:W2.cell? ⟨Xb,0,none⟩=some (.pointer (some ⟨Fb,0,none⟩)):=hg.cell ((hb.cell (p:=⟨Xb,0,none⟩) hz).trans h.c0) (ne Xb (Nat.le_refl _));have c1:W2.cell? ⟨Xb,1,none⟩=some wv:=hg.cell ((hb.cell (p:=⟨Xb,1,none⟩) hz).trans h.c1) (ne Xb (Nat.le_refl _));have c2:W2.cell? ⟨Xb,2,none⟩=some (.pointer (some ⟨T,0,none⟩)):=hg.cell ((hb.cell (p:=⟨Xb,2,none⟩) hz).trans h.c2) (ne Xb (Nat.le_refl _));have og:w.grownBy W1 none:=⟨hb.os,hb.tape,hb.output,hb.size,λk hk _=>hb.block k hk⟩;have gs:W2.grownBy (W2.setCell ⟨Xb,1,none⟩ wv') (some Xb):=⟨rfl,rfl,rfl,by rw[Zu];exact Nat.le_refl _,λk hk hn=>Zx _ _ _ _ _ (λe=>hn (by rw[e]))⟩;have se:Vg (W2.setCell ⟨Xb,1,none⟩ wv') T B (acc++[nd]):=((hs.kept og (by simp) (by simp)).kept hg (ne T (by omega)) (ne B (by omega))).kept gs (by simp;omega) (by simp;omega);have hk:∀p,p∈Ym (acc++[nd]) (lvs++[lvn])->Xj W2 p.1 p.2 (.slice none 0 0) wv'/\(p.2≠[]->∀b,p.1.ownBlock=some b->Xb<b/\Jp W2 b):=by
  intro p hp;rw[Uo _ _ _ _ h.hl,List.mem_append,List.mem_singleton]at hp;rcases hp with hp|hp
  ·obtain⟨k1,k2⟩:=h.li p hp
   exact⟨(k1.below hb).second hg hw,λhn b hbb=>⟨(k2 hn b hbb).1,(k2 hn b hbb).2.of ((hg.block b (Nat.lt_of_lt_of_le (k2 hn b hbb).2.lt hsz) (by rw[<-hbb];exact(k1.2 hn).2)).trans (hb.block b (k2 hn b hbb).2.lt))⟩⟩
  ·subst hp
   refine⟨Xj.second (nv:=wv) ⟨Jq hi hb,λhn=>?_⟩ hg hw,λhn b hbb=>⟨(hf hn b hbb).1,(hf hn b hbb).2.2.of ((hg.block b (Nat.lt_of_lt_of_le (hf hn b hbb).2.2.lt hsz) (hf hn b hbb).2.1).trans (hb.block b (hf hn b hbb).2.2.lt))⟩⟩;obtain⟨ao,cap,e,-,-,h3⟩:=hi;obtain⟨b,off,e2,-,-⟩:=h3 hn;have h5:lvn.ownBlock=some b:=(by rw[e,e2];rfl);refine⟨by rw[h5];simp[Value.ownBlock],by rw[h5];exact(hf hn b h5).2.1⟩
 refine⟨h.x0,by rw[Zu];omega,(World.cell?_setCell_other _ _ _ _ (by intro hh;injection hh with _ h5;omega)).trans c0,World.cell?_setCell_same' _ _ _ (by rw[c1];rfl),(World.cell?_setCell_other _ _ _ _ (by intro hh;injection hh with _ h5;omega)).trans c2,λj=>by rw[World.frozen?_setCell];exact(World.frozen?_of_block (w:=W1) (hg.block Xb (by omega) (ne Xb (Nat.le_refl _)))).trans ((hb.frozen (p:=⟨Xb,j,none⟩) hz).trans (h.fz j)),se,by simp[h.hl],?_,λp hp=>⟨(hk p hp).1.set (λhx hh=>by have:=((hk p hp).2 hx Xb hh).1;omega),λhn b hbb=>⟨((hk p hp).2 hn b hbb).1,((hk p hp).2 hn b hbb).2.of (Zx _ _ _ _ _ (by have:=((hk p hp).2 hn b hbb).1;omega))⟩⟩,?_⟩
 ·rw[zx8 _ _ _ _ h.hl,List.length_append,List.length_singleton];exact ownsRow_setCell_below ho (by simp) wv'
 ·exact((h.be.trans (hb.mono (by omega))).grown hg (by omega) (λk hk=>by have:=hown k hk;omega)).setCell (by show w0.heap.size<=Xb;omega) _
def Vf(X:Value×List Int->Prop)(w:World)(acc:List Fl.Node)(lvs:List Value)(acc':List Fl.Node)(lvs':List Value):Prop:=∀p,p∈Ym acc' lvs'->p∈Ym acc lvs\/X p\/p.2=[]\/∀b,p.1.ownBlock=some b->w.heap.size<=b
def Vf.refl(X:Value×List Int->Prop)(w:World)(acc:List Fl.Node)(lvs:List Value):Vf X w acc lvs acc lvs:=λ_ h=> .inl h
def Vf.trans{w w':World}{acc acc' acc'':List Fl.Node}{lvs lvs' lvs'':List Value}(h:Vf (λ_=>False) w acc lvs acc' lvs')(hw:w.heap.size<=w'.heap.size)(h':Vf (λ_=>False) w' acc' lvs' acc'' lvs''):Vf (λ_=>False) w acc lvs acc'' lvs'':=λp hp=>by
 rcases h' p hp with h1|h1|h1|h1
 ·exact h p h1
 ·exact h1.elim
 ·exact .inr (.inr (.inl h1))
 ·exact .inr (.inr (.inr λb hb=>Nat.le_trans hw (h1 b hb)))
def Xt(X:Value×List Int->Prop)(w0 w:World)(Xb T B Fb:Nat)(wv:Value)(acc:List Fl.Node)(lvs:List Value)(r:Int×List Fl.Node)(e:Ending)(w':World):Prop:=e=.returned (.int .i64 r.1)/\∃wv' lvs',Yv w0 w' Xb T B Fb wv' r.2 lvs'/\Yp w w' Xb B wv wv'/\Vf X w acc lvs r.2 lvs'
def ndV(nd:Fl.Node)(lv:Value):Value:=.agg #[.int .i64 nd.kind,.int .i64 nd.level,.int .i64 nd.a,.int .i64 nd.b,.int .i64 nd.c,lv]
section
variable{w0 w:World}{Xb T B Fb:Nat}{wv lvn:Value}{acc:List Fl.Node}{lvs:List Value}{nd:Fl.Node}
def zx4(h:Yv w0 w Xb T B Fb wv acc lvs)(hf:Fl.fits nd)(hi:Zy w.heap.size w lvn nd.list)(hb:nd.list≠[]->∀b,lvn.ownBlock=some b->Xb<b/\some b≠wv.ownBlock/\Jp w b)(hn:acc.length<=100000000):
  Calls prog 158 #[.pointer (some ⟨Xb,0,none⟩),ndV nd lvn] w (Xt (λp=>p=(lvn,nd.list)) w0 w Xb T B Fb wv acc lvs (Fl.put1 acc nd)):=by
 obtain⟨x1,x2,x3⟩:=h.x0;have hz:=h.hz;obtain⟨la,lc,rfl,-⟩:=id hi;obtain⟨ln,hln⟩:∃ln,ln=nd.list.length:=⟨_,rfl⟩;rw[<-hln]at hi hb⊢;obtain⟨lvn,hlv⟩:∃lvn,lvn=Value.slice la ln lc:=⟨_,rfl⟩;rw[<-hlv]at hi hb⊢;obtain⟨W0,hW0⟩:∃W0,W0=w.alloc (.cells #[.int .i64 nd.kind,.int .i64 nd.level,.int .i64 nd.a,.int .i64 nd.b,.int .i64 nd.c,lvn] 121):=⟨_,rfl⟩
 have HB0:Hid (Below w.heap.size w W0):=by show Below _ _ _;rw[hW0];exact bA
 have hz0:w.heap.size+1=W0.heap.size:=by rw[hW0];simp
 have ND0:Xu W0 w.heap.size 0 nd lvn:=by
  rw[hW0];exact⟨by simp,by simp,by simp,by simp,by simp,by simp,by rw[<-hW0];exact Jq hi HB0.out⟩
 have HND:Hid (∀V,Below W0.heap.size W0 V->Xu V w.heap.size 0 nd lvn):=λV hV=>ND0.below hV;have HC:Hid (∀V,Below W0.heap.size W0 V->Calls prog 96 #[.pointer (some ⟨w.heap.size,0,none⟩)] V λe w'=>e=.returned (.agg (Zc nd).toArray)/\Below V.heap.size V w'):=λV hV=>zw1 (HND.out V hV) hf.2.2.2.2.2.1;have HX:Hid (∀V,Below W0.heap.size W0 V->Yv w0 V Xb T B Fb wv acc lvs):=λV hV=>h.below (HB0.out.trans (hV.mono (by omega)));have HS0:Hid (∀V:World,V.cell? ⟨Xb,2,none⟩=some (.pointer (some ⟨T,0,none⟩))/\True->V.cell? ⟨Xb,2,none⟩=some (.pointer (some ⟨T,0,none⟩))/\True):=λV h=>h;have HN:Hid (∀V,Below W0.heap.size W0 V->Calls prog 95 #[.pointer (some ⟨T,0,none⟩),.agg (Zc nd).toArray] V λe w'=>((∃(i:Nat) (hi:i<acc.length),acc[i]=nd/\e=.returned (.tuple #[.int .i64 (i:Int),.bool false])/\Vg w' T B acc)\/(nd ∉ acc/\e=.returned (.tuple #[.int .i64 (acc.length:Int),.bool true])/\Vg w' T B (acc++[nd])))/\V.grownBy w' (some B)):=λV hV=>yvy (HX.out V hV).se hf hn;have HI:Hid (Zy w.heap.size w lvn nd.list):=hi;have HBB:Hid (nd.list≠[]->∀b,lvn.ownBlock=some b->Xb<b/\some b≠wv.ownBlock/\Jp w b):=hb;have HF:Hid (Fl.fits nd):=hf;generalize hcl:(Zc nd).toArray=cl at*;have HLV:Hid (lvn=Value.slice la ln lc):=hlv;clear ND0 hi hb hf hcl hln hlv;unfold ndV
 go_enter func158,ntmps158
 go_wp2_with fail
 rw[<-hW0];clear hW0;refine Yy HS0 ⟨(HX.out _ (Below.refl _ _).drew).c2,trivial⟩ [4,5] [] [] (by kernel_rfl) (λc a d v w h=>by cases d<;>exact h) (λops _=>?_)
 iterate 4 refine Ze rfl (by rintro _ ⟨_,_⟩;go_simp<;>rfl) (by go_simp<;>rfl) ?_
 refine Zs ?_
 go_wp2_with fail
 refine(HC.out _ (Below.refl _ _).drew).mono ?_;rintro e1 W1 ⟨rfl,hB1⟩;have HB1:Hid (Below W0.heap.size W0 W1):=(Below.refl _ _).drew.trans hB1;clear hB1
 go_wp2_with fail
 refine⟨⟨(HX.out _ HB1.out).c2,trivial⟩,?_⟩;refine Zs ?_
 go_wp2_with fail
 refine(HN.out _ HB1.out).mono ?_;rintro e2 W2 ⟨hor,hg2⟩;have HW1:Hid (Yv w0 W1 Xb T B Fb wv acc lvs):=HX.out _ HB1.out;have HG2:Hid (W1.grownBy W2 (some B)):=hg2
 have hxb:some Xb≠some B:=by simp;omega
 have c22:W2.cell? ⟨Xb,2,none⟩=some (.pointer (some ⟨T,0,none⟩)):=hg2.cell HW1.out.c2 hxb;have hz1:=HB1.out.size;have HST:Hid (Yp w W2 Xb B wv wv):=by
  have hw1:Below w.heap.size w W1:=HB0.out.trans (HB1.out.mono (by omega));exact⟨hg2.os.trans hw1.os,hg2.tape.trans hw1.tape,hg2.output.trans hw1.output,Nat.le_trans hw1.size hg2.size,λc h1 _ h3 _=>(hg2.block c (Nat.lt_of_lt_of_le h1 hw1.size) (by simpa using h3)).trans (hw1.block c h1),.inl rfl⟩
 rcases hor with⟨i,hil,hie,rfl,hse⟩|⟨hno,rfl,hse⟩
 ·have HE:Hid (Xt (λp=>p=(lvn,nd.list)) w0 w Xb T B Fb wv acc lvs (Fl.put1 acc nd) (.returned (.int .i64 (i:Int))) W2):=by
   have e9:Fl.put1 acc nd=((i:Int),acc):=yz7 hil hie (λj hj he=>hse.once hil hj (by rw[he,hie]));rw[e9];exact⟨rfl,wv,lvs,HW1.out.seen hg2 hse,HST.out,Vf.refl _ _ _ _⟩
  clear hse hg2 HC HN HND
  go_wp2_with fail
  refine⟨⟨c22,trivial⟩,?_⟩
  iterate 5 refine Ze rfl (by rintro _ ⟨_,_⟩;go_simp<;>rfl) (by go_simp<;>rfl) ?_
  refine Yt ?_;go_wp2;go_ret;exact HE.out
 ·go_wp2_with fail
  refine⟨⟨c22,trivial⟩,?_⟩
  iterate 5 refine Ze rfl (by rintro _ ⟨_,_⟩;go_simp<;>rfl) (by go_simp<;>rfl) ?_
  refine Yt ?_;have hne:some w.heap.size≠some B:=(by simp;omega);have hn1:=HND.out _ HB1.out;have t0:=hg2.cell hn1.c0 hne;have t1:=hg2.cell hn1.c1 hne;have t2:=hg2.cell hn1.c2 hne;have t3:=hg2.cell hn1.c3 hne;have t4:=hg2.cell hn1.c4 hne;have t5:=hg2.cell hn1.c5 hne;simp only[Nat.zero_add]at t0 t1 t2 t3 t4 t5;have c21:W2.cell? ⟨Xb,1,none⟩=some wv:=hg2.cell HW1.out.c1 hxb;have HSE:Hid (Vg W2 T B (acc++[nd])):=hse;have HNO:Hid (nd ∉ acc):=hno;have HP2:Hid (zmv w0 W2 Xb T B Fb wv acc lvs):=HW1.out.pre hg2;have HW2:Hid (W2.ownsRow (Xb+1) 121 6 wv acc.length (Xr acc lvs)):=HW1.out.ow.kept hg2 (.inr (λhh=>by have:=(HW1.out.ow.lt B hh).1;omega));rw[HLV.out]at t5;clear hn1 hse hno hg2 HC HN HND c22
  go_wp2_with fail
  have HS2:Hid (∀V:World,(V.cell? ⟨Xb,1,none⟩=some wv/\V.cell? ⟨w.heap.size,0,none⟩=some (.int .i64 nd.kind)/\V.cell? ⟨w.heap.size,1,none⟩=some (.int .i64 nd.level)/\V.cell? ⟨w.heap.size,2,none⟩=some (.int .i64 nd.a)/\V.cell? ⟨w.heap.size,3,none⟩=some (.int .i64 nd.b)/\V.cell? ⟨w.heap.size,4,none⟩=some (.int .i64 nd.c)/\V.cell? ⟨w.heap.size,5,none⟩=some (.slice la ln lc))->(V.cell? ⟨Xb,1,none⟩=some wv/\V.cell? ⟨w.heap.size,0,none⟩=some (.int .i64 nd.kind)/\V.cell? ⟨w.heap.size,1,none⟩=some (.int .i64 nd.level)/\V.cell? ⟨w.heap.size,2,none⟩=some (.int .i64 nd.a)/\V.cell? ⟨w.heap.size,3,none⟩=some (.int .i64 nd.b)/\V.cell? ⟨w.heap.size,4,none⟩=some (.int .i64 nd.c)/\V.cell? ⟨w.heap.size,5,none⟩=some (.slice la ln lc))):=λV h=>h
  have HS3:Hid (∀V:World,(∀b,b<=w.heap.size->some b≠wv.ownBlock->V.heap[b]?=W2.heap[b]?)->V.cell? ⟨Xb,1,none⟩=some wv/\V.cell? ⟨w.heap.size,0,none⟩=some (.int .i64 nd.kind)/\V.cell? ⟨w.heap.size,1,none⟩=some (.int .i64 nd.level)/\V.cell? ⟨w.heap.size,2,none⟩=some (.int .i64 nd.a)/\V.cell? ⟨w.heap.size,3,none⟩=some (.int .i64 nd.b)/\V.cell? ⟨w.heap.size,4,none⟩=some (.int .i64 nd.c)/\V.cell? ⟨w.heap.size,5,none⟩=some (.slice la ln lc)):=λV hV=>by
   have hxx:some Xb≠wv.ownBlock:=λhh=>by have:=(h.ow.lt Xb hh.symm).1;omega
   have hnn:some w.heap.size≠wv.ownBlock:=λhh=>by have:=(h.ow.lt _ hh.symm).2;omega
   have qx:=World.cell?_of_block (a:=⟨Xb,1,none⟩) (hV Xb (by omega) hxx);have qn:∀j,V.cell? ⟨w.heap.size,j,none⟩=W2.cell? ⟨w.heap.size,j,none⟩:=λj=>World.cell?_of_block (a:=⟨w.heap.size,j,none⟩) (hV _ (Nat.le_refl _) hnn);exact⟨qx.trans c21,(qn 0).trans t0,(qn 1).trans t1,(qn 2).trans t2,(qn 3).trans t3,(qn 4).trans t4,(qn 5).trans t5⟩
  have hz2:=HST.out.sz;have hz12:=HG2.out.size;refine Yy HS2 (HS3.out _ (λb _ _=>rfl)) [6,7,8] [10] [] (by kernel_rfl) (λc a d v w h=>by cases d<;>exact h) (λops _=>?_)
  iterate 6 refine Ze rfl (by rintro _ ⟨_,_,_,_,_,_,_⟩;go_simp<;>rfl) (by go_simp<;>rfl) ?_
  refine Zs ?_
  go_wp2_with fail
  obtain⟨W3,hW3⟩:∃W3,W3=(W2.alloc (.cells #[.int .i64 nd.kind,.int .i64 nd.level,.int .i64 nd.a,.int .i64 nd.b,.int .i64 nd.c,.slice la ln lc] 121)).drew:=⟨_,rfl⟩;rw[<-hW3];have HB3:Hid (Below W2.heap.size W2 W3):=(by show Below _ _ _;rw[hW3];exact bA.drew);have tc:∀j u,(Zi nd (.slice la ln lc))[j]?=some u->W3.cell? ((⟨W2.heap.size,0,none⟩:Addr).add j)=some u:=(by rw[hW3];exact zf6 (w:=W2) (l:=Zi nd (.slice la ln lc)));have hz3:W2.heap.size+1=W3.heap.size:=(by rw[hW3];simp);have HS4:=HS3.out W3 (λb hb _=>HB3.out.block b (by omega));have HO3:Hid (W3.ownsRow (Xb+1) 121 6 wv acc.length (Xr acc lvs)):=zpy HW2.out HB3.out;obtain⟨i1,hi1,hy0,hy1,hyb⟩:=info_parts Tryz.infoNodeW;clear hW3;refine⟨HS4,?_⟩;refine Zs ?_
  go_wp2_with (at_builtin;refine Zk _ rfl (.tmp 21) (.tmp 23) 24 rfl (Xb+1) 121 i1 (.agg #[.int .i64 0,.int .i64 0,.int .i64 0,.int .i64 0,.int .i64 0,.slice none 0 0]) 6 64 underlying24 hi1 hy0 hy1 hyb rfl (by decide) _ _ _ rfl HO3.out ⟨W2.heap.size,0,none⟩ 1 1 (Zi nd (.slice la ln lc)) rfl rfl (by decide) tc (by intro u hu;simp[Zi]at hu;rcases hu with rfl|rfl|rfl|rfl|rfl|rfl<;>rfl) (by unfold maxLen;omega) (by omega) (by omega) ?_)
  intro v' W4 hown4 hg4 hw4;obtain⟨g4,k4,rfl⟩:∃g4 k4,v'=.slice (some ⟨g4,0,none⟩) (acc.length+1) k4:=by
   rcases hown4.2 with⟨h1,h2⟩|⟨g4,cp,cur,h1,_⟩
   ·omega
   ·exact⟨g4,cp,h1⟩
  have HS5:=HS3.out W4 (λb hb hne=>(hg4.block b (by omega) hne).trans (HB3.out.block b (by omega)));have HE:Hid (Xt (λp=>p=(lvn,nd.list)) w0 w Xb T B Fb wv acc lvs (Fl.put1 acc nd) (.returned (.int .i64 (acc.length:Int))) (W4.setCell ⟨Xb,1,none⟩ (.slice (some ⟨g4,0,none⟩) (acc.length+1) k4))):=by
   rw[yr1 HNO.out];have hw2:Below w.heap.size w W1:=HB0.out.trans (HB1.out.mono (by omega));have hwi:Zy W2.heap.size W2 (.slice la ln lc) nd.list:=by
    rw[<-HLV.out];exact zox (Jq HI.out hw2) HG2.out (λhn b hb=>by have:=(HBB.out hn b hb).1;simp;omega)
   refine⟨rfl,_,lvs++[.slice la ln lc],zmv.push HP2.out HSE.out HB3.out hwi (by rw[<-HLV.out];exact λhn b hbb=>⟨(HBB.out hn b hbb).1,(HBB.out hn b hbb).2.1,(HBB.out hn b hbb).2.2.of ((HG2.out.block b (Nat.lt_of_lt_of_le (HBB.out hn b hbb).2.2.lt hw2.size) (by have:=(HBB.out hn b hbb).1;simp;omega)).trans (hw2.block b (HBB.out hn b hbb).2.2.lt))⟩) hown4 hg4 hw4,?_⟩;have hx1:Yp W2 (W4.setCell ⟨Xb,1,none⟩ (.slice (some ⟨g4,0,none⟩) (acc.length+1) k4)) Xb B wv (.slice (some ⟨g4,0,none⟩) (acc.length+1) k4):=by
    refine⟨hg4.os.trans HB3.out.os,hg4.tape.trans HB3.out.tape,hg4.output.trans HB3.out.output,by rw[Zu];exact Nat.le_trans HB3.out.size hg4.size,λc h1 h2 h3 h4=>?_,?_⟩
    ·exact(Zx _ _ _ _ _ h2).trans ((hg4.block c (by omega) h4).trans (HB3.out.block c h1))
    ·rcases hw4 with e|e
     ·exact .inl e
     ·exact .inr ⟨_,e,HB3.out.size⟩
   refine⟨HST.out.trans hx1,λp hp=>?_⟩;rw[Uo _ _ _ _ h.hl,List.mem_append,List.mem_singleton]at hp;rcases hp with hp|hp
   ·exact .inl hp
   ·exact .inr (.inl (by rw[hp,HLV.out]))
  have fzx:W4.frozen? ⟨Xb,1,none⟩=false:=by
   have hxx:some Xb≠wv.ownBlock:=λhh=>by have:=(h.ow.lt Xb hh.symm).1;omega
   exact(World.frozen?_of_block (w:=W2) ((hg4.block Xb (by omega) hxx).trans (HB3.out.block Xb (by omega)))).trans (HP2.out.fz 1)
  have cx1:=HS5.1;clear hown4 hg4 hw4 HO3 tc HS4
  go_wp2_with fail
  refine⟨HS5,?_⟩;refine Zs ?_
  go_wp2_with fail
  refine⟨HS5,?_⟩;refine Ze rfl (by rintro _ ⟨_,_,_,_,_,_,_⟩;go_simp<;>rfl) (by go_simp<;>rfl) ?_;refine Vl ?_
  go_wp2_with fail
  refine Yt ?_;go_wp2;go_ret;exact HE.out
end
def Ju(P:Program)(ops:Array Oper)(S:World->Prop)(Q:Exit->Act->World->Prop)(E:Act->World->Prop):List (Nat×Oper)->Act->World->Prop
 |[],a,w=>S w/\E a w
 |(0,o)::l,a,w=>∃v,YieldsIf P ops S o v a/\Ju P ops S Q E l (a.put o.dst v) w
 |(_+1,o)::l,a,w=>wpList P ops (Exit.then (λa1 w1=>S w1/\Ju P ops S Q E l a1 w1) Q) [o] a w
def zw9(ops:Array Oper):List Nat->List (Nat×Nat)->Bool
 |_,[]=>true
 |pre,(0,i)::l=>Region.free .any ops (Zr ops.size pre) i && ((Region.ready .any ops (Zr ops.size pre)).contains i && zw9 ops (pre++[i]) l)
 |pre,(_+1,i)::l=>decide (Region.ready .any ops (Zr ops.size pre)=[i]) && zw9 ops (pre++[i]) l
section
variable{P:Program}{ops:Array Oper}{Q:Exit->Act->World->Prop}{S:World->Prop}{E:Act->World->Prop}
def Ye{o:Oper}{l:List (Nat×Oper)}{a:Act}{w:World}(hg:o.guard=none)
  (h:∀K:Act->Prop,(∀a',Ju P ops S Q E l a' w->K a')->∃v,(∀w,S w->(execOp a.eval o).run P w=.ok (.value v) w)/\K (a.put o.dst v)):Ju P ops S Q E ((0,o)::l) a w:=by
 obtain⟨v,h1,h2⟩:=h (λa'=>Ju P ops S Q E l a' w) (λ_ h=>h);exact⟨v,.inl ⟨by simp[Region.wanted,hg],h1⟩,h2⟩
def Xl{o:Oper}{l:List (Nat×Oper)}{a:Act}{w:World}(h:wpList P ops (Exit.then (λa1 w1=>S w1/\Ju P ops S Q E l a1 w1) Q) [o] a w):Ju P ops S Q E ((1,o)::l) a w:=h
def Vx{a:Act}{w:World}(h:S w/\E a w):Ju P ops S Q E [] a w:=h
def zs9(f:Nat)(hs:Region.noSelect ops=true)(hQ:∀c a d v w,Q (.panic c) (Act.put a d v) w->Q (.panic c) a w):
  ∀(st:List (Nat×Nat)) (so:List (Nat×Oper)) (pre:List Nat) (a:Act) (w:World),S w->st.map (λp=>(p.1,ops[p.2]?))=so.map (λp=>(p.1,some p.2))->zw9 ops pre st=true->
  (∀a w,E a w->S w->zx7 P ops Q S [] f (Zr ops.size (pre++st.map (·.2))) a w)->
  Ju P ops S Q E so a w->zx7 P ops Q S [] (f+st.length) (Zr ops.size pre) a w
 |[],so,pre,a,w,hS,a0,hB,hE,h=>by
  have:so=[]:=by cases so with|nil=>rfl|cons o so=>simp at a0
  subst this;have:=hE a w h.2 h.1;simpa using this
 |(0,i)::st,so,pre,a,w,hS,a0,hB,hE,h=>by
  cases so with
  |nil=>simp at a0
  |cons p so=>
   obtain⟨c,o⟩:=p;simp only[List.map_cons,List.cons.injEq,Prod.mk.injEq]at a0;obtain⟨⟨rfl,ho⟩,a0⟩:=a0;simp only[zw9,Bool.and_eq_true]at hB;obtain⟨v,h1,h2⟩:=h;have ih:=zs9 f hs hQ st so (pre++[i]) (a.put o.dst v) w hS a0 hB.2.2 (λa w hE' hS'=>by have:=hE a w hE' hS';simpa using this) h2;rw[Yu]at ih;have:=zq1 ho (Region.noSelect_spec hs) (λc a w h=>hQ c a _ _ w h) (by simp) (f+st.length) _ a w (Region.free_spec ho hB.1) (by simpa using hB.2.1) h1 hS ih;simpa [Nat.add_assoc] using this
 |(k+1,i)::st,so,pre,a,w,hS,a0,hB,hE,h=>by
  cases so with
  |nil=>simp at a0
  |cons p so=>
   obtain⟨c,o⟩:=p;simp only[List.map_cons,List.cons.injEq,Prod.mk.injEq]at a0;obtain⟨⟨rfl,ho⟩,a0⟩:=a0;simp only[zw9,Bool.and_eq_true,decide_eq_true_eq]at hB;rw[List.length_cons,<-Nat.add_assoc];refine⟨λh0=>(by rw[hB.1]at h0;cases h0),λx hx=>?_⟩;rw[hB.1]at hx;simp only[List.mem_singleton]at hx;subst hx;refine wpOp_mono (λa1 w1 hk=>⟨λ_=>hk.1,?_⟩) (Uf ho h);have ih:=zs9 f hs hQ st so (pre++[x]) a1 w1 hk.1 a0 hB.2 (λa w hE' hS'=>by have:=hE a w hE' hS';simpa using this) hk.2
   rwa [Yu]at ih
end
section
variable{P:Program}{ops:Array Oper}{Q:Exit->Act->World->Prop}{S:World->Prop}{E:Act->World->Prop}
def then_go{o:Oper}{l:List (Nat×Oper)}{a:Act}{w:World}{j:Nat}{b:Bool}(hg:o.guard=some (j,b))(hy:yielded ops a.tmps j=some b)
  (h:∀K:Act->Prop,(∀a',Ju P ops S Q E l a' w->K a')->∃v,(∀w,S w->(execOp a.eval o).run P w=.ok (.value v) w)/\K (a.put o.dst v)):Ju P ops S Q E ((0,o)::l) a w:=by
 obtain⟨v,h1,h2⟩:=h (λa'=>Ju P ops S Q E l a' w) (λ_ h=>h);exact⟨v,.inl ⟨by simp[Region.wanted,hg,hy],h1⟩,h2⟩
def then_skip{o:Oper}{l:List (Nat×Oper)}{a:Act}{w:World}{j:Nat}{b c:Bool}(hg:o.guard=some (j,b))(hy:yielded ops a.tmps j=some c)(a0:(some c==some b)=false)
  (h:Ju P ops S Q E l (a.put o.dst undef) w):Ju P ops S Q E ((0,o)::l) a w:=⟨undef,.inr ⟨by simpa [Region.wanted,hg,hy] using a0,rfl⟩,h⟩
def then_do_go{l:List (Nat×Oper)}{a:Act}{w:World}{dst:Option Tmp}{op:Op}{ty:TypeId}{pos:String}{after:Array Edge}{guard:Option (Nat×Bool)}
  (hw:Region.wanted {dst:=dst,op:=op,type:=ty,pos:=pos,after:=after,guard:=guard} (yielded ops a.tmps)=true) (h:wpList P ops (Exit.then (λa1 w1=>S w1/\Ju P ops S Q E l a1 w1) Q) [{dst:=dst,op:=op,type:=ty,pos:=pos,after:=after,guard:=none}] a w):
  Ju P ops S Q E ((1,{dst:=dst,op:=op,type:=ty,pos:=pos,after:=after,guard:=guard})::l) a w:=wpList_unguard hw h
def then_do_skip{o:Oper}{l:List (Nat×Oper)}{a:Act}{w:World}{j:Nat}{b c:Bool}(hg:o.guard=some (j,b))(hy:yielded ops a.tmps j=some c)(a0:(some c==some b)=false)(hS:S w)
  (h:Ju P ops S Q E l (a.put o.dst undef) w):Ju P ops S Q E ((1,o)::l) a w:=wpList_skip (by simpa [Region.wanted,hg,hy] using a0) ⟨hS,h⟩
def wpPair(P:Program)(ops:Array Oper)(S:World->Prop)(Q:Exit->Act->World->Prop)(so3:List (Nat×Oper))(ox oy:Oper)(a:Act)(w:World):Prop:=
 wpList P ops (Exit.then (λa1 w1=>S w1/\wpList P ops (Exit.then (λa2 w2=>S w2/\Ju P ops S Q (λa3 w3=>Q .normal a3 w3) so3 a2 w2) Q) [oy] a1 w1) Q) [ox] a w
def wp_region_mid{id:Nat}{a:Act}{w:World}{l:List Oper}(S:World->Prop)(st:List (Nat×Nat))(i j:Nat)(st3 G:List (Nat×Nat))(hm:P.follows .mixedOrders=true)
  (hB:(Region.noSelect l.toArray && (zw9 l.toArray [] st && (decide (Region.ready .any l.toArray (Zr l.toArray.size (st.map (·.2)))=[i,j]) && (decide (Region.ready .any l.toArray (Zr l.toArray.size (st.map (·.2)++[i]))=[j]) && (decide (Region.ready .any l.toArray (Zr l.toArray.size (st.map (·.2)++[j]))=[i]) && (zw9 l.toArray (st.map (·.2)++[i]++[j]) st3 && (zw9 l.toArray (st.map (·.2)++[j]++[i]) st3 && (decide (Region.ready .any l.toArray (Zr l.toArray.size (st.map (·.2)++[i]++[j]++st3.map (·.2)))=[]) && (decide (Region.ready .any l.toArray (Zr l.toArray.size (st.map (·.2)++[j]++[i]++st3.map (·.2)))=[]) && G.all (λp=>decide (((l.toArray[p.1]?).bind λx=>x.dst)=some p.2)))))))))))=true)
  (hlen:l.length=st3.length+2+st.length) (so so3:List (Nat×Oper)) (oi oj:Oper) (c0:st.map (λp=>(p.1,l.toArray[p.2]?))=so.map (λp=>(p.1,some p.2))) (a0:st3.map (λp=>(p.1,l.toArray[p.2]?))=so3.map (λp=>(p.1,some p.2))) (hi:l.toArray[i]?=some oi) (hj:l.toArray[j]?=some oj)
  (hQ:∀c a d v w,Q (.panic c) (Act.put a d v) w->Q (.panic c) a w) (hS:S w.drew)
  (h:∀ops:Array Oper,(∀p∈G,((ops[p.1]?).bind λx=>x.dst)=some p.2)->Ju P ops S Q (λa' w'=>wpPair P ops S Q so3 oi oj a' w'/\wpPair P ops S Q so3 oj oi a' w') so a w.drew):(Code.region id l.toArray true).wp P Q a w:=by
 simp only[Bool.and_eq_true,decide_eq_true_eq,List.all_eq_true]at hB;obtain⟨hs,hh,r0,ri,rj,t1,t2,e1,e2,hG⟩:=hB;have key:=zs9 (P:=P) (Q:=Q) (S:=S) (ops:=l.toArray) (st3.length+2) hs hQ st so [] a w.drew hS c0 hh ?_ (h l.toArray hG)
 ·refine wp_region_any hm (zw0 (S:=S) (late:=[]) _ _ _ _ ?_)
  have e:l.toArray.size=st3.length+2+st.length:=(by simp[hlen]);rw[<-e]at key;simpa [Zr] using key
 intro a' w' hE hS'
 have step:∀(x y:Nat) (ox oy:Oper),l.toArray[x]?=some ox->l.toArray[y]?=some oy->Region.ready .any l.toArray (Zr l.toArray.size (st.map (·.2)++[x]))=[y]->zw9 l.toArray (st.map (·.2)++[x]++[y]) st3=true->Region.ready .any l.toArray (Zr l.toArray.size (st.map (·.2)++[x]++[y]++st3.map (·.2)))=[]->
   wpPair P l.toArray S Q so3 ox oy a' w'->wpOp P l.toArray Q x (λa1 w1=>(x ∉ ([]:List Nat)->S w1)/\zx7 P l.toArray Q S [] (st3.length+1) ((Zr l.toArray.size ([]++st.map (·.2))).setIfInBounds x true) a1 w1) a' w':=by
  intro x y ox oy hx hy h1 h2 h3 hw;refine wpOp_mono (λa1 w1 hk=>⟨λ_=>hk.1,?_⟩) (Uf hx hw);have e1:(Zr l.toArray.size ([]++st.map (·.2))).setIfInBounds x true=Zr l.toArray.size (st.map (·.2)++[x]):=(by rw[Yu];rfl);rw[e1];refine⟨λh0=>(by rw[h1]at h0;cases h0),λz hz=>?_⟩;rw[h1]at hz;simp only[List.mem_singleton]at hz;subst hz;refine wpOp_mono (λa2 w2 b0=>⟨λ_=>b0.1,?_⟩) (Uf hy hk.2);have e2:(Zr l.toArray.size (st.map (·.2)++[x])).setIfInBounds z true=Zr l.toArray.size (st.map (·.2)++[x]++[z]):=(Yu _ _ _).symm;rw[e2];have:=zs9 (P:=P) (Q:=Q) (S:=S) (ops:=l.toArray) (E:=λa3 w3=>Q .normal a3 w3) 0 hs hQ st3 so3 (st.map (·.2)++[x]++[z]) a2 w2 b0.1 a0 h2 (λa3 w3 hE3 _=>⟨h3,hE3⟩) b0.2;simpa using this
 refine⟨λh0=>?_,λz hz=>?_⟩
 ·simp only[List.nil_append]at h0;rw[r0]at h0;cases h0
 simp only[List.nil_append]at hz;rw[r0]at hz;simp only[List.mem_cons,List.not_mem_nil,or_false]at hz;rcases hz with rfl|rfl
 ·exact step _ j oi oj hi hj ri t1 e1 hE.1
 exact step _ i oj oi hj hi rj t2 e2 hE.2
end
section
variable{P:Program}{Q:Exit->Act->World->Prop}{S:World->Prop}
def zy3(P:Program)(ops:Array Oper)(S:World->Prop)(Q:Exit->Act->World->Prop)(so:List (Nat×Oper))(ox:Oper)(a:Act)(w:World):Prop:=
 wpList P ops (Exit.then (λa1 w1=>S w1/\Ju P ops S Q (λa3 w3=>Q .normal a3 w3) so a1 w1) Q) [ox] a w
def Jo{id:Nat}{a:Act}{w:World}{l:List Oper}(S:World->Prop)(st:List (Nat×Nat))(i j:Nat)(sti stj:List (Nat×Nat))(hm:P.follows .mixedOrders=true)
  (hB:(Region.noSelect l.toArray && (zw9 l.toArray [] st && (decide (Region.ready .any l.toArray (Zr l.toArray.size (st.map (·.2)))=[i,j]) && (zw9 l.toArray (st.map (·.2)++[i]) sti && (zw9 l.toArray (st.map (·.2)++[j]) stj && (decide (Region.ready .any l.toArray (Zr l.toArray.size (st.map (·.2)++[i]++sti.map (·.2)))=[]) && decide (Region.ready .any l.toArray (Zr l.toArray.size (st.map (·.2)++[j]++stj.map (·.2)))=[])))))))=true)
  (hlen:l.length=sti.length+1+st.length) (hlen':stj.length=sti.length) (so soi soj:List (Nat×Oper)) (oi oj:Oper) (hso:st.map (λp=>(p.1,l.toArray[p.2]?))=so.map (λp=>(p.1,some p.2))) (hsoi:sti.map (λp=>(p.1,l.toArray[p.2]?))=soi.map (λp=>(p.1,some p.2))) (hsoj:stj.map (λp=>(p.1,l.toArray[p.2]?))=soj.map (λp=>(p.1,some p.2))) (hi:l.toArray[i]?=some oi) (hj:l.toArray[j]?=some oj)
  (hQ:∀c a d v w,Q (.panic c) (Act.put a d v) w->Q (.panic c) a w) (hS:S w.drew)
  (h:∀ops:Array Oper,Ju P ops S Q (λa' w'=>zy3 P ops S Q soi oi a' w'/\zy3 P ops S Q soj oj a' w') so a w.drew):(Code.region id l.toArray true).wp P Q a w:=by
 simp only[Bool.and_eq_true,decide_eq_true_eq]at hB;obtain⟨hs,hh,r0,t1,t2,e1,e2⟩:=hB;have key:=zs9 (P:=P) (Q:=Q) (S:=S) (ops:=l.toArray) (sti.length+1) hs hQ st so [] a w.drew hS hso hh ?_ (h l.toArray)
 ·refine wp_region_any hm (zw0 (S:=S) (late:=[]) _ _ _ _ ?_)
  have e:l.toArray.size=sti.length+1+st.length:=(by simp[hlen]);rw[<-e]at key;simpa [Zr] using key
 ·intro a' w' hE hS'
  have step:∀(x:Nat) (ox:Oper) (stx:List (Nat×Nat)) (sox:List (Nat×Oper)),l.toArray[x]?=some ox->stx.length=sti.length->stx.map (λp=>(p.1,l.toArray[p.2]?))=sox.map (λp=>(p.1,some p.2))->zw9 l.toArray (st.map (·.2)++[x]) stx=true->Region.ready .any l.toArray (Zr l.toArray.size (st.map (·.2)++[x]++stx.map (·.2)))=[]->
    zy3 P l.toArray S Q sox ox a' w'->wpOp P l.toArray Q x (λa1 w1=>(x ∉ ([]:List Nat)->S w1)/\zx7 P l.toArray Q S [] sti.length ((Zr l.toArray.size ([]++st.map (·.2))).setIfInBounds x true) a1 w1) a' w':=by
   intro x ox stx sox hx hl hsox h2 h3 hw;refine wpOp_mono (λa1 w1 hk=>⟨λ_=>hk.1,?_⟩) (Uf hx hw);have e1:(Zr l.toArray.size ([]++st.map (·.2))).setIfInBounds x true=Zr l.toArray.size (st.map (·.2)++[x]):=(by rw[Yu];rfl);rw[e1];have:=zs9 (P:=P) (Q:=Q) (S:=S) (ops:=l.toArray) (E:=λa3 w3=>Q .normal a3 w3) 0 hs hQ stx sox (st.map (·.2)++[x]) a1 w1 hk.1 hsox h2 (λa3 w3 hE3 _=>⟨h3,hE3⟩) hk.2;rw[<-hl];simpa using this
  refine⟨λh0=>?_,λz hz=>?_⟩
  ·simp only[List.nil_append]at h0;rw[r0]at h0;cases h0
  ·simp only[List.nil_append]at hz
   rw[r0]at hz;simp only[List.mem_cons,List.not_mem_nil,or_false]at hz;rcases hz with rfl|rfl
   ·exact step _ oi sti soi hi rfl hsoi t1 e1 hE.1
   ·exact step _ oj stj soj hj hlen' hsoj t2 e2 hE.2
end
def Tryz.infoNode6:(Tryz.prog.info? 121).map (·.size)=some 6:=by kernel_rfl
section
variable{w0 w:World}{Xb T B Fb Pb Lb:Nat}{wv clv chv bv vv:Value}{acc:List Fl.Node}{lvs:List Value}{S:Nat->Prop}{p:Fl.Prog}{vs:List Int}
def zu5(h:Yv w0 w Xb T B Fb wv acc lvs)(hF:Xy w0 Fb Pb Lb clv chv bv vv S p vs){v:Value}{a:Fl.Atom}(ha:Yj S w0 v a)(ho:Fl.AtomOk vs.length a)(hv:vs.length<=100)(hn:acc.length<=100000000):
  Calls prog 192 #[.pointer (some ⟨Xb,0,none⟩),v] w (Xt (λ_=>False) w0 w Xb T B Fb wv acc lvs (Fl.wAtom p vs acc a)):=by
 have hin:zs2 vs a:=λhv=>by unfold Fl.AtomOk at ho;rwa [if_pos hv]at ho
 obtain⟨al,hal,eal⟩:=Jx hF.lv.lv hF.ok.2 hin;have hpv:zz3 S w0 v ⟨-1,a,a⟩:=.inl ⟨rfl,ha⟩;have hex:Fl.ExprOk vs.length ⟨-1,a,a⟩:=⟨by show (-1:Int)<= -1;decide,by show (-1:Int)<=4;decide,ho,ho⟩
 have evl:Fl.valLv p vs ⟨-1,a,a⟩=(al:Int):=by unfold Fl.valLv;rw[if_pos (by show (-1:Int)<0;decide)];exact eal
 obtain⟨vb,rfl,hSv,hc⟩:=ha;have hvb:vb<w0.heap.size:=hF.hS vb hSv;have be:=h.be;have hbz:=be.size;have hX:=h.hz
 have HS:Hid (∀V,Below w.heap.size w V->V.cell? ⟨vb,0,none⟩=some (.int .i64 (if a.var then 1 else 0))/\V.cell? ⟨vb,1,none⟩=some (.int .i64 a.v)/\V.cell? ⟨Xb,0,none⟩=some (.pointer (some ⟨Fb,0,none⟩))):=λV hV=>by
  have hV0:Below w0.heap.size w0 V:=be.trans (hV.mono hbz);exact⟨(hV0.cell (p:=⟨vb,0,none⟩) hvb).trans (hc.c 0 (by omega)),(hV0.cell (p:=⟨vb,1,none⟩) hvb).trans (hc.c 1 (by omega)),(h.below hV).c0⟩
 have HLV:Hid (∀V,Below w.heap.size w V->Calls prog 191 #[.pointer (some ⟨Fb,0,none⟩),.pointer (some ⟨vb,0,none⟩)] V λr w'=>r=.returned (.int .i64 (al:Nat))/\Below V.heap.size V w'):=λV hV=>by
  have hV0:Below w0.heap.size w0 V:=be.trans (hV.mono hbz);have h5:=zw7 (hF.below hV0) (hpv.kept (λ_ h=>h) (λb hb=>hV0.block b (hF.hS b hb))) hex;rw[evl]at h5;exact h5
 obtain⟨kd,hkd⟩:∃kd:Int,kd=if a.var then 1 else 0:=⟨_,rfl⟩
 have hkd2:(kd==2)=false:=by rw[hkd];cases a.var<;>decide
 obtain⟨nd,hnd⟩:∃nd:Fl.Node,nd=⟨if a.var then 1 else 0,Fl.atomLv p vs a,a.v,0,0,[]⟩:=⟨_,rfl⟩;have hfit:Fl.fits nd:=by
  have h6:=hF.lv.lv.n6
  have hav:a.v<=999999999:=by unfold Fl.AtomOk at ho;split at ho<;>omega
  have hk01:kd=0\/kd=1:=by rw[hkd];cases a.var<;>simp
  have hR:∀z:Int,0<=z->z<=999999999->Fl.inR z=true:=λz h1 h2=>by simp only[Fl.inR,Bool.and_eq_true,decide_eq_true_eq];omega
  rw[hnd,eal,<-hkd];exact⟨hR _ (by rcases hk01 with h|h<;>(show 0<=kd;omega)) (by rcases hk01 with h|h<;>(show kd<=_;omega)),hR _ (by show (0:Int)<=(al:Int);omega) (by show (al:Int)<=_;omega),hR _ (by show (0:Int)<=(a.v:Int);omega) (by show (a.v:Int)<=_;omega),hR _ (by show (0:Int)<=0;decide) (by show (0:Int)<=_;decide),hR _ (by show (0:Int)<=0;decide) (by show (0:Int)<=_;decide),by simp,by simp⟩
 have HNM:Hid (∀V,Below w.heap.size w V->Calls prog 158 #[.pointer (some ⟨Xb,0,none⟩),.agg #[.int .i64 kd,.int .i64 al,.int .i64 a.v,.int .i64 0,.int .i64 0,.slice none 0 0]] V (Xt (λp=>p.2=[]) w0 V Xb T B Fb wv acc lvs (Fl.wAtom p vs acc a))):=λV hV=>by
  have h5:=zx4 (lvn:=.slice none 0 0) (h.below hV) hfit (by rw[hnd];exact⟨none,0,rfl,by simp,by simp[maxLen],λhh=>absurd rfl hh⟩) (λhh=>by rw[hnd]at hh;exact absurd rfl hh) hn;unfold ndV at h5;rw[hnd]at h5;simp only at h5;rw[<-hkd,eal]at h5;unfold Fl.wAtom;rw[<-hkd,eal];refine h5.mono ?_;rintro e W ⟨h6,wv',lvs',h7,h8,h9⟩;refine⟨h6,wv',lvs',h7,h8,λp hp=>?_⟩;rcases h9 p hp with h1|h1|h1|h1
  ·exact .inl h1
  ·exact .inr (.inl (by rw[h1]))
  ·exact .inr (.inr (.inl h1))
  ·exact .inr (.inr (.inr h1))
 rw[<-hkd]at HS;generalize Fl.wAtom p vs acc a=res at*;generalize a.v=av at*;clear hin eal hpv hex evl hc ho hkd hnd hfit;unfold ptr
 go_enter func192,ntmps192
 go_wp2_with fail
 go_cut [5] (λq wc=>∃nb,q=.pointer (some ⟨nb,0,none⟩)/\Below w.heap.size w wc/\nb<wc.heap.size/\wc.heap[nb]?=some (.cells #[.int .i64 kd,.int .i64 al,.int .i64 av,.int .i64 0,.int .i64 0,.slice none 0 0] 121 (0,0)))
 case first=>
  refine Jo (λV=>Below w.heap.size w V/\V.cell? ⟨vb,0,none⟩=some (.int .i64 kd)/\V.cell? ⟨vb,1,none⟩=some (.int .i64 av)/\V.cell? ⟨Xb,0,none⟩=some (.pointer (some ⟨Fb,0,none⟩))) [(0,0),(0,1),(0,2),(0,3),(0,4),(0,5),(0,6),(0,7),(0,8),(0,10),(0,11),(0,12),(0,13)] 9 15 [(0,14),(1,15),(1,16)] [(1,9),(0,14),(1,16)] (by kernel_rfl) (by kernel_rfl) rfl rfl [(_,_),(_,_),(_,_),(_,_),(_,_),(_,_),(_,_),(_,_),(_,_),(_,_),(_,_),(_,_),(_,_)] [(_,_),(_,_),(_,_)] [(_,_),(_,_),(_,_)] _ _ rfl rfl rfl rfl rfl (λc a d v w h=>by cases d<;>exact h) ⟨(Below.refl _ _).drew,HS.out _ (Below.refl _ _).drew⟩ (λops=>?_);simp only[List.getElem_toArray,List.getElem_cons_succ,List.getElem_cons_zero]
  iterate 13 refine Ye rfl (kE (by rintro _ ⟨_,_,_,_⟩;go_simp<;>rfl) (by go_simp<;>rfl) ?_)
  refine Vx ⟨⟨(Below.refl _ _).drew,HS.out _ (Below.refl _ _).drew⟩,?_,?_⟩
  ·unfold zy3
   go_wp2_with fail
   refine(HLV.out _ (Below.refl _ _).drew).mono ?_;rintro e1 W1 ⟨rfl,hB1⟩;have HB1:Hid (Below w.heap.size w W1):=(Below.refl _ _).drew.trans hB1;clear hB1
   go_wp2_with fail
   refine⟨⟨HB1.out,HS.out _ HB1.out⟩,?_⟩;refine Ye rfl (kE (by rintro _ ⟨_,_,_,_⟩;go_simp<;>rfl) (by go_simp<;>rfl) ?_);refine Xl ?_
   go_wp2_with fail
   refine⟨⟨HB1.out.alloc HB1.out.size _,HS.out _ (HB1.out.alloc HB1.out.size _)⟩,?_⟩;refine Xl ?_
   go_wp2_with fail
   refine⟨⟨HB1.out.alloc HB1.out.size _,HS.out _ (HB1.out.alloc HB1.out.size _)⟩,?_⟩;refine Vx ⟨⟨HB1.out.alloc HB1.out.size _,HS.out _ (HB1.out.alloc HB1.out.size _)⟩,?_⟩;rename_i hmeet;refine hmeet _ _ ?_
   go_meet
   case rel=>exact⟨_,rfl,HB1.out.alloc HB1.out.size _,by simp,heap_alloc_last _ _⟩
  ·unfold zy3
   obtain⟨W0,hW0⟩:∃W0,W0=(w.alloc (.cells #[.int .i64 0,.int .i64 0,.int .i64 0,.int .i64 0,.int .i64 0,.slice none 0 0] 121)).drew:=⟨_,rfl⟩;have HB0:Hid (Below w.heap.size w W0):=(by show Below _ _ _;rw[hW0];exact bA.drew);have HR0:Hid (W0.heap[w.heap.size]?=some (.cells #[.int .i64 0,.int .i64 0,.int .i64 0,.int .i64 0,.int .i64 0,.slice none 0 0] 121 (0,0))):=(by show _=_;rw[hW0];exact heap_alloc_last w _);have hz0:w.heap.size<W0.heap.size:=(by rw[hW0];simp)
   go_wp2_with fail
   rw[<-hW0];clear hW0;refine⟨⟨HB0.out,HS.out _ HB0.out⟩,?_⟩;refine Xl ?_
   go_wp2_with fail
   refine(HLV.out _ HB0.out).mono ?_;rintro e1 W1 ⟨rfl,hB1⟩;have HB1:Hid (Below w.heap.size w W1):=HB0.out.trans (hB1.mono HB0.out.size);have HR1:Hid (W1.heap[w.heap.size]?=some (.cells #[.int .i64 0,.int .i64 0,.int .i64 0,.int .i64 0,.int .i64 0,.slice none 0 0] 121 (0,0))):=(hB1.block _ hz0).trans HR0.out;have hz1:w.heap.size<W1.heap.size:=Nat.lt_of_lt_of_le hz0 hB1.size;clear hB1 HR0 HB0
   go_wp2_with fail
   refine⟨⟨HB1.out,HS.out _ HB1.out⟩,?_⟩;refine Ye rfl (kE (by rintro _ ⟨_,_,_,_⟩;go_simp<;>rfl) (by go_simp<;>rfl) ?_);refine Xl ?_;refine Vq rfl (.tmp 5) (.tmp 20) 121 rfl w.heap.size rfl _ #[.int .i64 kd,.int .i64 al,.int .i64 av,.int .i64 0,.int .i64 0,.slice none 0 0] rfl 121 HR1.out Tryz.infoNode6 rfl (by simp[Value.oneCell']) ?_;have hrow:=setRow_heap W1 w.heap.size _ #[.int .i64 kd,.int .i64 al,.int .i64 av,.int .i64 0,.int .i64 0,.slice none 0 0] _ _ HR1.out;have hrb:=below_setRow HB1.out (Nat.le_refl _) #[.int .i64 kd,.int .i64 al,.int .i64 av,.int .i64 0,.int .i64 0,.slice none 0 0];generalize W1.setRow w.heap.size #[.int .i64 kd,.int .i64 al,.int .i64 av,.int .i64 0,.int .i64 0,.slice none 0 0]=W2 at*;have HR2:Hid (W2.heap[w.heap.size]?=some (.cells #[.int .i64 kd,.int .i64 al,.int .i64 av,.int .i64 0,.int .i64 0,.slice none 0 0] 121 (0,0))):=hrow;have HB2:Hid (Below w.heap.size w W2):=hrb;have hz2:w.heap.size<W2.heap.size:=by
    rcases Nat.lt_or_ge w.heap.size W2.heap.size with h|h
    ·exact h
    ·rw[Array.getElem?_eq_none h]at hrow;cases hrow
   clear hrow hrb
   go_wp2_with fail
   refine⟨⟨HB2.out,HS.out _ HB2.out⟩,?_⟩;refine Vx ⟨⟨HB2.out,HS.out _ HB2.out⟩,?_⟩;rename_i hmeet;refine hmeet _ _ ?_
   go_meet
   case rel=>exact⟨_,rfl,HB2.out,hz2,HR2.out⟩
 case rest=>
  obtain⟨nb,rfl,hbc,hnz,hnr⟩:=hcut;obtain⟨s0,s1,s2⟩:=HS.out _ hbc;have HBC:Hid (Below w.heap.size w wc):=hbc
  have q:∀j u,(#[Value.int .i64 kd,.int .i64 al,.int .i64 av,.int .i64 0,.int .i64 0,.slice none 0 0]:Array Value)[j]?=some u->wc.cell? ⟨nb,j,none⟩=some u:=λj u hj=>by simp only[World.cell?,hnr];exact hj
  have q0:=q 0 _ rfl;have q1:=q 1 _ rfl;have q2:=q 2 _ rfl;have q3:=q 3 _ rfl;have q4:=q 4 _ rfl;have q5:=q 5 _ rfl;clear q hnr hbc
  go_wp2_with fail
  refine(HNM.out _ HBC.out).mono ?_;rintro e W2 ⟨rfl,wv',lvs',h1,h2,h3⟩
  have HE:Hid (Xt (λ_=>False) w0 w Xb T B Fb wv acc lvs res (.returned (.int .i64 res.1)) W2):=⟨rfl,wv',lvs',h1,(Yp.of_below HBC.out).trans h2,λp hp=>by
   rcases h3 p hp with h|h|h|h
   ·exact .inl h
   ·exact .inr (.inr (.inl h))
   ·exact .inr (.inr (.inl h))
   ·exact .inr (.inr (.inr λb hb=>Nat.le_trans HBC.out.size (h b hb)))⟩
  clear h1 h2 h3;go_wp2;go_ret;exact HE.out
end
def Yv.priv{w0 w:World}{Xb T B Fb:Nat}{wv:Value}{acc:List Fl.Node}{lvs:List Value}(h:Yv w0 w Xb T B Fb wv acc lvs){nb:Nat}(hx:Xb<nb){cs:Array Value}{fr:Nat×Nat}(hn:w.heap[nb]?=some (.cells cs 121 fr))(ho:some nb≠wv.ownBlock)(j:Nat)(v:Value):Yv w0 (w.setCell ⟨nb,j,none⟩ v) Xb T B Fb wv acc lvs:=by
 obtain⟨x1,x2,x3⟩:=h.x0;have gs:w.grownBy (w.setCell ⟨nb,j,none⟩ v) (some nb):=⟨rfl,rfl,rfl,by rw[Zu];exact Nat.le_refl _,λk hk hn=>Zx _ _ _ _ _ (λe=>hn (by rw[e]))⟩
 have hne:∀c,c<=Xb->some c≠some nb:=λc hc=>by simp;omega
 have hli:∀p,p∈Ym acc lvs->p.2≠[]->∀b,p.1.ownBlock=some b->b≠nb:=λp hp hn2 b hb e=>by
  obtain⟨cs',fr',h5⟩:=((h.li p hp).2 hn2 b hb).2;rw[e,hn]at h5;injection h5 with h5;injection h5 with _ h6;exact absurd h6 (by decide)
 refine⟨h.x0,by rw[Zu];exact h.hz,gs.cell h.c0 (hne Xb (Nat.le_refl _)),gs.cell h.c1 (hne Xb (Nat.le_refl _)),gs.cell h.c2 (hne Xb (Nat.le_refl _)),λi=>by rw[World.frozen?_setCell];exact h.fz i,h.se.kept gs (hne T (by omega)) (hne B (by omega)),h.hl,h.ow.kept gs (.inr (λhh=>ho hh.symm)),λp hp=>⟨(h.li p hp).1.set (λhn2 hh=>hli p hp hn2 nb hh rfl),λhn2 b hb=>⟨((h.li p hp).2 hn2 b hb).1,((h.li p hp).2 hn2 b hb).2.of (Zx _ _ _ _ _ (hli p hp hn2 b hb))⟩⟩,h.be.setCell (by show w0.heap.size<=nb;omega) _⟩
def ze5{w:World}{nb:Nat}{cs:Array Value}{t:TypeId}{fr:Nat×Nat}(h:w.heap[nb]?=some (.cells cs t fr))(j:Nat)(v:Value):∃cs',(w.setCell ⟨nb,j,none⟩ v).heap[nb]?=some (.cells cs' t fr):=by
 have hl:nb<w.heap.size:=by
  rcases Nat.lt_or_ge nb w.heap.size with h'|h'
  ·exact h'
  ·rw[Array.getElem?_eq_none h']at h;cases h
 have h2:w.heap[nb]=.cells cs t fr:=by rw[Array.getElem?_eq_getElem hl]at h;injection h
 refine⟨cs.setIfInBounds j v,?_⟩
 have hl2:nb<(w.setCell ⟨nb,j,none⟩ v).heap.size:=by rw[Zu];exact hl
 rw[Array.getElem?_eq_getElem hl2];simp only[World.setCell];rw[Array.getElem_modify];simp[h2]
def Yp.set{w w':World}{Xb B:Nat}{wv wv':Value}(h:Yp w w' Xb B wv wv'){nb:Nat}(hn:w.heap.size<=nb)(j:Nat)(v:Value):Yp w (w'.setCell ⟨nb,j,none⟩ v) Xb B wv wv':=
 ⟨h.os,h.tp,h.ou,by rw[Zu];exact h.sz,λc h1 h2 h3 h4=>(Zx _ _ _ _ _ (by omega)).trans (h.bl c h1 h2 h3 h4),h.ow⟩
def zow(acc:List Fl.Node)(nd:Fl.Node):acc.length<=(Fl.put1 acc nd).2.length/\(Fl.put1 acc nd).2.length<=acc.length+1/\0<=(Fl.put1 acc nd).1/\(Fl.put1 acc nd).1<=acc.length:=by
 unfold Fl.put1
 split
 ·rename_i i hi
  have:=List.mem_of_find?_eq_some hi;rw[List.mem_range]at this;simp only;omega
 ·simp
section
variable{w0 w:World}{Xb T B Fb Pb Lb:Nat}{wv clv chv bv vv:Value}{acc:List Fl.Node}{lvs:List Value}{S:Nat->Prop}{p:Fl.Prog}{vs:List Int}
def yz8(h:Yv w0 w Xb T B Fb wv acc lvs)(hF:Xy w0 Fb Pb Lb clv chv bv vv S p vs){v:Value}{e:Fl.Expr}(he:zz3 S w0 v e)(ho:Fl.ExprOk vs.length e)(hv:vs.length<=100)(hn:acc.length<=50000000):
  Calls prog 192 #[.pointer (some ⟨Xb,0,none⟩),v] w (Xt (λ_=>False) w0 w Xb T B Fb wv acc lvs (Fl.wVal p vs acc e)):=by
 have hpv:=he;rcases he with⟨h1,h2⟩|⟨h1,vb,x,y,rfl,hSv,hc,h5,h6⟩
 ·have e1:Fl.wVal p vs acc e=Fl.wAtom p vs acc e.a:=by unfold Fl.wVal;rw[if_pos (by omega)]
  rw[e1];exact zu5 h hF h2 ho.2.2.1 hv (by omega)
 ·obtain⟨al,hal,eal⟩:=zy9 hF.lv.lv hF.ok ho
  have hvb:vb<w0.heap.size:=hF.hS vb hSv;have be:=h.be;have hbz:=be.size;have hX:=h.hz
  have HS:Hid (∀V,Below w.heap.size w V->V.cell? ⟨vb,0,none⟩=some (.int .i64 2)/\V.cell? ⟨vb,1,none⟩=some (.int .i64 e.op)/\V.cell? ⟨Xb,0,none⟩=some (.pointer (some ⟨Fb,0,none⟩))):=λV hV=>by
   have hV0:Below w0.heap.size w0 V:=be.trans (hV.mono hbz);exact⟨(hV0.cell (p:=⟨vb,0,none⟩) hvb).trans (hc.c 0 (by omega)),(hV0.cell (p:=⟨vb,1,none⟩) hvb).trans (hc.c 1 (by omega)),(h.below hV).c0⟩
  have HXY:Hid (∀V,Below w0.heap.size w0 V->V.cell? ⟨vb,2,none⟩=some x/\V.cell? ⟨vb,3,none⟩=some y):=λV hV=>⟨(hV.cell (p:=⟨vb,2,none⟩) hvb).trans (hc.c 2 (by omega)),(hV.cell (p:=⟨vb,3,none⟩) hvb).trans (hc.c 3 (by omega))⟩
  have HLV:Hid (∀V,Below w.heap.size w V->Calls prog 191 #[.pointer (some ⟨Fb,0,none⟩),.pointer (some ⟨vb,0,none⟩)] V λr w'=>r=.returned (.int .i64 (al:Nat))/\Below V.heap.size V w'):=λV hV=>by
   have hV0:Below w0.heap.size w0 V:=be.trans (hV.mono hbz);have h5:=zw7 (hF.below hV0) (hpv.kept (λ_ h=>h) (λb hb=>hV0.block b (hF.hS b hb))) ho;rw[eal]at h5;exact h5
  have HVA:Hid (∀V wv' lvs',Yv w0 V Xb T B Fb wv' acc lvs'->Calls prog 192 #[.pointer (some ⟨Xb,0,none⟩),x] V (Xt (λ_=>False) w0 V Xb T B Fb wv' acc lvs' (Fl.wAtom p vs acc e.a))):=λV wv' lvs' hV=>zu5 hV hF h5 ho.2.2.1 hv (by omega);obtain⟨ra,hra⟩:∃ra,ra=Fl.wAtom p vs acc e.a:=⟨_,rfl⟩;have hla:ra.2.length<=acc.length+1/\0<=ra.1/\ra.1<=acc.length:=(by rw[hra];unfold Fl.wAtom;exact(zow _ _).2);have HVB:Hid (∀V wv' lvs',Yv w0 V Xb T B Fb wv' ra.2 lvs'->Calls prog 192 #[.pointer (some ⟨Xb,0,none⟩),y] V (Xt (λ_=>False) w0 V Xb T B Fb wv' ra.2 lvs' (Fl.wAtom p vs ra.2 e.b))):=λV wv' lvs' hV=>zu5 hV hF h6 ho.2.2.2 hv (by omega);obtain⟨rb,hrb⟩:∃rb,rb=Fl.wAtom p vs ra.2 e.b:=⟨_,rfl⟩;have hlb:rb.2.length<=ra.2.length+1/\0<=rb.1/\rb.1<=ra.2.length:=(by rw[hrb];unfold Fl.wAtom;exact(zow _ _).2);obtain⟨nd,hnd⟩:∃nd:Fl.Node,nd=⟨2,(al:Int),e.op,ra.1,rb.1,[]⟩:=⟨_,rfl⟩;have HRES:Hid (Fl.wVal p vs acc e=Fl.put1 rb.2 nd):=by
   show _=_;unfold Fl.wVal;rw[if_neg (by omega),<-hra,<-hrb,eal,hnd]
  have hfit:Fl.fits nd:=by
   have h6:=hF.lv.lv.n6;have hop:=ho.2.1
   have hR:∀z:Int,0<=z->z<=999999999->Fl.inR z=true:=λz h1 h2=>by simp only[Fl.inR,Bool.and_eq_true,decide_eq_true_eq];omega
   rw[hnd];exact⟨hR _ (by show (0:Int)<=2;decide) (by show (2:Int)<=_;decide),hR _ (by show (0:Int)<=(al:Int);omega) (by show (al:Int)<=_;omega),hR _ (by show (0:Int)<=e.op;omega) (by show e.op<=_;omega),hR _ (by show (0:Int)<=ra.1;omega) (by show ra.1<=_;omega),hR _ (by show (0:Int)<=rb.1;omega) (by show rb.1<=_;omega),by simp,by simp⟩
  have HNM:Hid (∀V wv' lvs',Yv w0 V Xb T B Fb wv' rb.2 lvs'->Calls prog 158 #[.pointer (some ⟨Xb,0,none⟩),.agg #[.int .i64 2,.int .i64 al,.int .i64 e.op,.int .i64 ra.1,.int .i64 rb.1,.slice none 0 0]] V (Xt (λp=>p.2=[]) w0 V Xb T B Fb wv' rb.2 lvs' (Fl.put1 rb.2 nd))):=λV wv' lvs' hV=>by
   have h5:=zx4 (lvn:=.slice none 0 0) hV hfit (by rw[hnd];exact⟨none,0,rfl,by simp,by simp[maxLen],λhh=>absurd rfl hh⟩) (λhh=>by rw[hnd]at hh;exact absurd rfl hh) (by omega);unfold ndV at h5;rw[hnd]at h5⊢;refine h5.mono ?_;rintro e W ⟨h6,wv',lvs',h7,h8,h9⟩;refine⟨h6,wv',lvs',h7,h8,λp hp=>?_⟩;rcases h9 p hp with h1|h1|h1|h1
   ·exact .inl h1
   ·exact .inr (.inl (by rw[h1]))
   ·exact .inr (.inr (.inl h1))
   ·exact .inr (.inr (.inr h1))
  rw[HRES.out];generalize Fl.put1 rb.2 nd=res at*;rw[<-hra]at HVA;rw[<-hrb]at HVB;obtain⟨av,hav⟩:∃av,av=e.op:=⟨_,rfl⟩;rw[<-hav]at HS HNM;obtain⟨na,ac1⟩:=ra;obtain⟨nb2,ac2⟩:=rb;simp only at HVB HNM HVA;have HW:Hid (Yv w0 w Xb T B Fb wv acc lvs):=h;clear hpv hc h5 h6 eal hra hrb hnd hfit HRES hav ho hla hlb h1 hal;unfold ptr
  go_enter func192,ntmps192
  go_wp2_with fail
  go_cut [5] (λq wc=>∃nb,q=.pointer (some ⟨nb,0,none⟩)/\Below w.heap.size w wc/\nb<wc.heap.size/\w.heap.size<=nb/\wc.heap[nb]?=some (.cells #[.int .i64 2,.int .i64 al,.int .i64 av,.int .i64 0,.int .i64 0,.slice none 0 0] 121 (0,0)))
  case first=>
   refine Jo (λV=>Below w.heap.size w V/\V.cell? ⟨vb,0,none⟩=some (.int .i64 2)/\V.cell? ⟨vb,1,none⟩=some (.int .i64 av)/\V.cell? ⟨Xb,0,none⟩=some (.pointer (some ⟨Fb,0,none⟩))) [(0,0),(0,1),(0,2),(0,3),(0,4),(0,5),(0,6),(0,7),(0,8),(0,10),(0,11),(0,12),(0,13)] 9 15 [(0,14),(1,15),(1,16)] [(1,9),(0,14),(1,16)] (by kernel_rfl) (by kernel_rfl) rfl rfl [(_,_),(_,_),(_,_),(_,_),(_,_),(_,_),(_,_),(_,_),(_,_),(_,_),(_,_),(_,_),(_,_)] [(_,_),(_,_),(_,_)] [(_,_),(_,_),(_,_)] _ _ rfl rfl rfl rfl rfl (λc a d v w h=>by cases d<;>exact h) ⟨(Below.refl _ _).drew,HS.out _ (Below.refl _ _).drew⟩ (λops=>?_);simp only[List.getElem_toArray,List.getElem_cons_succ,List.getElem_cons_zero]
   iterate 13 refine Ye rfl (kE (by rintro _ ⟨_,_,_,_⟩;go_simp<;>rfl) (by go_simp<;>rfl) ?_)
   refine Vx ⟨⟨(Below.refl _ _).drew,HS.out _ (Below.refl _ _).drew⟩,?_,?_⟩
   ·unfold zy3
    go_wp2_with fail
    refine(HLV.out _ (Below.refl _ _).drew).mono ?_;rintro e1 W1 ⟨rfl,hB1⟩;have HB1:Hid (Below w.heap.size w W1):=(Below.refl _ _).drew.trans hB1;clear hB1
    go_wp2_with fail
    refine⟨⟨HB1.out,HS.out _ HB1.out⟩,?_⟩;refine Ye rfl (kE (by rintro _ ⟨_,_,_,_⟩;go_simp<;>rfl) (by go_simp<;>rfl) ?_);refine Xl ?_
    go_wp2_with fail
    refine⟨⟨HB1.out.alloc HB1.out.size _,HS.out _ (HB1.out.alloc HB1.out.size _)⟩,?_⟩;refine Xl ?_
    go_wp2_with fail
    refine⟨⟨HB1.out.alloc HB1.out.size _,HS.out _ (HB1.out.alloc HB1.out.size _)⟩,?_⟩;refine Vx ⟨⟨HB1.out.alloc HB1.out.size _,HS.out _ (HB1.out.alloc HB1.out.size _)⟩,?_⟩;rename_i hmeet;refine hmeet _ _ ?_
    go_meet
    case rel=>exact⟨_,rfl,HB1.out.alloc HB1.out.size _,by simp,HB1.out.size,heap_alloc_last _ _⟩
   ·unfold zy3
    obtain⟨W0,hW0⟩:∃W0,W0=(w.alloc (.cells #[.int .i64 0,.int .i64 0,.int .i64 0,.int .i64 0,.int .i64 0,.slice none 0 0] 121)).drew:=⟨_,rfl⟩;have HB0:Hid (Below w.heap.size w W0):=(by show Below _ _ _;rw[hW0];exact bA.drew);have HR0:Hid (W0.heap[w.heap.size]?=some (.cells #[.int .i64 0,.int .i64 0,.int .i64 0,.int .i64 0,.int .i64 0,.slice none 0 0] 121 (0,0))):=(by show _=_;rw[hW0];exact heap_alloc_last w _);have hz0:w.heap.size<W0.heap.size:=(by rw[hW0];simp)
    go_wp2_with fail
    rw[<-hW0];clear hW0;refine⟨⟨HB0.out,HS.out _ HB0.out⟩,?_⟩;refine Xl ?_
    go_wp2_with fail
    refine(HLV.out _ HB0.out).mono ?_;rintro e1 W1 ⟨rfl,hB1⟩;have HB1:Hid (Below w.heap.size w W1):=HB0.out.trans (hB1.mono HB0.out.size);have HR1:Hid (W1.heap[w.heap.size]?=some (.cells #[.int .i64 0,.int .i64 0,.int .i64 0,.int .i64 0,.int .i64 0,.slice none 0 0] 121 (0,0))):=(hB1.block _ hz0).trans HR0.out;have hz1:w.heap.size<W1.heap.size:=Nat.lt_of_lt_of_le hz0 hB1.size;clear hB1 HR0 HB0
    go_wp2_with fail
    refine⟨⟨HB1.out,HS.out _ HB1.out⟩,?_⟩;refine Ye rfl (kE (by rintro _ ⟨_,_,_,_⟩;go_simp<;>rfl) (by go_simp<;>rfl) ?_);refine Xl ?_;refine Vq rfl (.tmp 5) (.tmp 20) 121 rfl w.heap.size rfl _ #[.int .i64 2,.int .i64 al,.int .i64 av,.int .i64 0,.int .i64 0,.slice none 0 0] rfl 121 HR1.out Tryz.infoNode6 rfl (by simp[Value.oneCell']) ?_;have hrow:=setRow_heap W1 w.heap.size _ #[.int .i64 2,.int .i64 al,.int .i64 av,.int .i64 0,.int .i64 0,.slice none 0 0] _ _ HR1.out;have hrb:=below_setRow HB1.out (Nat.le_refl _) #[.int .i64 2,.int .i64 al,.int .i64 av,.int .i64 0,.int .i64 0,.slice none 0 0];generalize W1.setRow w.heap.size #[.int .i64 2,.int .i64 al,.int .i64 av,.int .i64 0,.int .i64 0,.slice none 0 0]=W2 at*;have HR2:Hid (W2.heap[w.heap.size]?=some (.cells #[.int .i64 2,.int .i64 al,.int .i64 av,.int .i64 0,.int .i64 0,.slice none 0 0] 121 (0,0))):=hrow;have HB2:Hid (Below w.heap.size w W2):=hrb;have hz2:w.heap.size<W2.heap.size:=by
     rcases Nat.lt_or_ge w.heap.size W2.heap.size with h|h
     ·exact h
     ·rw[Array.getElem?_eq_none h]at hrow;cases hrow
    clear hrow hrb
    go_wp2_with fail
    refine⟨⟨HB2.out,HS.out _ HB2.out⟩,?_⟩;refine Vx ⟨⟨HB2.out,HS.out _ HB2.out⟩,?_⟩;rename_i hmeet;refine hmeet _ _ ?_
    go_meet
    case rel=>exact⟨_,rfl,HB2.out,hz2,Nat.le_refl _,HR2.out⟩
  case rest=>
   obtain⟨nb,rfl,hbc,hnz,hnw,hnr⟩:=hcut;obtain⟨s0,s1,s2⟩:=HS.out _ hbc;have HBC:Hid (Below w.heap.size w wc):=hbc;have HWC:Hid (Yv w0 wc.drew Xb T B Fb wv acc lvs):=HW.out.below hbc.drew;have HNR:Hid (wc.heap[nb]?=some (.cells #[.int .i64 2,.int .i64 al,.int .i64 av,.int .i64 0,.int .i64 0,.slice none 0 0] 121 (0,0))):=hnr;have hown:∀c,wv.ownBlock=some c->c<w.heap.size:=λc hc=>(HW.out.ow.lt c hc).2
   have HON:Hid (some nb≠wv.ownBlock):=λhh=>by have:=hown nb hh.symm;omega
   clear hnr hbc hown
   go_wp2_with fail
   refine zzv HXY HWC.out.be [(0,0),(0,1),(0,2),(0,3),(0,4),(0,6),(0,7),(0,8),(0,9),(0,10),(1,5),(0,12),(1,11),(1,13),(0,14),(2,15)] [15] [] (by kernel_rfl) (λc a d v w h=>by cases d<;>exact h) (λops _=>?_)
   iterate 10 refine Ze rfl (by rintro _ ⟨_,_⟩;go_simp<;>rfl) (by go_simp<;>rfl) ?_
   refine Zs ?_
   go_wp2_with fail
   refine(HVA.out _ _ _ HWC.out).mono ?_;rintro e1 W1 ⟨rfl,wv1,lvs1,hw1,hst1,hls1⟩;have HL1:Hid (Vf (λ_=>False) wc acc lvs ac1 lvs1):=hls1;have HW1:Hid (Yv w0 W1 Xb T B Fb wv1 ac1 lvs1):=hw1;have HST1:Hid (Yp wc W1 Xb B wv wv1):=(Yp.of_below (Below.refl _ _).drew).trans hst1
   have HO1:Hid (some nb≠wv1.ownBlock):=λhh=>by
    rcases HST1.out.ow with e|⟨g,e,hg⟩
    ·exact HON.out (hh.trans e)
    ·rw[e]at hh;injection hh with hh;omega
   have hnX:nb≠Xb:=(by omega);have hnB:nb≠B:=(by have:=HW.out.x0;omega);have HR1:Hid (W1.heap[nb]?=some (.cells #[.int .i64 2,.int .i64 al,.int .i64 av,.int .i64 0,.int .i64 0,.slice none 0 0] 121 (0,0))):=(HST1.out.bl nb hnz hnX hnB HON.out).trans HNR.out;have hz1:nb<W1.heap.size:=Nat.lt_of_lt_of_le hnz HST1.out.sz;clear hw1 hst1 hls1 HNR HWC
   go_wp2_with fail
   refine⟨HXY.out _ HW1.out.be,?_⟩;refine Ze rfl (by rintro _ ⟨_,_⟩;go_simp<;>rfl) (by go_simp<;>rfl) ?_;refine Zs ?_
   go_wp2_with fail
   refine(HVB.out _ _ _ HW1.out).mono ?_;rintro e2 W2 ⟨rfl,wv2,lvs2,hw2,hst2,hls2⟩;have HL2:Hid (Vf (λ_=>False) wc acc lvs ac2 lvs2):=HL1.out.trans HST1.out.sz hls2;have HW2:Hid (Yv w0 W2 Xb T B Fb wv2 ac2 lvs2):=hw2;have HST2:Hid (Yp w W2 Xb B wv wv2):=((Yp.of_below HBC.out).trans HST1.out).trans hst2
   have HO2:Hid (some nb≠wv2.ownBlock):=λhh=>by
    rcases hst2.ow with e|⟨g,e,hg⟩
    ·exact HO1.out (hh.trans e)
    ·rw[e]at hh;injection hh with hh;omega
   have HR2:Hid (W2.heap[nb]?=some (.cells #[.int .i64 2,.int .i64 al,.int .i64 av,.int .i64 0,.int .i64 0,.slice none 0 0] 121 (0,0))):=(hst2.bl nb hz1 hnX hnB HO1.out).trans HR1.out
   have q:∀j u,(#[Value.int .i64 2,.int .i64 al,.int .i64 av,.int .i64 0,.int .i64 0,.slice none 0 0]:Array Value)[j]?=some u->W2.cell? ⟨nb,j,none⟩=some u:=λj u hj=>by simp only[World.cell?,HR2.out];exact hj
   have fq:∀j,W2.frozen? ⟨nb,j,none⟩=false:=λj=>by simp[World.frozen?,HR2.out]
   have q0:=q 0 _ rfl;have q1:=q 1 _ rfl;have q2:=q 2 _ rfl;have q3:=q 3 _ rfl;have q4:=q 4 _ rfl;have q5:=q 5 _ rfl;have f3:=fq 3;obtain⟨W3,hW3⟩:∃W3,W3=W2.setCell ⟨nb,3,none⟩ (.int .i64 na):=⟨_,rfl⟩;have HW3:Hid (Yv w0 W3 Xb T B Fb wv2 ac2 lvs2):=(by show Yv _ _ _ _ _ _ _ _ _;rw[hW3];exact HW2.out.priv (by omega) HR2.out HO2.out 3 _)
   have qo:∀j,j≠3->W3.cell? ⟨nb,j,none⟩=W2.cell? ⟨nb,j,none⟩:=λj hj=>by rw[hW3];exact World.cell?_setCell_other _ _ _ _ (by intro hh;injection hh with _ h5;omega)
   have r3:W3.cell? ⟨nb,3,none⟩=some (.int .i64 na):=(by rw[hW3];exact World.cell?_setCell_same' _ _ _ (by rw[q3];rfl));have r0:=(qo 0 (by decide)).trans q0;have r1:=(qo 1 (by decide)).trans q1;have r2:=(qo 2 (by decide)).trans q2;have r4:=(qo 4 (by decide)).trans q4;have r5:=(qo 5 (by decide)).trans q5;have f4:W3.frozen? ⟨nb,4,none⟩=false:=(by rw[hW3,World.frozen?_setCell];exact fq 4);have HST3:Hid (Yp w W3 Xb B wv wv2):=(by show Yp _ _ _ _ _ _;rw[hW3];exact HST2.out.set hnw 3 _);have HR3:Hid (∃cs,W3.heap[nb]?=some (.cells cs 121 (0,0))):=(by rw[hW3];exact ze5 HR2.out 3 _);have HE3:Hid (W3=W2.setCell ⟨nb,3,none⟩ (.int .i64 na)):=hW3;obtain⟨W4,hW4⟩:∃W4,W4=W3.setCell ⟨nb,4,none⟩ (.int .i64 nb2):=⟨_,rfl⟩;have HW4:Hid (Yv w0 W4 Xb T B Fb wv2 ac2 lvs2):=by
    obtain⟨cs,hcs⟩:=HR3.out;show Yv _ _ _ _ _ _ _ _ _;rw[hW4];exact HW3.out.priv (by omega) hcs HO2.out 4 _
   have po:∀j,j≠4->W4.cell? ⟨nb,j,none⟩=W3.cell? ⟨nb,j,none⟩:=λj hj=>by rw[hW4];exact World.cell?_setCell_other _ _ _ _ (by intro hh;injection hh with _ h5;omega)
   have p4:W4.cell? ⟨nb,4,none⟩=some (.int .i64 nb2):=(by rw[hW4];exact World.cell?_setCell_same' _ _ _ (by rw[r4];rfl));have p0:=(po 0 (by decide)).trans r0;have p1:=(po 1 (by decide)).trans r1;have p2:=(po 2 (by decide)).trans r2;have p3:=(po 3 (by decide)).trans r3;have p5:=(po 5 (by decide)).trans r5;have HST4:Hid (Yp w W4 Xb B wv wv2):=(by show Yp _ _ _ _ _ _;rw[hW4];exact HST3.out.set hnw 4 _);have HE4:Hid (W4=W3.setCell ⟨nb,4,none⟩ (.int .i64 nb2)):=hW4;clear q fq hw2 hst2 hls2 q0 q1 q2 q4 q5 qo hW3 hW4 po r0 r1 r2 r3 r5 HR3
   go_wp2_with fail
   refine⟨HXY.out _ HW2.out.be,?_⟩;refine Zs ?_
   go_wp2_with fail
   rw[<-HE3.out];clear HE3 q3 f3;refine⟨HXY.out _ HW3.out.be,?_⟩;refine Ze rfl (by rintro _ ⟨_,_⟩;go_simp<;>rfl) (by go_simp<;>rfl) ?_;refine Vl ?_
   go_wp2_with fail
   rw[<-HE4.out];clear HE4 r4 f4;refine Yt ?_
   go_wp2_with fail
   refine(HNM.out _ _ _ HW4.out).mono ?_;rintro e3 W5 ⟨rfl,wv5,lvs5,h1,h2,h3⟩
   have HE:Hid (Xt (λ_=>False) w0 w Xb T B Fb wv acc lvs res (.returned (.int .i64 res.1)) W5):=⟨rfl,wv5,lvs5,h1,HST4.out.trans h2,λp hp=>by
    rcases h3 p hp with h|h|h|h
    ·rcases HL2.out p h with h|h|h|h
     ·exact .inl h
     ·exact h.elim
     ·exact .inr (.inr (.inl h))
     ·exact .inr (.inr (.inr λb hb=>Nat.le_trans HBC.out.size (h b hb)))
    ·exact .inr (.inr (.inl h))
    ·exact .inr (.inr (.inl h))
    ·exact .inr (.inr (.inr λb hb=>Nat.le_trans HST4.out.sz (h b hb)))⟩
   clear h1 h2 h3;go_wp2;go_ret;exact HE.out
end
end Go.Proofs.YtminjljgedopkaaGreatDoor
