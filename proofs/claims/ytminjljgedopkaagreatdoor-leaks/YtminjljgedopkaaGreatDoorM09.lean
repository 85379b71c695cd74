import Derived.Test.YtminjljgedopkaaGreatDoorM08
import Derived.Maps.RangeWalk
set_option linter.all false
set_option maxRecDepth 100000
set_option maxHeartbeats 40000000
namespace Go.Proofs.YtminjljgedopkaaGreatDoor
open Go.RowKit Go.Proofs.Tryz
def Tryz.infoIntW:(Tryz.prog.info? 3).map (λi=>(i.zero,i.size,i.bytes))=some (some (.int .i64 0),1,8):=by kernel_rfl
namespace Fl
def wAll_snoc(W:List Node->Stmt->Int×List Node)(s:Stmt):∀(l:List Stmt) (ws:List Node),wAll W ws (l++[s])=((wAll W ws l).1++[(W (wAll W ws l).2 s).1],(W (wAll W ws l).2 s).2)
 |[],_=>rfl
 |a::l,ws=>by simp only[List.cons_append,wAll,wAll_snoc W s l]
def wAll_len(W:List Node->Stmt->Int×List Node):∀(l:List Stmt) (ws:List Node),(wAll W ws l).1.length=l.length
 |[],_=>rfl
 |a::l,ws=>by simp only[wAll,List.length_cons,wAll_len W l]
end Fl
def ze6{w:World}{base:Nat}{lv:Value}{ns:List Int}(h:w.ownsRow base 3 1 lv ns.length (ns.map (Value.int .i64))):Zy w.heap.size w lv ns:=by
 rcases id h.2 with⟨rfl,h0⟩|⟨g,cap,cur,rfl,hb,hg,hnc,hcm,hcs,ht⟩
 ·exact⟨none,0,by rw[h0],by omega,by rw[h0];simp[maxLen],λhne=>absurd (List.eq_nil_of_length_eq_zero h0) hne⟩
 ·refine⟨_,cap,rfl,by omega,by omega,λ_=>⟨g,0,rfl,(h.lt g rfl).2,λi hi=>?_⟩⟩
  have h4:=h.cells (g:=g) rfl i (.int .i64 (ns.getD i 0)) (by rw[List.getElem?_map,List.getD_eq_getElem?_getD,List.getElem?_eq_getElem hi];rfl)
  have h5:(⟨g,0,none⟩:Addr).add i=⟨g,i,none⟩:=by unfold Addr.add;split<;>simp_all
  rw[h5]at h4;rw[Nat.zero_add];exact h4
def zzz{w:World}{base:Nat}{lv:Value}{ns:List Int}(h:w.ownsRow base 3 1 lv ns.length (ns.map (Value.int .i64))):∀b,lv.ownBlock=some b->base<=b/\Jp w b:=λb hb=>by
 refine⟨(h.lt b hb).1,?_⟩;rcases id h.2 with⟨rfl,h0⟩|⟨g,cap,cur,rfl,hb2,hg,-⟩
 ·cases hb
 ·injection hb with hb
  subst hb;exact⟨cur,_,hg⟩
def yr2{w w':World}{base:Nat}{e:TypeId}{k:Nat}{v:Value}{n:Nat}{xs:List Value}(h:w.ownsRow base e k v n xs)(hv:∀g,v.ownBlock=some g->w'.heap[g]?=w.heap[g]?):w'.ownsRow base e k v n xs:=by
 refine⟨h.1,?_⟩;rcases h.2 with⟨rfl,h0⟩|⟨g,cap,cur,rfl,hb,hg,hr⟩
 ·exact .inl ⟨rfl,h0⟩
 ·exact .inr ⟨g,cap,cur,rfl,hb,by rw[hv g rfl];exact hg,hr⟩
def zqy{w:World}{base:Nat}{v:Value}{n:Nat}{xs:List Value}(h:w.ownsRow base 121 6 v n xs):∀b,v.ownBlock=some b->¬Jp w b:=λb hb hl=>by
 rcases id h.2 with⟨rfl,h0⟩|⟨g,cap,cur,rfl,hb2,hg,-⟩
 ·cases hb
 ·injection hb with hb
  subst hb;obtain⟨cs,fr,h5⟩:=hl;rw[hg]at h5;injection h5 with h5;injection h5 with _ h6;exact absurd h6 (by decide)
def zu6{w:World}{nb:Nat}{cs:Array Value}{t:TypeId}{fr:Nat×Nat}(h:w.heap[nb]?=some (.cells cs t fr))(j:Nat)(v:Value):(w.setCell ⟨nb,j,none⟩ v).heap[nb]?=some (.cells (cs.setIfInBounds j v) t fr):=by
 have hl:nb<w.heap.size:=by
  rcases Nat.lt_or_ge nb w.heap.size with h'|h'
  ·exact h'
  ·rw[Array.getElem?_eq_none h']at h;cases h
 have h2:w.heap[nb]=.cells cs t fr:=by rw[Array.getElem?_eq_getElem hl]at h;injection h
 have hl2:nb<(w.setCell ⟨nb,j,none⟩ v).heap.size:=by rw[Zu];exact hl
 rw[Array.getElem?_eq_getElem hl2];simp only[World.setCell];rw[Array.getElem_modify];simp[h2]
def Yv.other{w0 w w':World}{Xb T B Fb:Nat}{wv:Value}{acc:List Fl.Node}{lvs:List Value}(h:Yv w0 w Xb T B Fb wv acc lvs){row:Option Nat}(hg:w.grownBy w' row)(hr:∀c,row=some c->Xb<c/\wv.ownBlock≠some c/\∀p,p∈Ym acc lvs->p.2≠[]->p.1.ownBlock≠some c):Yv w0 w' Xb T B Fb wv acc lvs:=by
 obtain⟨x1,x2,x3⟩:=h.x0
 have ne:∀c,c<=Xb->some c≠row:=λc hc hh=>by have:=(hr c hh.symm).1;omega
 have how:wv.ownBlock=none\/wv.ownBlock≠row:=by
  cases hw:wv.ownBlock with
  |none=>exact .inl rfl
  |some g=>exact .inr (λhh=>(hr g hh.symm).2.1 hw)
 refine⟨h.x0,Nat.lt_of_lt_of_le h.hz hg.size,hg.cell h.c0 (ne Xb (Nat.le_refl _)),hg.cell h.c1 (ne Xb (Nat.le_refl _)),hg.cell h.c2 (ne Xb (Nat.le_refl _)),λj=>(World.frozen?_of_block (w:=w) (hg.block Xb h.hz (ne Xb (Nat.le_refl _)))).trans (h.fz j),h.se.kept hg (ne T (by omega)) (ne B (by omega)),h.hl,h.ow.kept hg how,λp hp=>?_,h.be.grown hg (by have:=h.hz;omega) (λk hk=>by have:=(hr k hk).1;omega)⟩;obtain⟨k1,k2⟩:=h.li p hp;have hn:p.2≠[]->∀b,p.1.ownBlock=some b->some b≠row:=λh1 b hb hh=>(hr b hh.symm).2.2 p hp h1 hb;exact⟨⟨zox k1.1 hg hn,k1.2⟩,λh1 b hb=>⟨(k2 h1 b hb).1,(k2 h1 b hb).2.of (hg.block b (k2 h1 b hb).2.lt (hn h1 b hb))⟩⟩
def Yp.grown{w w' w'':World}{Xb B:Nat}{wv wv':Value}(h:Yp w w' Xb B wv wv'){row:Option Nat}(hg:w'.grownBy w'' row)(hr:∀c,row=some c->w.heap.size<=c):Yp w w'' Xb B wv wv':=
 ⟨hg.os.trans h.os,hg.tape.trans h.tp,hg.output.trans h.ou,Nat.le_trans h.sz hg.size,λc h1 h2 h3 h4=>(hg.block c (Nat.lt_of_lt_of_le h1 h.sz) (λhh=>by have:=hr c hh.symm;omega)).trans (h.bl c h1 h2 h3 h4),h.ow⟩
structure zwz(w0 w wr:World)(Xb T B Fb nb:Nat)(wv wv':Value)(u:Nat)(acc:List Fl.Node)(lvs:List Value)(ns:List Int)(ac:List Fl.Node)(lvs':List Value)(lv:Value):Prop where
 wi:Yv w0 wr Xb T B Fb wv' ac lvs'
 st:Yp w wr Xb B wv wv'
 ne:some nb≠wv'.ownBlock
 lo:Vf (λ_=>False) w acc lvs ac lvs'
 ll:∀p,p∈Ym ac lvs'->p.2≠[]->∀b,p.1.ownBlock=some b->lv.ownBlock≠some b
 ow:wr.ownsRow (nb+1) 3 1 lv ns.length (ns.map (Value.int .i64))
 nd:wr.heap[nb]?=some (.cells #[.int .i64 7,.int .i64 u,.int .i64 0,.int .i64 0,.int .i64 0,lv] 121 (0,0))
def zwz.next{w0 w wr W1 W2 W3:World}{Xb T B Fb nb:Nat}{wv wv' wv1:Value}{u:Nat}{acc:List Fl.Node}{lvs:List Value}{ns:List Int}{ac ac1:List Fl.Node}{lvs' lvs1:List Value}{lv v':Value}{m:Int}(h:zwz w0 w wr Xb T B Fb nb wv wv' u acc lvs ns ac lvs' lv)(hnw:w.heap.size<=nb)(hX:Xb<nb)(hB:nb≠B)
  (h1:Yv w0 W1 Xb T B Fb wv1 ac1 lvs1) (hs:Yp wr W1 Xb B wv' wv1) (hl:Vf (λ_=>False) wr ac lvs' ac1 lvs1) (hb:Below W1.heap.size W1 W2) (ho:W3.ownsRow (nb+1) 3 1 v' (ns.length+1) (ns.map (Value.int .i64)++[.int .i64 m])) (hg:W2.grownBy W3 lv.ownBlock) (hw:v'.ownBlock=lv.ownBlock\/v'.ownBlock=some W2.heap.size):
  zwz w0 w (W3.setCell ⟨nb,5,none⟩ v') Xb T B Fb nb wv wv1 u acc lvs (ns++[m]) ac1 lvs1 v':=by
 have hxo:=h.wi.x0;have hnz:nb<wr.heap.size:=by
  rcases Nat.lt_or_ge nb wr.heap.size with h'|h'
  ·exact h'
  ·have h5:=h.nd;rw[Array.getElem?_eq_none h']at h5;cases h5
 have hsz:=hs.sz;have hsb:=hb.size;have hsg:=hg.size
 have hlv:∀g,lv.ownBlock=some g->nb<g/\g<wr.heap.size:=λg hh=>by have:=h.ow.lt g hh;omega
 have hne1:some nb≠wv1.ownBlock:=λhh=>by
  rcases hs.ow with e|⟨g,e,hge⟩
  ·exact h.ne (hh.trans e)
  ·rw[e]at hh;injection hh with hh;omega
 have ll1:∀p,p∈Ym ac1 lvs1->p.2≠[]->∀b,p.1.ownBlock=some b->lv.ownBlock≠some b:=λp hp hn b hb2 hh=>by
  rcases hl p hp with h5|h5|h5|h5
  ·exact h.ll p h5 hn b hb2 hh
  ·exact h5
  ·exact hn h5
  ·have:=h5 b hb2;have:=hlv b hh;omega
 have hw2:=h1.below hb
 have how1:∀c,lv.ownBlock=some c->wv1.ownBlock≠some c:=λc hc hh=>by
  rcases hs.ow with e|⟨g,e,hge⟩
  ·exact zqy h.wi.ow c (e.symm.trans hh) (zzz h.ow c hc).2
  ·rw[e]at hh;injection hh with hh;have:=hlv c hc;omega
 have hw3:Yv w0 W3 Xb T B Fb wv1 ac1 lvs1:=hw2.other hg (λc hc=>⟨by have:=hlv c hc;omega,how1 c hc,λp hp hn hh=>ll1 p hp hn c hh hc⟩);have hn3:W3.heap[nb]?=some (.cells #[.int .i64 7,.int .i64 u,.int .i64 0,.int .i64 0,.int .i64 0,lv] 121 (0,0)):=by
  refine(hg.block nb (by omega) (λhh=>by have:=hlv nb hh.symm;omega)).trans ((hb.block nb (by omega)).trans ((hs.bl nb hnz (by omega) hB h.ne).trans h.nd))
 have hst:Yp w W3 Xb B wv wv1:=(((h.st.trans hs).trans (Yp.of_below hb)).grown hg (λc hc=>by have:=hlv c hc;omega));refine⟨hw3.priv hX hn3 hne1 5 v',hst.set hnw 5 v',hne1,h.lo.trans h.st.sz hl,λp hp hn b hb2 hh=>?_,?_,?_⟩
 ·rcases hw with e|e
  ·exact ll1 p hp hn b hb2 (e.symm.trans hh)
  ·rw[e]at hh
   injection hh with hh;have:=((h1.li p hp).2 hn b hb2).2.lt;omega
 ·have h5:(W3.setCell ⟨nb,5,none⟩ v').ownsRow (nb+1) 3 1 v' (ns.length+1) (ns.map (Value.int .i64)++[.int .i64 m]):=ownsRow_setCell_below ho (by simp) v'
  rw[List.length_append,List.map_append];exact h5
 ·exact zu6 hn3 5 v'
section
variable{w0 w:World}{Xb T B Fb Pb Lb:Nat}{wv clv chv bv vv:Value}{acc:List Fl.Node}{lvs:List Value}{S:Nat->Prop}{p:Fl.Prog}{vs:List Int}
def zo6(N:Nat)(hN:N<=20000000)(d:Nat)(St:List Fl.Node->Fl.Stmt->Int×List Fl.Node)(u:Nat)(hu:u<=6)(v:Value)(l:List Fl.Stmt)(hF:Xy w0 Fb Pb Lb clv chv bv vv S p vs)(hl:Zt (d+1) S w0 v l)
  (hst:∀V wv' acc' lvs' pv s,s∈l->Vj (Zt d) S w0 pv s->Yv w0 V Xb T B Fb wv' acc' lvs'->acc'.length<=N->Calls prog 157 #[.pointer (some ⟨Xb,0,none⟩),pv,.int .i64 u] V (Xt (λ_=>False) w0 V Xb T B Fb wv' acc' lvs' (St acc' s)))
  (hbd:∀k,k<=l.length->(Fl.wAll St acc (l.take k)).2.length<=N/\∀n∈(Fl.wAll St acc (l.take k)).1,0<=n/\n<=20000000) (h:Yv w0 w Xb T B Fb wv acc lvs):
  Calls prog 113 #[.pointer (some ⟨Xb,0,none⟩),v,.int .i64 u] w (Xt (λ_=>False) w0 w Xb T B Fb wv acc lvs (Fl.put1 (Fl.wAll St acc l).2 ⟨7,(u:Int),0,0,0,(Fl.wAll St acc l).1⟩)):=by
 obtain⟨ao,cap,rfl,hcap,hcm,h16,hrow⟩:=id hl;have HROW:Hid (l≠[]->∃b off,ao=some ⟨b,off,none⟩/\S b/\∀i,i<l.length->∃p,w0.cell? ⟨b,off+i,none⟩=some p/\Vj (Zt d) S w0 p (l.getD i noS)):=hrow;have HST:Hid (∀V wv' acc' lvs' pv s,s∈l->Vj (Zt d) S w0 pv s->Yv w0 V Xb T B Fb wv' acc' lvs'->acc'.length<=N->Calls prog 157 #[.pointer (some ⟨Xb,0,none⟩),pv,.int .i64 u] V (Xt (λ_=>False) w0 V Xb T B Fb wv' acc' lvs' (St acc' s))):=hst;have HBD:Hid (∀k,k<=l.length->(Fl.wAll St acc (l.take k)).2.length<=N/\∀n∈(Fl.wAll St acc (l.take k)).1,0<=n/\n<=20000000):=hbd;have HH:Hid (Yv w0 w Xb T B Fb wv acc lvs):=h;have HSb:Hid (∀b,S b->b<w0.heap.size):=hF.hS;obtain⟨nb,hnb⟩:∃nb,nb=w.heap.size:=⟨_,rfl⟩;obtain⟨W0,hW0⟩:∃W0,W0=w.alloc (.cells #[.int .i64 7,.int .i64 u,.int .i64 0,.int .i64 0,.int .i64 0,.slice none 0 0] 121):=⟨_,rfl⟩;have HBLK:Hid (zwz w0 w W0 Xb T B Fb nb wv wv u acc lvs [] acc lvs (.slice none 0 0)):=by
  have hb:Below w.heap.size w W0:=(by rw[hW0];exact bA);refine⟨h.below hb,Yp.of_below hb,λhh=>?_,Vf.refl _ _ _ _,λp hp hn b hb2 hh=>(by cases hh),World.ownsRow_nil _ _ _ _,by rw[hW0,hnb];exact heap_alloc_last _ _⟩;have:=(h.ow.lt nb hh.symm).2;omega
 have hXn:Xb<nb:=by rw[hnb];exact h.hz
 have HBn:Hid (nb≠B):=by have:=h.x0;show nb≠B;omega
 have hlI:(l.length:Int)<=16:=by omega
 have HNB:Hid (nb=w.heap.size):=hnb;unfold maxLen at hcm;obtain⟨RES,hRES⟩:∃RES,RES=Fl.put1 (Fl.wAll St acc l).2 ⟨7,(u:Int),0,0,0,(Fl.wAll St acc l).1⟩:=⟨_,rfl⟩;rw[<-hRES];have HRS:Hid (RES=Fl.put1 (Fl.wAll St acc l).2 ⟨7,(u:Int),0,0,0,(Fl.wAll St acc l).1⟩):=hRES;clear hl hrow hst hbd h hF hRES
 go_enter func113,ntmps113
 go_wp2;rw[<-hW0,<-hnb];clear hW0 hnb
 go_loopw [14] (λi wr=>∃(k:Nat) (lv wv':Value) (lvs':List Value),k<=l.length/\i=.int .i64 k/\zwz w0 w wr Xb T B Fb nb wv wv' u acc lvs (Fl.wAll St acc (l.take k)).1 (Fl.wAll St acc (l.take k)).2 lvs' lv) (λi _=>l.length - (intOf i).toNat)
 case atStart=>exact⟨0,_,_,_,by omega,rfl,HBLK.out⟩
 case round=>
  obtain⟨k,lv,wv',lvs',hk,rfl,hblk⟩:=hrel
  by_cases hlt:k<l.length
  ·obtain⟨b,off,rfl,hSb,hcell⟩:=HROW.out (by intro e;rw[e]at hlt;cases hlt)
   obtain⟨pv,hpc,hps⟩:=hcell k hlt;obtain⟨s,hs⟩:∃s,s=l.getD k noS:=⟨_,rfl⟩;have hsk:s=l[k]:=(by rw[hs,List.getD_eq_getElem?_getD,List.getElem?_eq_getElem hlt];rfl);have hmem:s∈l:=(by rw[hsk];exact List.getElem_mem hlt);rw[<-hs]at hps;obtain⟨la,lc,hlv⟩:∃la lc,lv=.slice la (Fl.wAll St acc (l.take k)).1.length lc:=by
    rcases id hblk.ow.2 with⟨rfl,h0⟩|⟨g,cp,cur,rfl,-⟩
    ·exact⟨none,0,by rw[h0]⟩
    ·exact⟨_,cp,rfl⟩
   have HNX:Hid (Fl.wAll St acc (l.take (k+1))=((Fl.wAll St acc (l.take k)).1++[(St (Fl.wAll St acc (l.take k)).2 s).1],(St (Fl.wAll St acc (l.take k)).2 s).2)):=by
    show _=_;rw[List.take_succ_eq_append_getElem hlt,<-hsk,Fl.wAll_snoc]
   have hbk:=(HBD.out k hk).1;have hlk:(Fl.wAll St acc (l.take k)).1.length<=16:=(by rw[Fl.wAll_len,List.length_take];omega);generalize hE:Fl.wAll St acc (l.take k)=E at*;obtain⟨ns,ac⟩:=E;simp only at hblk hlv HNX hbk hlk;have HCALL:Hid (Calls prog 157 #[.pointer (some ⟨Xb,0,none⟩),pv,.int .i64 u] wr.drew (Xt (λ_=>False) w0 wr.drew Xb T B Fb wv' ac lvs' (St ac s))):=HST.out _ _ _ _ _ _ hmem hps (hblk.wi.below (Below.refl _ _).drew) hbk;obtain⟨rr,hR0⟩:∃rr,rr=St ac s:=⟨_,rfl⟩;obtain⟨m,ac1⟩:=rr;have hR:=hR0.symm;clear hR0;have hbz:b<w0.heap.size:=HSb.out b hSb;have f0:wr.cell? ⟨b,off+k,none⟩=some pv:=(hblk.wi.be.cell (p:=⟨b,off+k,none⟩) hbz).trans hpc;have hpt:∃sb,pv=.pointer (some ⟨sb,0,none⟩):=(by obtain⟨sb,-,-,-,e,-⟩:=hps;exact⟨sb,e⟩);obtain⟨sb,rfl⟩:=hpt;have HBK:Hid (zwz w0 w wr Xb T B Fb nb wv wv' u acc lvs ns ac lvs' lv):=hblk;have hnz:nb<wr.heap.size:=by
    rcases Nat.lt_or_ge nb wr.heap.size with h'|h'
    ·exact h'
    ·have h5:=hblk.nd;rw[Array.getElem?_eq_none h']at h5;cases h5
   have HC5:Hid (∀V:World,V.heap[nb]?=wr.heap[nb]?->V.cell? ⟨nb,5,none⟩=some (.slice la ns.length lc)/\V.cell? ⟨nb,0,none⟩=some (.int .i64 7)):=λV hV=>by
    have h5:=hV.trans HBK.out.nd;rw[hlv]at h5;exact⟨by simp only[World.cell?,h5];rfl,by simp only[World.cell?,h5];rfl⟩
   have HSx:Hid (∀V:World,(V.cell? ⟨nb,5,none⟩=some (.slice la ns.length lc)/\V.cell? ⟨nb,0,none⟩=some (.int .i64 7))->(V.cell? ⟨nb,5,none⟩=some (.slice la ns.length lc)/\V.cell? ⟨nb,0,none⟩=some (.int .i64 7))):=λ_ h=>h;have HLV:Hid (lv=.slice la ns.length lc):=hlv;have hltI:(k:Int)<(l.length:Int):=(by omega);have HLT:Hid (k<l.length):=hlt;have HEE:Hid (Fl.wAll St acc (l.take k)=(ns,ac)):=hE;have HRR:Hid (St ac s=(m,ac1)):=hR;rw[hR]at HCALL HNX;simp only at HNX;clear hcell hpc hSb hmem hsk hs hps hblk hE hR hlt hlv
   go_wp2_with fail
   refine Yy HSx (HC5.out _ rfl) [5,6,7] [9] [] (by kernel_rfl) (λc a d v w h=>by cases d<;>exact h) (λops _=>?_)
   iterate 5 refine Ze rfl (by rintro _ ⟨_,_⟩;go_simp<;>rfl) (by go_simp<;>rfl) ?_
   refine Zs ?_
   go_wp2_with fail
   refine HCALL.out.mono ?_;rintro e1 W1 ⟨rfl,wv1,lvs1,hw1,hst1,hls1⟩;have HW1:Hid (Yv w0 W1 Xb T B Fb wv1 ac1 lvs1):=hw1;have HS1:Hid (Yp wr W1 Xb B wv' wv1):=(Yp.of_below (Below.refl _ _).drew).trans hst1;have HL1:Hid (Vf (λ_=>False) wr ac lvs' ac1 lvs1):=hls1;have hn1:W1.heap[nb]?=wr.heap[nb]?:=HS1.out.bl nb hnz (by omega) HBn.out HBK.out.ne;have HO1:Hid (W1.ownsRow (nb+1) 3 1 (.slice la ns.length lc) ns.length (ns.map (Value.int .i64))):=by
    rw[<-HLV.out];refine yr2 HBK.out.ow (λg hg=>HS1.out.bl g (HBK.out.ow.lt g hg).2 (by have:=(HBK.out.ow.lt g hg).1;omega) (λe=>?_) (λhh=>zqy HBK.out.wi.ow g hh.symm (zzz HBK.out.ow g hg).2));have h5:=(HBK.out.ow.lt g hg).1;have h6:=HBK.out.wi.x0;omega
   have hz1:=HS1.out.sz;have HN1:Hid (W1.heap[nb]?=wr.heap[nb]?):=hn1;clear hw1 hst1 hls1 hn1
   go_wp2_with fail
   refine⟨HC5.out _ HN1.out,?_⟩;refine Zs ?_
   go_wp2_with fail
   obtain⟨W2,hW2⟩:∃W2,W2=W1.alloc (.cells #[.int .i64 m] 3):=⟨_,rfl⟩;rw[<-hW2];have HB2:Hid (Below W1.heap.size W1 W2):=(by show Below _ _ _;rw[hW2];exact bA);have tc:∀j u,([.int .i64 m]:List Value)[j]?=some u->W2.cell? ((⟨W1.heap.size,0,none⟩:Addr).add j)=some u:=(by rw[hW2];exact zf6 (w:=W1) (l:=[.int .i64 m]));have hz2:W1.heap.size+1=W2.heap.size:=(by rw[hW2];simp);have HO2:Hid (W2.ownsRow (nb+1) 3 1 (.slice la ns.length lc) ns.length (ns.map (Value.int .i64))):=zpy HO1.out HB2.out;obtain⟨i1,hi1,hy0,hy1,hyb⟩:=info_parts Tryz.infoIntW;have HC2:=HC5.out W2 ((HB2.out.block nb (by omega)).trans HN1.out);clear hW2;refine⟨HC2,?_⟩;refine Zs ?_
   go_wp2_with (at_builtin;refine Zk _ rfl (.tmp 19) (.tmp 24) 23 rfl (nb+1) 3 i1 (.int .i64 0) 1 8 underlying23 hi1 hy0 hy1 hyb rfl (by decide) _ _ _ rfl HO2.out ⟨W1.heap.size,0,none⟩ 1 1 [.int .i64 m] rfl rfl (by decide) tc (by intro u hu;simp at hu;subst hu;rfl) (by unfold maxLen;omega) (by omega) (by omega) ?_)
   intro v' W3 hown3 hg3 hw3;obtain⟨g3,k3,rfl⟩:∃g3 k3,v'=.slice (some ⟨g3,0,none⟩) (ns.length+1) k3:=by
    rcases hown3.2 with⟨h1,h2⟩|⟨g3,cp,cur,h1,_⟩
    ·omega
    ·exact⟨g3,cp,h1⟩
   have HFIN:Hid (zwz w0 w (W3.setCell ⟨nb,5,none⟩ (.slice (some ⟨g3,0,none⟩) (ns.length+1) k3)) Xb T B Fb nb wv wv1 u acc lvs (ns++[m]) ac1 lvs1 (.slice (some ⟨g3,0,none⟩) (ns.length+1) k3)):=zwz.next HBK.out (by rw[HNB.out];exact Nat.le_refl _) hXn HBn.out HW1.out HS1.out HL1.out HB2.out hown3 (by rw[HLV.out];exact hg3) (by rw[HLV.out];exact hw3);have hn3:W3.heap[nb]?=wr.heap[nb]?:=(hg3.block nb (by omega) (λhh=>by have:=(HO2.out.lt nb hh.symm).1;omega)).trans ((HB2.out.block nb (by omega)).trans HN1.out);have HC3:=HC5.out W3 hn3;have c3:=HC3.1;have f3:W3.frozen? ⟨nb,5,none⟩=false:=(by have h5:=hn3.trans HBK.out.nd;simp[World.frozen?,h5]);clear hown3 hg3 hw3 hn3 tc HC2
   go_wp2_with fail
   refine⟨HC3,?_⟩;refine Ze rfl (by rintro _ ⟨_,_⟩;go_simp<;>rfl) (by go_simp<;>rfl) ?_;refine Vl ?_
   go_wp2_with fail
   refine Yt ?_;go_wp2
   go_roundw
   case rel=>exact⟨k+1,_,wv1,lvs1,by have:=HLT.out;omega,by go_num,by rw[HNX.out];exact HFIN.out⟩
   case measure=>simp[intOf];omega
  ·have hke:k=l.length:=by omega
   subst hke;rw[List.take_length]at hblk;have hbd2:=HBD.out l.length (Nat.le_refl _);rw[List.take_length]at hbd2;have hlen:=Fl.wAll_len St l acc;generalize Fl.wAll St acc l=E at*;obtain⟨ns,ac⟩:=E;simp only at hblk hbd2 hlen HRS;obtain⟨la,lc,hlv⟩:∃la lc,lv=.slice la ns.length lc:=by
    rcases id hblk.ow.2 with⟨rfl,h0⟩|⟨g,cp,cur,rfl,-⟩
    ·exact⟨none,0,by rw[h0]⟩
    ·exact⟨_,cp,rfl⟩
   obtain⟨nd,hnd⟩:∃nd:Fl.Node,nd=⟨7,(u:Int),0,0,0,ns⟩:=⟨_,rfl⟩;have hfit:Fl.fits nd:=by
    have hR:∀z:Int,0<=z->z<=999999999->Fl.inR z=true:=λz h1 h2=>by simp only[Fl.inR,Bool.and_eq_true,decide_eq_true_eq];omega
    rw[hnd];refine⟨hR _ (by show (0:Int)<=7;decide) (by show (7:Int)<=_;decide),hR _ (by show (0:Int)<=(u:Int);omega) (by show (u:Int)<=_;omega),hR _ (by show (0:Int)<=0;decide) (by show (0:Int)<=_;decide),hR _ (by show (0:Int)<=0;decide) (by show (0:Int)<=_;decide),hR _ (by show (0:Int)<=0;decide) (by show (0:Int)<=_;decide),by show ns.length<=16;omega,?_⟩;show ns.all Fl.inR=true;rw[List.all_eq_true];exact λz hz=>hR z (hbd2.2 z hz).1 (by have:=(hbd2.2 z hz).2;omega)
   have HNM:Hid (Calls prog 158 #[.pointer (some ⟨Xb,0,none⟩),.agg #[.int .i64 7,.int .i64 u,.int .i64 0,.int .i64 0,.int .i64 0,.slice la ns.length lc]] wr (Xt (λp=>p=(lv,ns)) w0 wr Xb T B Fb wv' ac lvs' RES)):=by
    have h5:=zx4 (lvn:=lv) hblk.wi hfit (by rw[hnd];exact ze6 hblk.ow) (λ_ b hb=>⟨by have:=(zzz hblk.ow b hb).1;omega,λhh=>zqy hblk.wi.ow b hh.symm (zzz hblk.ow b hb).2,(zzz hblk.ow b hb).2⟩) (by have:=hbd2.1;omega);unfold ndV at h5;rw[hnd]at h5;simp only at h5;rw[HRS.out];rw[hlv]at h5⊢;exact h5
   have HBK:Hid (zwz w0 w wr Xb T B Fb nb wv wv' u acc lvs ns ac lvs' lv):=hblk;have h5:=hblk.nd;rw[hlv]at h5
   have q:∀j u',(#[Value.int .i64 7,.int .i64 u,.int .i64 0,.int .i64 0,.int .i64 0,.slice la ns.length lc]:Array Value)[j]?=some u'->wr.cell? ⟨nb,j,none⟩=some u':=λj u' hj=>by simp only[World.cell?,h5];exact hj
   have q0:=q 0 _ rfl;have q1:=q 1 _ rfl;have q2:=q 2 _ rfl;have q3:=q 3 _ rfl;have q4:=q 4 _ rfl;have q5:=q 5 _ rfl;clear q h5 hblk hfit hnd hbd2 hlen hlv
   go_wp2_with fail
   refine HNM.out.mono ?_;rintro e W2 ⟨rfl,wv2,lvs2,h1,h2,h3⟩
   have HE:Hid (Xt (λ_=>False) w0 w Xb T B Fb wv acc lvs RES (.returned (.int .i64 RES.1)) W2):=⟨rfl,wv2,lvs2,h1,HBK.out.st.trans h2,λp hp=>by
    rcases h3 p hp with h|h|h|h
    ·exact HBK.out.lo p h
    ·refine .inr (.inr (.inr λb hb=>?_))
     rw[h]at hb;have:=(zzz HBK.out.ow b hb).1;have:=HNB.out;omega
    ·exact .inr (.inr (.inl h))
    ·exact .inr (.inr (.inr λb hb=>Nat.le_trans HBK.out.st.sz (h b hb)))⟩
   clear h1 h2 h3;go_wp2;go_ret;exact HE.out
end
structure Vc(w0 w V:World)(Xb T B Fb nb:Nat)(wv wv':Value)(acc:List Fl.Node)(lvs:List Value)(ac:List Fl.Node)(lvs':List Value)(k u a b c:Int):Prop where
 wi:Yv w0 V Xb T B Fb wv' ac lvs'
 st:Yp w V Xb B wv wv'
 ne:some nb≠wv'.ownBlock
 lo:Vf (λ_=>False) w acc lvs ac lvs'
 nd:V.heap[nb]?=some (.cells #[.int .i64 k,.int .i64 u,.int .i64 a,.int .i64 b,.int .i64 c,.slice none 0 0] 121 (0,0))
def Vc.lt{w0 w V:World}{Xb T B Fb nb:Nat}{wv wv':Value}{acc ac:List Fl.Node}{lvs lvs':List Value}{k u a b c:Int}(h:Vc w0 w V Xb T B Fb nb wv wv' acc lvs ac lvs' k u a b c):nb<V.heap.size:=by
 rcases Nat.lt_or_ge nb V.heap.size with h'|h'
 ·exact h'
 ·have h5:=h.nd;rw[Array.getElem?_eq_none h']at h5;cases h5
def Vc.cell{w0 w V:World}{Xb T B Fb nb:Nat}{wv wv':Value}{acc ac:List Fl.Node}{lvs lvs':List Value}{k u a b c:Int}(h:Vc w0 w V Xb T B Fb nb wv wv' acc lvs ac lvs' k u a b c)(j:Nat)(v:Value)(hj:(#[Value.int .i64 k,.int .i64 u,.int .i64 a,.int .i64 b,.int .i64 c,.slice none 0 0]:Array Value)[j]?=some v):V.cell? ⟨nb,j,none⟩=some v:=by
 simp only[World.cell?,h.nd];exact hj
def Vc.free{w0 w V:World}{Xb T B Fb nb:Nat}{wv wv':Value}{acc ac:List Fl.Node}{lvs lvs':List Value}{k u a b c:Int}(h:Vc w0 w V Xb T B Fb nb wv wv' acc lvs ac lvs' k u a b c)(j:Nat):V.frozen? ⟨nb,j,none⟩=false:=by simp[World.frozen?,h.nd]
def Vc.below{w0 w V V':World}{Xb T B Fb nb:Nat}{wv wv':Value}{acc ac:List Fl.Node}{lvs lvs':List Value}{k u a b c:Int}(h:Vc w0 w V Xb T B Fb nb wv wv' acc lvs ac lvs' k u a b c)(hb:Below V.heap.size V V'):Vc w0 w V' Xb T B Fb nb wv wv' acc lvs ac lvs' k u a b c:=
 ⟨h.wi.below hb,h.st.trans (Yp.of_below hb),h.ne,h.lo,(hb.block nb h.lt).trans h.nd⟩
def Vc.call{w0 w V V':World}{Xb T B Fb nb:Nat}{wv wv' wv2:Value}{acc ac ac2:List Fl.Node}{lvs lvs' lvs2:List Value}{k u a b c:Int}(h:Vc w0 w V Xb T B Fb nb wv wv' acc lvs ac lvs' k u a b c)(hX:Xb<nb)(hB:nb≠B)(h1:Yv w0 V' Xb T B Fb wv2 ac2 lvs2)(hs:Yp V V' Xb B wv' wv2)(hl:Vf (λ_=>False) V ac lvs' ac2 lvs2):Vc w0 w V' Xb T B Fb nb wv wv2 acc lvs ac2 lvs2 k u a b c:=by
 refine⟨h1,h.st.trans hs,λhh=>?_,h.lo.trans h.st.sz hl,(hs.bl nb h.lt (by omega) hB h.ne).trans h.nd⟩;rcases hs.ow with e|⟨g,e,hge⟩
 ·exact h.ne (hh.trans e)
 ·rw[e]at hh;injection hh with hh;have:=h.lt;omega
def Vc.set{w0 w V:World}{Xb T B Fb nb:Nat}{wv wv':Value}{acc ac:List Fl.Node}{lvs lvs':List Value}{k u a b c:Int}(h:Vc w0 w V Xb T B Fb nb wv wv' acc lvs ac lvs' k u a b c)(hX:Xb<nb)(hw:w.heap.size<=nb)(j:Nat)(v a' b' c':Int)(he:(#[Value.int .i64 k,.int .i64 u,.int .i64 a,.int .i64 b,.int .i64 c,.slice none 0 0]:Array Value).setIfInBounds j (.int .i64 v)=#[.int .i64 k,.int .i64 u,.int .i64 a',.int .i64 b',.int .i64 c',.slice none 0 0]):Vc w0 w (V.setCell ⟨nb,j,none⟩ (.int .i64 v)) Xb T B Fb nb wv wv' acc lvs ac lvs' k u a' b' c':=by
 refine⟨h.wi.priv hX h.nd h.ne j _,h.st.set hw j _,h.ne,h.lo,?_⟩;have h5:=zu6 h.nd j (.int .i64 v);rw[he]at h5;exact h5
def Vc.ends{w0 w V:World}{Xb T B Fb nb:Nat}{wv wv':Value}{acc ac:List Fl.Node}{lvs lvs':List Value}{k u a b c:Int}(h:Vc w0 w V Xb T B Fb nb wv wv' acc lvs ac lvs' k u a b c)(hk:0<=k/\k<=999999999)(hu:0<=u/\u<=999999999)(ha:0<=a/\a<=999999999)(hb:0<=b/\b<=999999999)(hc:0<=c/\c<=999999999)(hn:ac.length<=100000000):
  Calls prog 158 #[.pointer (some ⟨Xb,0,none⟩),.agg #[.int .i64 k,.int .i64 u,.int .i64 a,.int .i64 b,.int .i64 c,.slice none 0 0]] V (λe w'=>Xt (λ_=>False) w0 w Xb T B Fb wv acc lvs (Fl.put1 ac ⟨k,u,a,b,c,[]⟩) e w'):=by
 have hR:∀z:Int,0<=z/\z<=999999999->Fl.inR z=true:=λz h1=>by simp only[Fl.inR,Bool.and_eq_true,decide_eq_true_eq];omega
 have h5:=zx4 (nd:=⟨k,u,a,b,c,[]⟩) (lvn:=.slice none 0 0) h.wi ⟨hR _ hk,hR _ hu,hR _ ha,hR _ hb,hR _ hc,by simp,by simp⟩ ⟨none,0,rfl,by simp,by simp[maxLen],λhh=>absurd rfl hh⟩ (λhh=>absurd rfl hh) hn;refine h5.mono ?_;rintro e W ⟨h6,wv2,lvs2,h7,h8,h9⟩;refine⟨h6,wv2,lvs2,h7,h.st.trans h8,λp hp=>?_⟩;rcases h9 p hp with h1|h1|h1|h1
 ·rcases h.lo p h1 with h2|h2|h2|h2
  ·exact .inl h2
  ·exact h2.elim
  ·exact .inr (.inr (.inl h2))
  ·exact .inr (.inr (.inr h2))
 ·exact .inr (.inr (.inl (by rw[h1])))
 ·exact .inr (.inr (.inl h1))
 ·exact .inr (.inr (.inr λb hb=>Nat.le_trans h.st.sz (h1 b hb)))
section
variable{w0 w:World}{Xb T B Fb Pb Lb:Nat}{wv clv chv bv vv:Value}{acc:List Fl.Node}{lvs:List Value}{S:Nat->Prop}{p:Fl.Prog}{vs:List Int}
def yz9(M:Nat)(hM:M<=20000000)(d:Nat)(u:Nat)(hu:u<p.n){pv:Value}{s:Fl.Stmt}(hps:Vj (Zt d) S w0 pv s)(hF:Xy w0 Fb Pb Lb clv chv bv vv S p vs)(hv:vs.length<=100)(hk:Fl.KindOk vs.length p.chans.length s)(he:Fl.ExprOk vs.length s.e)(ho:Fl.StmtsOk vs.length p.chans.length d s.body/\Fl.StmtsOk vs.length p.chans.length d s.other)
  (IH:∀V wv' acc' lvs' v l (u':Nat),Zt d S w0 v l->Fl.StmtsOk vs.length p.chans.length d l->u'<p.n->Yv w0 V Xb T B Fb wv' acc' lvs'->acc'.length<=M->Calls prog 113 #[.pointer (some ⟨Xb,0,none⟩),v,.int .i64 u'] V (Xt (λ_=>False) w0 V Xb T B Fb wv' acc' lvs' (Fl.wBlock p vs d acc' l u')))
  (hn:acc.length<=M) (b1 b2:Int×List Fl.Node) (lv:Nat) (elv:Fl.jn p u (Fl.valLv p vs s.e)=(lv:Int)) (hb1:b1=Fl.wBlock p vs d (Fl.wVal p vs acc s.e).2 s.body lv) (hb2:b2=Fl.wBlock p vs d b1.2 s.other lv) (hbd:((Fl.wVal p vs acc s.e).2.length<=M/\0<=(Fl.wVal p vs acc s.e).1/\(Fl.wVal p vs acc s.e).1<=20000000)/\(b1.2.length<=M/\0<=b1.1/\b1.1<=20000000)/\b2.2.length<=M/\0<=b2.1/\b2.1<=20000000) (h:Yv w0 w Xb T B Fb wv acc lvs):
  Calls prog 157 #[.pointer (some ⟨Xb,0,none⟩),pv,.int .i64 u] w (Xt (λ_=>False) w0 w Xb T B Fb wv acc lvs (Fl.wStmt (Fl.wBlock p vs d) p vs u acc s)):=by
 obtain⟨sb,vp,fv,ev,rfl,hSs,hcs,hval,hfi,hel⟩:=hps;have hsz:sb<w0.heap.size:=hF.hS sb hSs;have h6:=hF.lv.lv.n6
 have HSB:Hid (∀V,Below w0.heap.size w0 V->V.cell? ⟨sb,0,none⟩=some (.int .i64 s.kind)/\V.cell? ⟨sb,2,none⟩=some (.int .i64 s.x)/\V.cell? ⟨sb,3,none⟩=some vp/\V.cell? ⟨sb,4,none⟩=some fv/\V.cell? ⟨sb,5,none⟩=some ev):=λV hV=>by
  have q:∀j,V.cell? ⟨sb,j,none⟩=w0.cell? ⟨sb,j,none⟩:=λj=>hV.cell (p:=⟨sb,j,none⟩) hsz;exact⟨(q 0).trans (hcs.c 0 (by omega)),(q 2).trans (hcs.c 2 (by omega)),(q 3).trans (hcs.c 3 (by omega)),(q 4).trans (hcs.c 4 (by omega)),(q 5).trans (hcs.c 5 (by omega))⟩
 obtain⟨vl,hvl,evl⟩:=zy9 hF.lv.lv hF.ok he;obtain⟨lv',hlv',elv'⟩:=hF.lv.lv.join hu hvl;have hll:lv'=lv:=by
  have h5:Fl.jn p u (Fl.valLv p vs s.e)=(lv':Int):=(by unfold Fl.jn;rw[evl];exact elv');rw[elv]at h5;omega
 subst hll;have HVAL:Hid (∀V wv' lvs',Yv w0 V Xb T B Fb wv' acc lvs'->Calls prog 192 #[.pointer (some ⟨Xb,0,none⟩),vp] V (Xt (λ_=>False) w0 V Xb T B Fb wv' acc lvs' (Fl.wVal p vs acc s.e))):=λV wv' lvs' hV=>yz8 hV hF hval he hv (by omega)
 have HLV:Hid (∀V,Below w0.heap.size w0 V->Calls prog 191 #[.pointer (some ⟨Fb,0,none⟩),vp] V λr w'=>r=.returned (.int .i64 (vl:Nat))/\Below V.heap.size V w'):=λV hV=>by
  have h5:=zw7 (hF.below hV) (hval.kept (λ_ h=>h) (λb hb=>hV.block b (hF.hS b hb))) he;rw[evl]at h5;exact h5
 have HJ:Hid (∀V,Below w0.heap.size w0 V->Calls prog 112 #[.pointer (some ⟨Lb,0,none⟩),.int .i64 u,.int .i64 vl] V λr w'=>r=.returned (.int .i64 (lv':Nat))/\w'=V):=λV hV=>by
  have h5:=zs1 (hF.below hV).lv.la h6 u vl hu hvl;rw[elv']at h5;exact h5
 have HFB:Hid (∀V,Below w0.heap.size w0 V->V.cell? ⟨Fb,0,none⟩=some (.pointer (some ⟨Pb,0,none⟩))/\V.cell? ⟨Pb,0,none⟩=some (.pointer (some ⟨Lb,0,none⟩))):=λV hV=>⟨(hF.below hV).c0,(hF.below hV).lv.p0⟩;obtain⟨v1,hv1⟩:∃v1,v1=Fl.wVal p vs acc s.e:=⟨_,rfl⟩;rw[<-hv1]at HVAL hbd hb1
 have HI1:Hid (∀V wv' lvs',Yv w0 V Xb T B Fb wv' v1.2 lvs'->Calls prog 113 #[.pointer (some ⟨Xb,0,none⟩),fv,.int .i64 lv'] V (Xt (λ_=>False) w0 V Xb T B Fb wv' v1.2 lvs' b1)):=λV wv' lvs' hV=>by rw[hb1];exact IH V wv' _ lvs' fv s.body lv' hfi ho.1 hlv' hV hbd.1.1
 have HI2:Hid (∀V wv' lvs',Yv w0 V Xb T B Fb wv' b1.2 lvs'->Calls prog 113 #[.pointer (some ⟨Xb,0,none⟩),ev,.int .i64 lv'] V (Xt (λ_=>False) w0 V Xb T B Fb wv' b1.2 lvs' b2)):=λV wv' lvs' hV=>by rw[hb2];exact IH V wv' _ lvs' ev s.other lv' hel ho.2 hlv' hV hbd.2.1.1
 have HRES:Hid (Fl.wStmt (Fl.wBlock p vs d) p vs u acc s=if s.kind=5 then Fl.put1 b2.2 ⟨5,u,v1.1,b1.1,b2.1,[]⟩ else if s.kind=6 then Fl.put1 b1.2 ⟨6,u,v1.1,b1.1,0,[]⟩ else Fl.put1 v1.2 ⟨s.kind,u,s.x,v1.1,0,[]⟩):=by
  show _=_;unfold Fl.wStmt;simp only;rw[elv,<-hv1,<-hb1,<-hb2]
 obtain⟨RES,hR0⟩:∃RES,RES=Fl.wStmt (Fl.wBlock p vs d) p vs u acc s:=⟨_,rfl⟩;rw[<-hR0]at HRES⊢;obtain⟨nb,hnb⟩:∃nb,nb=w.heap.size:=⟨_,rfl⟩;obtain⟨W0,hW0⟩:∃W0,W0=w.alloc (.cells #[.int .i64 s.kind,.int .i64 u,.int .i64 0,.int .i64 0,.int .i64 0,.slice none 0 0] 121):=⟨_,rfl⟩;have HP0:Hid (Vc w0 w W0 Xb T B Fb nb wv wv acc lvs acc lvs s.kind u 0 0 0):=by
  have hb:Below w.heap.size w W0:=(by rw[hW0];exact bA);refine⟨h.below hb,Yp.of_below hb,λhh=>?_,Vf.refl _ _ _ _,by rw[hW0,hnb];exact heap_alloc_last _ _⟩;have:=(h.ow.lt nb hh.symm).2;omega
 have hXn:Xb<nb:=by rw[hnb];exact h.hz
 have hBn:nb≠B:=by have:=h.x0;have:=h.hz;omega
 have hwn:w.heap.size<=nb:=by omega
 have hKD:s.kind<=6:=by rcases hk with h|h|h|h<;>omega
 have HKX:Hid (s.kind=3\/s.kind=4->s.x<=100):=λhh=>by
  rcases hk with h|h|h|h
  ·omega
  ·have:=hF.pk.ch;omega
  ·omega
  ·omega
 have HKK:Hid ((s.kind=3\/s.kind=4)\/s.kind=5\/s.kind=6):=by rcases hk with h|h|h|h<;>(show (_\/_)\/_;omega)
 have HBD:Hid ((v1.2.length<=M/\0<=v1.1/\v1.1<=20000000)/\(b1.2.length<=M/\0<=b1.1/\b1.1<=20000000)/\b2.2.length<=M/\0<=b2.1/\b2.1<=20000000):=hbd;obtain⟨s0,-,t3,-⟩:=HSB.out w h.be;have hsw:sb<w.heap.size:=Nat.lt_of_lt_of_le hsz h.be.size;have hF0:Fb<w0.heap.size:=hF.hF;generalize s.kind=kd at*;generalize s.x=xx at*;obtain⟨v1n,v1l⟩:=v1;obtain⟨b1n,b1l⟩:=b1;obtain⟨b2n,b2l⟩:=b2;simp only at HI1 HI2 HRES HBD HVAL;clear hcs hval hfi hel hF he ho IH hv1 hb1 hb2 hbd hR0 hk h evl elv elv' hvl hlv';unfold ptr
 go_enter func157,ntmps157
 go_wp2_with fail
 rw[<-hW0,<-hnb];clear hW0 hnb s0;refine(HVAL.out _ _ _ HP0.out.wi).mono ?_;rintro e1 W1 ⟨rfl,wv1,lvs1,hw1,hst1,hls1⟩;have HP1:Hid (Vc w0 w W1 Xb T B Fb nb wv wv1 acc lvs v1l lvs1 kd u 0 0 0):=HP0.out.call hXn hBn hw1 hst1 hls1
 have HS1:Hid (∀V,Below W1.heap.size W1 V->V.cell? ⟨Xb,0,none⟩=some (.pointer (some ⟨Fb,0,none⟩))/\V.cell? ⟨Fb,0,none⟩=some (.pointer (some ⟨Pb,0,none⟩))/\V.cell? ⟨Pb,0,none⟩=some (.pointer (some ⟨Lb,0,none⟩))/\V.cell? ⟨sb,3,none⟩=some vp):=λV hV=>by
  have h5:=(HP1.out.below hV).wi;exact⟨h5.c0,(HFB.out V h5.be).1,(HFB.out V h5.be).2,(HSB.out V h5.be).2.2.1⟩
 clear hw1 hst1 hls1 HP0 t3 HVAL
 go_wp2_with fail
 refine Yy HS1 (Below.refl _ _).drew [19,20] [] [] (by kernel_rfl) (λc a d v w h=>by cases d<;>exact h) (λops _=>?_)
 iterate 19 refine Ze rfl (by rintro _ ⟨_,_,_,_⟩;go_simp<;>rfl) (by go_simp<;>rfl) ?_
 refine Zs ?_
 go_wp2_with fail
 refine(HLV.out _ (HP1.out.below (Below.refl _ _).drew).wi.be).mono ?_;rintro e2 W9 ⟨rfl,hB2⟩;have HB2:Hid (Below W1.heap.size W1 W9):=(Below.refl _ _).drew.trans hB2;clear hB2
 go_wp2_with fail
 refine⟨HS1.out _ HB2.out,?_⟩;refine Zs ?_
 go_wp2_with fail
 refine(HJ.out _ (HP1.out.below HB2.out).wi.be).mono ?_;rintro e3 W2 ⟨rfl,rfl⟩
 go_wp2_with fail
 refine⟨HS1.out _ HB2.out,?_⟩;refine Ze rfl (by rintro _ ⟨_,_,_,_⟩;go_simp<;>rfl) (by go_simp<;>rfl) ?_;refine Yt ?_;have HP2:Hid (Vc w0 w W2 Xb T B Fb nb wv wv1 acc lvs v1l lvs1 kd u 0 0 0):=HP1.out.below HB2.out;obtain⟨s0,s2,s3,s4,s5⟩:=HSB.out W2 HP2.out.wi.be;have c2:=HP2.out.cell 2 _ rfl;have c3:=HP2.out.cell 3 _ rfl;have c4:=HP2.out.cell 4 _ rfl;have f2:=HP2.out.free 2;have f3:=HP2.out.free 3;have f4:=HP2.out.free 4
 have huI:(0:Int)<=(u:Int)/\(u:Int)<=999999999:=by omega
 clear HS1 HP1 HB2 HLV HJ HFB;rcases HKK.out with h34|h5|h6'
 ·have HR:Hid (RES=Fl.put1 v1l ⟨(kd:Int),u,xx,v1n,0,[]⟩):=by show _=_;rw[HRES.out,if_neg (by omega),if_neg (by omega)]
  have hp4:=HP2.out.set hXn hwn 2 (xx:Int) (xx:Int) 0 0 rfl;have hp5:=hp4.set hXn hwn 3 v1n (xx:Int) v1n 0 rfl;have d3:=hp4.cell 3 _ rfl;have g3:=hp4.free 3;have q0:=hp5.cell 0 _ rfl;have q1:=hp5.cell 1 _ rfl;have q2:=hp5.cell 2 _ rfl;have q3:=hp5.cell 3 _ rfl;have q4:=hp5.cell 4 _ rfl;have q5:=hp5.cell 5 _ rfl;have HN:=hp5.ends (by omega) huI (by have:=HKX.out h34;omega) (by have:=HBD.out.1;omega) (by omega) (by have:=HBD.out.1;omega);rw[<-HR.out]at HN;have HNM:=Zz HN;clear hp4 hp5 HN HR HRES HP2;rcases h34 with h3|h4
  all_goals
   first|subst h3|subst h4
   go_wp2_with fail
   refine HNM.out.mono ?_;rintro e W6 hW6;have HW6:=Zz hW6;obtain⟨hre,-⟩:=id hW6;subst hre;clear hW6;go_wp2;go_ret;exact HW6.out
 ·subst h5
  have HR:Hid (RES=Fl.put1 b2l ⟨5,u,v1n,b1n,b2n,[]⟩):=(by show _=_;rw[HRES.out,if_pos rfl]);have HSX:Hid (∀V,Below w0.heap.size w0 V->V.cell? ⟨sb,4,none⟩=some fv/\V.cell? ⟨sb,5,none⟩=some ev):=λV hV=>⟨(HSB.out V hV).2.2.2.1,(HSB.out V hV).2.2.2.2⟩;clear HRES c2 c3 c4 f2 f3 f4
  go_wp2_with fail
  refine zzv HSX (HP2.out.below (Below.refl _ _).drew).wi.be [(0,0),(0,1),(0,2),(0,3),(0,4),(0,5),(0,6),(0,8),(0,9),(0,10),(0,11),(0,12),(0,13),(0,15),(1,7),(1,14),(1,16),(0,17),(1,18),(0,19),(2,20)] [20] [] (by kernel_rfl) (λc a d v w h=>by cases d<;>exact h) (λops _=>?_)
  iterate 14 refine Ze rfl (by rintro _ ⟨_,_⟩;go_simp<;>rfl) (by go_simp<;>rfl) ?_
  refine Zs ?_
  go_wp2_with fail
  refine(HI1.out _ _ _ (HP2.out.below (Below.refl _ _).drew).wi).mono ?_;rintro e4 W4 ⟨rfl,wv4,lvs4,hw4,hst4,hls4⟩;have HP4:Hid (Vc w0 w W4 Xb T B Fb nb wv wv4 acc lvs b1l lvs4 (5:Nat) u 0 0 0):=(HP2.out.below (Below.refl _ _).drew).call hXn hBn hw4 hst4 hls4;clear hw4 hst4 hls4 HP2 s0 s2 s3 s4 s5
  go_wp2_with fail
  refine⟨HSX.out _ HP4.out.wi.be,?_⟩;refine Zs ?_
  go_wp2_with fail
  refine(HI2.out _ _ _ HP4.out.wi).mono ?_;rintro e5 W5 ⟨rfl,wv5,lvs5,hw5,hst5,hls5⟩;have hp5:=HP4.out.call hXn hBn hw5 hst5 hls5;have hp6:=hp5.set hXn hwn 2 v1n v1n 0 0 rfl;have hp7:=hp6.set hXn hwn 3 b1n v1n b1n 0 rfl;have hp8:=hp7.set hXn hwn 4 b2n v1n b1n b2n rfl;have c2:=hp5.cell 2 _ rfl;have f2:=hp5.free 2;have c3:=hp6.cell 3 _ rfl;have f3:=hp6.free 3;have c4:=hp7.cell 4 _ rfl;have f4:=hp7.free 4;have q0:=hp8.cell 0 _ rfl;have q1:=hp8.cell 1 _ rfl;have q2:=hp8.cell 2 _ rfl;have q3:=hp8.cell 3 _ rfl;have q4:=hp8.cell 4 _ rfl;have q5:=hp8.cell 5 _ rfl;have HN:=hp8.ends (by omega) huI (by have:=HBD.out.1;omega) (by have:=HBD.out.2.1;omega) (by have:=HBD.out.2.2;omega) (by have:=HBD.out.2.2;show b2l.length<=_;omega);have e5':((5:Nat):Int)=5:=rfl;rw[e5',<-HR.out]at HN;have HNM:=Zz HN;have HE5:Hid _:=HSX.out _ hp5.wi.be;have HE6:Hid _:=HSX.out _ hp6.wi.be;have HE7:Hid _:=HSX.out _ hp7.wi.be;clear hp5 hp6 hp7 hp8 HN HR HP4 hw5 hst5 hls5 e5'
  go_wp2_with fail
  refine⟨HE5.out,?_⟩;refine Zs ?_
  go_wp2_with fail
  refine⟨HE6.out,?_⟩;refine Ze rfl (by rintro _ ⟨_,_⟩;go_simp<;>rfl) (by go_simp<;>rfl) ?_;refine Zs ?_
  go_wp2_with fail
  refine⟨HE7.out,?_⟩;refine Ze rfl (by rintro _ ⟨_,_⟩;go_simp<;>rfl) (by go_simp<;>rfl) ?_;refine Vl ?_
  go_wp2_with fail
  refine Yt ?_
  go_wp2_with fail
  refine HNM.out.mono ?_;rintro e W6 hW6;have HW6:=Zz hW6;obtain⟨hre,-⟩:=id hW6;subst hre;clear hW6;go_wp2;go_ret;exact HW6.out
 ·subst h6'
  have HR:Hid (RES=Fl.put1 b1l ⟨6,u,v1n,b1n,0,[]⟩):=(by show _=_;rw[HRES.out,if_neg (by decide),if_pos rfl]);clear HRES c2 c3 c4 f2 f3 f4
  go_wp2_with fail
  refine(HI1.out _ _ _ HP2.out.wi).mono ?_;rintro e4 W4 ⟨rfl,wv4,lvs4,hw4,hst4,hls4⟩;have hp5:=HP2.out.call hXn hBn hw4 hst4 hls4;have hp6:=hp5.set hXn hwn 2 v1n v1n 0 0 rfl;have hp7:=hp6.set hXn hwn 3 b1n v1n b1n 0 rfl;have c2:=hp5.cell 2 _ rfl;have f2:=hp5.free 2;have c3:=hp6.cell 3 _ rfl;have f3:=hp6.free 3;have q0:=hp7.cell 0 _ rfl;have q1:=hp7.cell 1 _ rfl;have q2:=hp7.cell 2 _ rfl;have q3:=hp7.cell 3 _ rfl;have q4:=hp7.cell 4 _ rfl;have q5:=hp7.cell 5 _ rfl;have HN:=hp7.ends (by omega) huI (by have:=HBD.out.1;omega) (by have:=HBD.out.2.1;omega) (by omega) (by have:=HBD.out.2.1;show b1l.length<=_;omega);have e6':((6:Nat):Int)=6:=rfl;rw[e6',<-HR.out]at HN;have HNM:=Zz HN;clear hp5 hp6 hp7 HN HR HP2 hw4 hst4 hls4 s0 s2 s3 s4 s5 e6'
  go_wp2_with fail
  refine HNM.out.mono ?_;rintro e W6 hW6;have HW6:=Zz hW6;obtain⟨hre,-⟩:=id hW6;subst hre;clear hW6;go_wp2;go_ret;exact HW6.out
end
namespace Fl
def grw:Nat->Nat
 |0=>1
 |d+1=>65+32*grw d
def GrOk(n c:Nat)(r:Int×List Node):Prop:=r.2.length<=n+c/\n<=r.2.length/\0<=r.1/\r.1<=n+c
def put1_gr(acc:List Node)(nd:Node):GrOk acc.length 1 (put1 acc nd):=by
 have:=zow acc nd;unfold GrOk;omega
def wVal_gr(p:Prog)(vs:List Int)(acc:List Node)(e:Expr):GrOk acc.length 3 (wVal p vs acc e):=by
 unfold wVal
 split
 ·have:=put1_gr acc ⟨if e.a.var then 1 else 0,atomLv p vs e.a,e.a.v,0,0,[]⟩
  unfold GrOk at this⊢;unfold wAtom;omega
 ·have h1:=put1_gr acc ⟨if e.a.var then 1 else 0,atomLv p vs e.a,e.a.v,0,0,[]⟩
  have h2:=put1_gr (wAtom p vs acc e.a).2 ⟨if e.b.var then 1 else 0,atomLv p vs e.b,e.b.v,0,0,[]⟩;have h3:=put1_gr (wAtom p vs (wAtom p vs acc e.a).2 e.b).2 ⟨2,valLv p vs e,e.op,(wAtom p vs acc e.a).1,(wAtom p vs (wAtom p vs acc e.a).2 e.b).1,[]⟩
  change GrOk _ _ (wAtom p vs acc e.a) at h1
  change GrOk _ _ (wAtom p vs (wAtom p vs acc e.a).2 e.b) at h2
  unfold GrOk at*;omega
def wStmt_gr(K:List Node->List Stmt->Int->Int×List Node)(c:Nat)(p:Prog)(vs:List Int)(u:Int)(acc:List Node)(s:Stmt)(h1:∀a l,GrOk a.length c (K a s.body l))(h2:∀a l,GrOk a.length c (K a s.other l)):GrOk acc.length (4+2*c) (wStmt K p vs u acc s):=by
 unfold wStmt;simp only;have hv:=wVal_gr p vs acc s.e;have e1:=h1 (wVal p vs acc s.e).2 (jn p u (valLv p vs s.e));have e2:=h2 (K (wVal p vs acc s.e).2 s.body (jn p u (valLv p vs s.e))).2 (jn p u (valLv p vs s.e))
 split
 ·have:=put1_gr (K (K (wVal p vs acc s.e).2 s.body (jn p u (valLv p vs s.e))).2 s.other (jn p u (valLv p vs s.e))).2 ⟨5,u,(wVal p vs acc s.e).1,(K (wVal p vs acc s.e).2 s.body (jn p u (valLv p vs s.e))).1,(K (K (wVal p vs acc s.e).2 s.body (jn p u (valLv p vs s.e))).2 s.other (jn p u (valLv p vs s.e))).1,[]⟩
  unfold GrOk at*;omega
 ·split
  ·have:=put1_gr (K (wVal p vs acc s.e).2 s.body (jn p u (valLv p vs s.e))).2 ⟨6,u,(wVal p vs acc s.e).1,(K (wVal p vs acc s.e).2 s.body (jn p u (valLv p vs s.e))).1,0,[]⟩
   unfold GrOk at*;omega
  ·have:=put1_gr (wVal p vs acc s.e).2 ⟨s.kind,u,s.x,(wVal p vs acc s.e).1,0,[]⟩
   unfold GrOk at*;omega
def wAll_gr(W:List Node->Stmt->Int×List Node)(c:Nat):∀(l:List Stmt) (acc:List Node),(∀a s,s∈l->GrOk a.length c (W a s))->(wAll W acc l).2.length<=acc.length+l.length*c/\acc.length<=(wAll W acc l).2.length/\∀n∈(wAll W acc l).1,0<=n/\n<=acc.length+l.length*c
 |[],acc,_=>⟨by simp[wAll],by simp[wAll],λn hn=>by cases hn⟩
 |s::l,acc,h=>by
  have h1:=h acc s (by simp);have h2:=wAll_gr W c l (W acc s).2 (λa t ht=>h a t (by simp[ht]));have e:(s::l).length*c=l.length*c+c:=(by rw[List.length_cons,Nat.succ_mul]);unfold GrOk at h1;refine⟨by show (wAll W (W acc s).2 l).2.length<=_;omega,by show _<=(wAll W (W acc s).2 l).2.length;omega,λn hn=>?_⟩;rcases List.mem_cons.1 (show n∈(W acc s).1::(wAll W (W acc s).2 l).1 from hn) with rfl|hn
  ·omega
  ·have:=h2.2.2 n hn
   omega
def wBlock_gr(p:Prog)(vs:List Int):∀(d:Nat) (acc:List Node) (l:List Stmt) (u:Int),Small d l->GrOk acc.length (grw d) (wBlock p vs d acc l u)
 |0,acc,l,u,_=>put1_gr acc _
 |d+1,acc,l,u,h=>by
  have h1:=wAll_gr (wStmt (wBlock p vs d) p vs u) (4+2*grw d) l acc (λa s hs=>wStmt_gr _ _ p vs u a s (λa l=>wBlock_gr p vs d a _ l (h.2 s hs).1) (λa l=>wBlock_gr p vs d a _ l (h.2 s hs).2));have h2:=put1_gr (wAll (wStmt (wBlock p vs d) p vs u) acc l).2 ⟨7,u,0,0,0,(wAll (wStmt (wBlock p vs d) p vs u) acc l).1⟩;have h3:l.length*(4+2*grw d)<=16*(4+2*grw d):=Nat.mul_le_mul_right _ h.1;show GrOk acc.length (65+32*grw d) (put1 _ _);unfold GrOk at*;omega
end Fl
section
variable{w0:World}{Xb T B Fb Pb Lb:Nat}{clv chv bv vv:Value}{S:Nat->Prop}{p:Fl.Prog}{vs:List Int}
def zl0(hF:Xy w0 Fb Pb Lb clv chv bv vv S p vs):∀(d:Nat),d<=4->∀(V:World) (wv:Value) (acc:List Fl.Node) (lvs:List Value) (v:Value) (l:List Fl.Stmt) (u:Nat),Zt d S w0 v l->Fl.StmtsOk vs.length p.chans.length d l->u<p.n->Yv w0 V Xb T B Fb wv acc lvs->acc.length<=20000000 - 4000000*d->
  Calls prog 113 #[.pointer (some ⟨Xb,0,none⟩),v,.int .i64 u] V (Xt (λ_=>False) w0 V Xb T B Fb wv acc lvs (Fl.wBlock p vs d acc l u))
 |0,_,V,wv,acc,lvs,v,l,u,hl,ho,hu,h,hn=>by
  obtain⟨rfl,rfl⟩:=hl;have h6:=hF.lv.lv.n6;exact zo6 20000000 (Nat.le_refl _) 0 (λa _=>(0,a)) u (by omega) (.slice none 0 0) [] hF ⟨none,0,rfl,by simp,by simp[maxLen],by simp,λhh=>absurd rfl hh⟩ (λ_ _ _ _ _ _ hs=>(by cases hs)) (λk hk=>⟨by simp[Fl.wAll];omega,λn hn=>(by simp[Fl.wAll]at hn)⟩) h
 |d+1,hd,V,wv,acc,lvs,v,l,u,hl,ho,hu,h,hn=>by
  have h6:=hF.lv.lv.n6;have hsm:=Zt.small _ _ _ hl;have hv:vs.length<=100:=(by have:=hF.ok.1;have:=hF.pk.ce;have:=hF.pk.lo;omega);have hg:Fl.grw d<=101473:=by
   have:d=0\/d=1\/d=2\/d=3:=by omega
   rcases this with rfl|rfl|rfl|rfl<;>decide
  have hS:∀s∈l,∀(a:List Fl.Node),Fl.GrOk a.length (4+2*Fl.grw d) (Fl.wStmt (Fl.wBlock p vs d) p vs u a s):=λs hs a=>Fl.wStmt_gr _ _ p vs u a s (λa l=>Fl.wBlock_gr p vs d a _ l (hsm.2 s hs).1) (λa l=>Fl.wBlock_gr p vs d a _ l (hsm.2 s hs).2);refine zo6 (19500000 - 4000000*d) (by omega) d (Fl.wStmt (Fl.wBlock p vs d) p vs u) u (by omega) v l hF hl (λV' wv' acc' lvs' pv s hs hps hV hn'=>?_) (λk hk=>?_) h
  ·obtain⟨hk1,he1,ho1,ho2⟩:=ho s hs
   obtain⟨vl,hvl,evl⟩:=zy9 hF.lv.lv hF.ok he1;obtain⟨lv,hlv,elv⟩:=hF.lv.lv.join hu hvl;have ej:Fl.jn p u (Fl.valLv p vs s.e)=(lv:Int):=(by unfold Fl.jn;rw[evl];exact elv);have g1:=Fl.wVal_gr p vs acc' s.e;have g2:=Fl.wBlock_gr p vs d (Fl.wVal p vs acc' s.e).2 s.body lv (hsm.2 s hs).1;have g3:=Fl.wBlock_gr p vs d (Fl.wBlock p vs d (Fl.wVal p vs acc' s.e).2 s.body lv).2 s.other lv (hsm.2 s hs).2;unfold Fl.GrOk at g1 g2 g3;exact yz9 (20000000 - 4000000*d) (by omega) d u hu hps hF hv hk1 he1 ⟨ho1,ho2⟩ (λV wv acc lvs v l u a b c e f=>zl0 hF d (by omega) V wv acc lvs v l u a b c e f) (by omega) _ _ lv ej rfl rfl ⟨⟨by omega,by omega,by omega⟩,⟨by omega,by omega,by omega⟩,by omega,by omega,by omega⟩ hV
  ·have h1:=Fl.wAll_gr (Fl.wStmt (Fl.wBlock p vs d) p vs u) (4+2*Fl.grw d) (l.take k) acc (λa s hs=>hS s (List.mem_of_mem_take hs) a)
   have h2:(l.take k).length<=16:=(by rw[List.length_take];have:=hsm.1;omega);have h3:(l.take k).length*(4+2*Fl.grw d)<=16*(4+2*Fl.grw d):=Nat.mul_le_mul_right _ h2;refine⟨by omega,λn hn=>?_⟩;have:=h1.2.2 n hn;omega
end
namespace Fl
def dupAt(ns:List Node)(k:Nat):Bool:=(List.range k).any (λi=>eqNode (nth ns i) (nth ns k))
def firstDup(ns:List Node):Int:=match (List.range ns.length).find? (dupAt ns) with|some k=>(k:Int)|none=> -1
def dupAt_iff(ns:List Node)(k:Nat)(hk:k<ns.length):dupAt ns k=true ↔ nth ns k∈ns.take k:=by
 unfold dupAt;rw[List.any_eq_true]
 constructor
 ·rintro⟨i,hi,he⟩
  simp only[List.mem_range]at hi;rw[<-(eqNode_iff _ _).1 he]
  have:nth ns i=(ns.take k)[i]'(by simp;omega):=by simp[nth,Qa,Qb (show i<ns.length by omega)]
  rw[this];exact List.getElem_mem _
 intro h;obtain⟨i,hi,he⟩:=List.getElem_of_mem h
 have a0:i<k:=by simp at hi;omega
 refine⟨i,by simpa using a0,(eqNode_iff _ _).2 ?_⟩;rw[<-he];simp[nth,Qa,Qb (show i<ns.length by omega)]
end Fl
def Zo.node{B:Nat}{w:World}{b off n cap:Nat}{ns:List Fl.Node}(h:Zo B w (.slice (some ⟨b,off,none⟩) n cap) ns){i:Nat}(hi:i<ns.length)(hB:B<=w.heap.size):∃lv,Xu w b (off+i*6) (Fl.nth ns i) lv:=by
 obtain⟨_,lv,h0,h1,h2,h3,h4,h5,h6⟩:=h.at hi;exact⟨lv,h1,h2,h3,h4,h5,h6,h0.mono hB⟩
structure SameRel(ns:List Fl.Node)(w wr:World)(j:Nat)(seen:List Fl.Node):Prop where
 hj:j<=ns.length
 hlen:seen.length=j
 hmem:∀x,x∈seen ↔ x∈ns.take j
 hno:∀t,t<j->Fl.dupAt ns t=false
 hs:zv5 wr (w.heap.size+1) w.heap.size seen
 hb:Below w.heap.size w wr
 hz:w.heap.size+2<=wr.heap.size
def zg3(ns:List Fl.Node)(nv:Value)(w:World)(hn:Zo w.heap.size w nv ns)(hf:∀i,i<ns.length->Fl.fits (Fl.nth ns i))(hlen:ns.length<=1000):
  Calls prog 132 #[nv] w λe w'=>e=.returned (.int .i64 (Fl.firstDup ns))/\Below w.heap.size w w':=by
 obtain⟨na,nc,rfl,_,hm,_⟩:=id hn;have HN:=Zz hn;clear hn hm
 go_enter func132,ntmps132
 go_wp2_with (go_at_call 92;refine(ze3 _).mono ?_;rintro e w1 ⟨rfl,e0,f0,r0⟩)
 have n0:=Zz e0;have o0:=Zz f0;clear e0 f0
 go_wp2_with fail
 go_loopw [10] (λi wr=>∃(j:Nat) (seen:List Fl.Node),i=.int .i64 j/\SameRel ns w wr j seen) (λi _=>ns.length - (intOf i).toNat)
 case atStart=>exact⟨0,[],rfl,⟨by omega,rfl,by simp,λt ht=>by omega,n0.out,o0.out,by omega⟩⟩
 case round=>
  obtain⟨j,seen,rfl,hr⟩:=hrel;have hj:=hr.hj;have HR:=Zz hr;clear hr
  by_cases a0:j<ns.length
  ·obtain⟨b,off,rfl⟩:∃b off,na=some ⟨b,off,none⟩:=by
    obtain⟨ao',cap',hv',_,_,hx'⟩:=HN.out;obtain⟨b,off,ha,_⟩:=hx' (by intro h;rw[h]at a0;simp at a0);simp only[Value.slice.injEq]at hv';exact⟨b,off,hv'.1.trans ha⟩
   obtain⟨lv,g0⟩:=(HN.out.below HR.out.hb).node a0 HR.out.hb.size;have h0:=hf j a0;have HC:Hid (Calls prog 96 #[.pointer (some ⟨b,off+j*6,none⟩)] wr λe w'=>e=.returned (.agg (Zc (Fl.nth ns j)).toArray)/\Below wr.heap.size wr w'):=zw1 g0 h0.2.2.2.2.2.1;have s0:(j:Int)<(ns.length:Int):=(by omega);clear g0
   go_wp2_with (go_at_call 96;refine(HC.out).mono ?_;rintro e w2 ⟨rfl,b0⟩)
   have i0:zv5 w2 (w.heap.size+1) w.heap.size seen:=HR.out.hs.kept (row:=none) ⟨b0.os,b0.tape,b0.output,b0.size,λk hk _=>b0.block k hk⟩ (by simp) (by simp);have j0:Hid (Below w.heap.size w w2):=HR.out.hb.trans (b0.mono HR.out.hb.size);have k0:w.heap.size+2<=w2.heap.size:=Nat.le_trans HR.out.hz b0.size;clear b0 HC;refine(ze4 i0 h0 (by have:=HR.out.hlen;omega)).mono ?_;rintro e w3 ⟨c,t,rfl,ht,l0,c0⟩;have m0:Hid (Below w.heap.size w w3):=j0.out.trans ⟨c0.os,c0.tape,c0.output,c0.size,λk hk=>c0.block k (by have:=j0.out.size;omega) (by simp;omega)⟩;have p0:w.heap.size+2<=w3.heap.size:=Nat.le_trans k0 c0.size;have q0:=Zz l0;have HT:=Zz ht;clear i0 l0 c0 ht k0
   cases t with
   |true=>
    have d0:Fl.dupAt ns j=true:=(Fl.dupAt_iff ns j a0).2 ((HR.out.hmem _).1 (HT.out.1 rfl));have HF:Hid (Fl.firstDup ns=(j:Int)):=by
     show Fl.firstDup ns=(j:Int);unfold Fl.firstDup;rw[Fl.find_first _ _ j HR.out.hno a0 d0]
    clear d0;go_wp2;go_ret;exact⟨zz7 HF.out.symm,m0.out⟩
   |false=>
    have HD:Hid (Fl.dupAt ns j=false):=by
     show Fl.dupAt ns j=false;rw[Bool.eq_false_iff];intro h
     have:=HT.out.2 ((HR.out.hmem _).2 ((Fl.dupAt_iff ns j a0).1 h));cases this
    go_wp2
    go_roundw
    case rel=>
     refine⟨j+1,Fl.nth ns j::seen,by go_num,⟨by omega,by simp[HR.out.hlen],λx=>?_,λt ht=>?_,q0.out,m0.out,p0⟩⟩
     ·rw[Fl.take_snocN ns j a0,List.mem_cons,List.mem_append,List.mem_singleton,HR.out.hmem x];exact or_comm
     by_cases h:t<j
     ·exact HR.out.hno t h
     have:t=j:=by omega
     subst this;exact HD.out
    case measure=>simp[intOf];omega
  have HF:Hid (Fl.firstDup ns= -1):=by
   show Fl.firstDup ns= -1;unfold Fl.firstDup;rw[Fl.find_none _ _ (λk hk=>HR.out.hno k (by omega))]
  go_wp2;go_ret;exact⟨zz7 HF.out.symm,HR.out.hb⟩
namespace Fl
def usedBy(ns:List Node)(j k:Nat):Bool:=(List.range j).any (λt=>(prem (nth ns t)).any (λp=>p==(k:Int)))
def firstUn(ns:List Node):Int:=match (List.range (ns.length - 1)).find? (λk=> !usedBy ns ns.length k) with|some k=>(k:Int)|none=> -1
def usedBy_succ(ns:List Node)(j k:Nat):usedBy ns (j+1) k=(usedBy ns j k||(prem (nth ns j)).any (λp=>p==(k:Int))):=by
 unfold usedBy;rw[List.range_succ,List.any_append];simp
end Fl
def zov{w:World}{b:Nat}{te:TypeId}{fr:Nat×Nat}(h:w.heap[b]?=some (.cells Zv te fr)):Yq w b 0:=by
 have q:∀i,w.cell? ⟨b,i,none⟩=Zv[i]?:=λi=>cell_of_row w b i Zv te fr h;intro k hk
 have:k=0\/k=1\/k=2\/k=3\/k=4\/k=5\/k=6\/k=7:=by omega
 rcases this with rfl|rfl|rfl|rfl|rfl|rfl|rfl|rfl<;>exact⟨(q _).trans rfl,(q _).trans rfl,(q _).trans rfl⟩
def Yq.below{w w':World}{b ro:Nat}(h:Yq w b ro)(hb:Below w.heap.size w w'):Yq w' b ro:=λk hk=>by
 obtain⟨h1,h2,h3⟩:=h k hk;have a0:b<w.heap.size:=Qe w _ h1;exact⟨(hb.cell (p:=⟨b,_,none⟩) a0).trans h1,(hb.cell (p:=⟨b,_,none⟩) a0).trans h2,(hb.cell (p:=⟨b,_,none⟩) a0).trans h3⟩
structure zwy(w:World)(U n:Nat)(us:Nat->Bool):Prop where
 hu:∀i,i<n->w.cell? ⟨U,i,none⟩=some (.bool (us i))
 hf:∀i,w.frozen? ⟨U,i,none⟩=false
 hall:∀i v,w.cell? ⟨U,i,none⟩=some v->∃t,v=.bool t
def zwy.below{w w':World}{U n:Nat}{us:Nat->Bool}(h:zwy w U n us)(hb:Below w.heap.size w w')(hU:U<w.heap.size):zwy w' U n us:=by
 have q:∀i,w'.cell? ⟨U,i,none⟩=w.cell? ⟨U,i,none⟩:=λi=>hb.cell (p:=⟨U,i,none⟩) hU;exact⟨λi hi=>(q i).trans (h.hu i hi),λi=>(hb.frozen (p:=⟨U,i,none⟩) hU).trans (h.hf i),λi v hv=>h.hall i v ((q i).symm.trans hv)⟩
def zwy.set{w:World}{U n:Nat}{us:Nat->Bool}(h:zwy w U n us)(y:Nat)(hy:y<n):zwy (w.setCell ⟨U,y,none⟩ (.bool true)) U n (λi=>us i||i==y):=by
 have hs:(w.setCell ⟨U,y,none⟩ (.bool true)).cell? ⟨U,y,none⟩=some (.bool true):=Vn (h.hu y hy);refine⟨λi hi=>?_,λi=>(World.frozen?_setCell _ _ _ _).trans (h.hf i),λi v hv=>?_⟩
 ·by_cases e:i=y
  ·subst e;rw[hs];simp
  rw[Yw (λe'=>e e'.symm),h.hu i hi];simp[e]
 by_cases e:i=y
 ·subst e;rw[hs]at hv;exact⟨true,by injection hv with hv;exact hv.symm⟩
 rw[Yw (λe'=>e e'.symm)]at hv;exact h.hall i v hv
def zwy.apart{w:World}{U n:Nat}{us:Nat->Bool}(h:zwy w U n us){b o:Nat}{x:Int}(hc:w.cell? ⟨b,o,none⟩=some (.int .i64 x)):b≠U:=by
 intro e;subst e;obtain⟨t,ht⟩:=h.hall o _ hc;cases ht
structure Ua(ns:List Fl.Node)(w wr:World)(TB U:Nat)(us:Nat->Bool):Prop where
 hm:zwy wr U ns.length us
 hr:Yq wr TB 0
 hb:Below w.heap.size w wr
 hT:w.heap.size<=TB
 hU:TB<U
 hz:U<wr.heap.size
def Ua.below{ns:List Fl.Node}{w wr w':World}{TB U:Nat}{us:Nat->Bool}(h:Ua ns w wr TB U us)(hb:Below wr.heap.size wr w'):Ua ns w w' TB U us:=
 ⟨h.hm.below hb h.hz,h.hr.below hb,h.hb.trans (hb.mono h.hb.size),h.hT,h.hU,Nat.lt_of_lt_of_le h.hz hb.size⟩
def Ua.set{ns:List Fl.Node}{w wr:World}{TB U:Nat}{us:Nat->Bool}(h:Ua ns w wr TB U us)(y:Nat)(hy:y<ns.length):Ua ns w (wr.setCell ⟨U,y,none⟩ (.bool true)) TB U (λi=>us i||i==y):=by
 have hT:=h.hT;have hU:=h.hU;refine⟨h.hm.set y hy,λk hk=>?_,h.hb.setCell (by show w.heap.size<=U;omega) _,hT,hU,by have:=h.hz;simpa [World.setCell] using this⟩;obtain⟨h1,h2,h3⟩:=h.hr k hk;have g:=Yl wr U y (.bool true)
 have a0:some TB≠some U:=by simp;omega
 exact⟨g.cell h1 a0,g.cell h2 a0,g.cell h3 a0⟩
def Ua.congr{ns:List Fl.Node}{w wr:World}{TB U:Nat}{us us':Nat->Bool}(h:Ua ns w wr TB U us)(he:∀i,i<ns.length->us i=us' i):Ua ns w wr TB U us':=
 ⟨⟨λi hi=>by rw[<-he i hi];exact h.hm.hu i hi,h.hm.hf,h.hm.hall⟩,h.hr,h.hb,h.hT,h.hU,h.hz⟩
structure yvx(w:World)(pao:Option Addr)(ps:List Int):Prop where
 hx:ps≠[]->∃b off,pao=some ⟨b,off,none⟩/\∀i,i<ps.length->w.cell? ⟨b,off+i,none⟩=some (.int .i64 (ps.getD i 0))
def Tryz.infoBool:(Tryz.prog.info? 4).map (λi=>(i.zero,i.size,i.bytes))=some (some (.bool false),1,1):=by kernel_rfl
def zvw(ns:List Fl.Node)(nv:Value)(w:World)(hn:Zo w.heap.size w nv ns)(hlen:ns.length<=1000)
  (hk:∀i,i<ns.length->0<=(Fl.nth ns i).kind/\(Fl.nth ns i).kind<8) (hp:∀i,i<ns.length->∀p∈prem (Fl.nth ns i),0<=p/\p<ns.length):
  Calls prog 52 #[nv] w λe w'=>e=.returned (.int .i64 (Fl.firstUn ns))/\Below w.heap.size w w':=by
 obtain⟨i0,hi,A0,B0,C0⟩:=info_parts Tryz.infoBool;obtain⟨na,nc,rfl,_,hm,_⟩:=id hn;have HN:=Zz hn;have HK:=Zz hk;have HP:=Zz hp;clear hn hm hk hp
 go_enter func52,ntmps52
 go_wp2_with (first|(go_at_call 38;refine(zxw _).mono ?_;rintro e w1 ⟨rfl,rfl⟩)|(refine Uz rfl _ _ 98 rfl _ _ _ Zv rfl (by simp) rfl Tryz.infoRules zxx zv3 ?_)|(at_make;refine wpList_make_full _ rfl _ _ 206 rfl (w.heap.size+2) 4 i0 (.bool false) 1 underlying206 hi A0 B0 _ _ _ _ ns.length rfl rfl rfl rfl (by rw[C0];omega) (by unfold maxLen;omega) (by simp) ?_;intro w3 b0 k0))
 have s0:Below w.heap.size w w3:=((bA).alloc (by simp) _).grown k0 (by simp;omega) (λk h=>by cases h);have g0:Hid (Ua ns w w3 (w.heap.size+1) (w.heap.size+1+1) (λ_=>false)):=by
  have l0:((w.alloc (.cells Zv 98)).alloc (.cells Zv 98)).heap[w.heap.size+1]?=some (.cells Zv 98 (0,0)):=by
   have:=heap_alloc_last (w.alloc (.cells Zv 98)) (.cells Zv 98)
   rwa [World.size_alloc]at this
  rcases b0.2 with⟨h,_⟩|⟨g,cap',cur,hv,P0,h0,Q0,m0,R0,D0⟩
  ·cases h
  simp only[Value.slice.injEq,Option.some.injEq,Addr.mk.injEq]at hv;obtain⟨⟨E0,_⟩,_,n0⟩:=hv;subst n0;rw[<-E0]at h0;have o0:cur.toList=List.replicate ns.length (.bool false):=by
   have hl:cur.toList.length=ns.length:=(by simp;omega);have h2:=D0;rw[show (Value.bool false).cells=#[.bool false] from rfl,toList_madeCells_one,Nat.mul_one,List.take_of_length_le (by omega)]at h2;exact h2
  have hc:∀i,w3.cell? ⟨w.heap.size+1+1,i,none⟩=(List.replicate ns.length (Value.bool false))[i]?:=λi=>by
   rw[cell_of_row w3 _ i cur _ _ (by simpa using h0),<-o0];simp
  refine⟨⟨λi hi=>by rw[hc];simp[hi],λi=>by simp[World.frozen?,(by simpa using h0:w3.heap[w.heap.size+1+1]?=_)],λi v hv=>?_⟩,zov ((k0.block _ (by simp) (by simp)).trans l0),s0,by omega,by omega,?_⟩
  ·rw[hc]at hv;exact⟨false,(List.mem_replicate.1 (List.mem_of_getElem? hv)).2⟩
  have:=(Array.getElem?_eq_some_iff.1 h0).1;simpa using this
 obtain⟨TB,hTB⟩:=nmE (w.heap.size+1);rw[<-hTB]at g0⊢;obtain⟨U,hU⟩:=nmE (TB+1);rw[<-hU]at g0⊢;clear b0 k0 s0 hTB hU
 go_loopw [15] (λi wr=>∃(j:Nat),j<=ns.length/\i=.int .i64 j/\Ua ns w wr TB U (Fl.usedBy ns j)) (λi _=>ns.length - (intOf i).toNat)
 case atStart=>exact⟨0,by omega,rfl,g0.out.congr (λi _=>rfl)⟩
 case round=>
  clear g0;obtain⟨j,hj,rfl,hr⟩:=hrel;have HR:=Zz hr;clear hr
  by_cases d0:j<ns.length
  ·obtain⟨b,off,rfl⟩:∃b off,na=some ⟨b,off,none⟩:=by
    obtain⟨ao',cap',hv',_,_,hx'⟩:=HN.out;obtain⟨b,off,ha,_⟩:=hx' (by intro h;rw[h]at d0;simp at d0);simp only[Value.slice.injEq]at hv';exact⟨b,off,hv'.1.trans ha⟩
   obtain⟨lv,p0⟩:=(HN.out.below HR.out.hb).node d0 HR.out.hb.size;have F0:=HK.out j d0;obtain⟨x,hx⟩:∃x:Nat,(Fl.nth ns j).kind=(x:Int):=⟨(Fl.nth ns j).kind.toNat,by omega⟩;have G0:x<8:=(by omega);have c0:=p0.c0;rw[hx]at c0;have h3:=(HR.out.hr x G0).2.2;have h3':wr.cell? ⟨TB,x*4+3,none⟩=some (.func (.func (byF x)) #[] #[]):=(by simpa using h3);have H0:∀W,(callFunc (byF x) #[.pointer (some ⟨b,off+j*6,none⟩)]).run prog W=.ok (.enter (byF x) #[.pointer (some ⟨b,off+j*6,none⟩)]) W:=λW=>zs4 x _ W;have HC:Hid (Calls prog (byF x) #[.pointer (some ⟨b,off+j*6,none⟩)] wr.drew (Xg (prem (Fl.nth ns j)) wr.drew)):=by
    rw[<-hx];exact zmy (p0.below ((Below.refl _ _).drew))
   have t0:(j:Int)<(ns.length:Int):=(by omega);have S0:(x:Int)<8:=(by omega);clear p0 h3 F0 hx
   go_wp2_with fail
   go_region_with (refine(HC.out).mono ?_;rintro e w4 ⟨pv,rfl,I0,u0⟩;obtain⟨pao,pcap,rfl,_,v0,e0⟩:=I0)
   have x0:Hid (Ua ns w w4 TB U (Fl.usedBy ns j)):=HR.out.below ((Below.refl _ _).drew.trans u0);obtain⟨ps,q0⟩:=nmE (prem (Fl.nth ns j));rw[<-q0]at v0 e0⊢;have y0:=Zz q0;have j0:Hid (yvx w4 pao ps):=⟨λJ0=>by obtain⟨b,off,ha,_,hc⟩:=e0 J0;exact⟨b,off,ha,hc⟩⟩;unfold maxLen at v0;clear e0 q0 u0 HC H0 c0 h3'
   go_wp2_with fail
   simp only[List.getElem_toArray,List.getElem_cons_succ,List.getElem_cons_zero,Act.put,List.setIfInBounds_toArray,List.set_cons_succ,List.set_cons_zero]
   go_loopw [31] (λi wz=>∃(m:Nat),m<=ps.length/\i=.int .i64 m/\yvx wz pao ps/\Ua ns w wz TB U (λk=>Fl.usedBy ns j k||(ps.take m).any (λp=>p==(k:Int)))) (λi _=>ps.length - (intOf i).toNat)
   case atStart=>exact⟨0,by omega,rfl,j0.out,x0.out.congr (λk _=>by simp)⟩
   case round=>
    clear x0 j0;obtain⟨m,K0,rfl,e0,hu⟩:=hrel;have j0:=Zz e0;have HU:=Zz hu;clear e0 hu
    by_cases a0:m<ps.length
    ·obtain⟨pb,po,rfl,r0⟩:=j0.out.hx (by intro h;rw[h]at a0;simp at a0)
     have m0:=r0 m a0;have hr:=HP.out j d0 (ps.getD m 0) (by rw[<-y0.out];exact zz5 a0);obtain⟨y,hy⟩:∃y:Nat,ps.getD m 0=(y:Int):=⟨(ps.getD m 0).toNat,by omega⟩;rw[hy]at m0;have z0:y<ns.length:=(by omega);have T0:(y:Int)<(ns.length:Int):=(by omega);have HY:=Zz hy;have uy:=HU.out.hm.hu y z0;have uf:=HU.out.hm.hf;have L0:pb≠U:=HU.out.hm.apart m0;have M0:(m:Int)<(ps.length:Int):=(by omega);have N0:=Zz r0;clear hr hy r0;go_wp2
     go_roundw
     case rel=>
      refine⟨m+1,by omega,by go_num,⟨λ_=>⟨pb,po,rfl,λi hi=>(Yl _ _ _ _).cell (N0.out i hi) (by simpa using L0)⟩⟩,(HU.out.set y z0).congr (λk hk=>?_)⟩;rw[Fl.take_snocI ps m a0,List.any_append,HY.out];simp only[List.any_cons,List.any_nil,Bool.or_false];rw[<-Bool.or_assoc]
      congr 1
      rw[Bool.eq_iff_iff,beq_iff_eq,beq_iff_eq];omega
     case measure=>simp[intOf];omega
    have HE:Hid (Ua ns w wr TB U (Fl.usedBy ns (j+1))):=HU.out.congr (λk _=>by rw[Fl.usedBy_succ,<-y0.out,List.take_of_length_le (by omega)]);go_wp2
    go_roundw
    case rel=>exact⟨j+1,by omega,by go_num,HE.out⟩
    case measure=>simp[intOf];omega
  have t0:j=ns.length:=(by omega);subst t0;clear hj d0
  go_wp2_with fail
  go_loop [43] (λi=>∃m:Nat,m<=ns.length/\i=.int .i64 m/\∀t,t<m->Fl.usedBy ns ns.length t=true) (λi=>ns.length - (intOf i).toNat)
  case atStart=>exact⟨0,by omega,rfl,λt ht=>by omega⟩
  case round=>
   obtain⟨m,K0,rfl,hall⟩:=hrel;have HA:=Zz hall;clear hall
   by_cases d0:(m:Int)<(ns.length:Int) - 1
   ·have um:=HR.out.hm.hu m (by omega)
    have M0:(m:Int)<(ns.length:Int):=(by omega)
    cases f0:Fl.usedBy ns ns.length m with
    |true=>
     rw[f0]at um;have O0:=Zz f0;clear f0;go_wp2
     go_round
     case rel=>exact⟨m+1,by omega,by go_num,λt ht=>by
      by_cases h:t<m
      ·exact HA.out t h
      have:t=m:=by omega
      subst this;exact O0.out⟩
     case measure=>simp[intOf];omega
    |false=>
     rw[f0]at um;have HF:Hid (Fl.firstUn ns=(m:Int)):=by
      show Fl.firstUn ns=(m:Int);unfold Fl.firstUn;rw[Fl.find_first _ _ m (λt ht=>by rw[HA.out t ht];rfl) (by omega) (by rw[f0];rfl)]
     clear f0;go_wp2;go_ret;exact⟨zz7 HF.out.symm,HR.out.hb⟩
   have HF:Hid (Fl.firstUn ns= -1):=by
    show Fl.firstUn ns= -1;unfold Fl.firstUn;rw[Fl.find_none _ _ (λk hk=>by rw[HA.out k (by omega)];rfl)]
   go_wp2;go_ret;exact⟨zz7 HF.out.symm,HR.out.hb⟩
end Go.Proofs.YtminjljgedopkaaGreatDoor
