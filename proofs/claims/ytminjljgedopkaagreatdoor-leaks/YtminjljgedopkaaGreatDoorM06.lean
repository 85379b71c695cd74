import Derived.Test.YtminjljgedopkaaGreatDoorM05
import Derived.Laws.BitsAllLaws
set_option linter.all false
set_option maxRecDepth 100000
set_option maxHeartbeats 40000000
namespace Go.Proofs.YtminjljgedopkaaGreatDoor
open Go.Proofs.Tryz
namespace Fl
def filt_le{α:Type}{f g:α->Bool}:∀(l:List α),(∀x∈l,f x=true->g x=true)->(l.filter f).length<=(l.filter g).length
 |[],_=>Nat.le_refl _
 |a::l,h=>by
  have ih:=filt_le l (λx hx=>h x (by simp[hx]));have h0:=h a (by simp);rw[List.filter_cons,List.filter_cons]
  cases hf:f a
  ·cases g a<;>simp<;>omega
  ·rw[h0 hf];simp;exact ih
def filt_lt{α:Type}{f g:α->Bool}:∀(l:List α) (y:α),y∈l->(∀x∈l,f x=true->g x=true)->g y=true->f y=false->(l.filter f).length<(l.filter g).length
 |[],_,hy,_,_,_=>by cases hy
 |a::l,y,hy,h,hg,hf=>by
  rcases List.mem_cons.1 hy with rfl|hy
  ·have:=filt_le l (λx hx=>h x (by simp[hx]))
   rw[List.filter_cons,List.filter_cons,hg,hf];simp;omega
  ·have ih:=filt_lt l y hy (λx hx=>h x (by simp[hx])) hg hf
   have h0:=h a (by simp);rw[List.filter_cons,List.filter_cons]
   cases hfa:f a
   ·cases g a<;>simp<;>omega
   ·rw[h0 hfa];simp;exact ih
def above(p:Prog)(v:Int):Nat:=((List.range p.n).filter λy=>p.leq v.toNat y).length
def above_le(p:Prog)(v:Int):above p v<=p.n:=by
 unfold above;have:=List.length_filter_le (λy=>p.leq v.toNat y) (List.range p.n);rw[List.length_range]at this;exact this
def above_lt{p:Prog}(h:p.Lv){a b:Int}(ha:0<=a/\a<p.n)(hb:0<=b/\b<p.n)(hn:p.leq b.toNat a.toNat=false):above p (Fl.jn p a b)<above p a:=by
 obtain⟨k,h1,h2,h3,h4,h5⟩:=h.lat.joins a.toNat b.toNat (by omega) (by omega)
 have e:(Fl.jn p a b).toNat=k:=by unfold Fl.jn;rw[h2];simp
 unfold above;rw[e];refine filt_lt _ a.toNat (by simp;omega) (λx hx hk=>?_) (h.lat.refl _ (by omega)) ?_
 ·rw[List.mem_range]at hx
  exact h.lat.trans a.toNat k x (by omega) h1 hx h3 hk
 ·cases hc:p.leq k a.toNat
  ·rfl
  ·have:=h.lat.trans b.toNat k a.toNat (by omega) h1 (by omega) h4 hc
   rw[hn]at this;cases this
def rank(p:Prog)(vs:List Int):Nat:=((vs.drop p.cells.length).map (above p)).sum
def sum_set{f:Int->Nat}{v:Int}:∀(l:List Int) (i:Nat) (h:i<l.length),f v<f l[i]->((l.set i v).map f).sum<(l.map f).sum
 |a::l,0,_,hv=>by simp at hv⊢;omega
 |a::l,i+1,h,hv=>by
  have ih:=sum_set l i (by simpa using h) (by simpa using hv);rw[List.set_cons_succ,List.map_cons,List.map_cons,List.sum_cons,List.sum_cons];omega
def sum_le{f:Int->Nat}{c:Nat}:∀(l:List Int),(∀x,f x<=c)->(l.map f).sum<=l.length*c
 |[],_=>by simp
 |a::l,h=>by
  have:=sum_le l h;have:=h a;simp[Nat.succ_mul];omega
def rank_le{p:Prog}(h:p.Lv)(ho:p.Ok){vs:List Int}(hv:LvOk p vs):rank p vs<25:=by
 have h1:=sum_le (f:=above p) (c:=6) (vs.drop p.cells.length) (λx=>Nat.le_trans (above_le p x) h.n6)
 have h2:(vs.drop p.cells.length).length<=4:=by rw[List.length_drop,hv.1];have:=ho.lo;omega
 unfold rank;omega
def set_ok{p:Prog}{vs:List Int}(hv:LvOk p vs)(x:Nat){v:Int}(h:0<=v/\v<p.n):LvOk p (vs.set x v):=by
 refine⟨by rw[List.length_set];exact hv.1,λi hi=>?_⟩;rw[List.length_set]at hi;rw[List.getD_eq_getElem?_getD,List.getElem?_set]
 split
 ·split
  ·exact h
  ·omega
 ·have:=hv.2 i hi
  rw[List.getD_eq_getElem?_getD]at this;exact this
def rise_ok{p:Prog}(h:p.Lv){vs:List Int}(hv:LvOk p vs){m:Stmt×Int}(hm:PlOk p vs m.1/\∃k:Nat,k<p.n/\m.2=(k:Int))(hl:ofLocal p m.1=true)(hf:fitsM p vs m=false):
  LvOk p (vs.set m.1.x (jn p (vs.getD m.1.x 0) m.2))/\rank p (vs.set m.1.x (jn p (vs.getD m.1.x 0) m.2))<rank p vs:=by
 obtain⟨hp,k,hk,ek⟩:=hm;unfold ofLocal at hl;rw[Bool.and_eq_true,decide_eq_true_eq,decide_eq_true_eq]at hl
 have hx:m.1.x<vs.length:=by rcases hp with h|h<;>omega
 have hvx:=hv.2 m.1.x hx
 have hm2:0<=m.2/\m.2<p.n:=by rw[ek];omega
 refine⟨set_ok hv _ (h.jn hvx hm2),?_⟩;unfold fitsM under at hf;rw[if_neg (by omega)]at hf;have h1:=above_lt h hvx hm2 hf;unfold rank;rw[List.drop_set,if_neg (by omega)]
 have hi:m.1.x - p.cells.length<(vs.drop p.cells.length).length:=by rw[List.length_drop];omega
 refine sum_set _ _ hi ?_;have e:(vs.drop p.cells.length)[m.1.x - p.cells.length]=vs.getD m.1.x 0:=by
  rw[List.getElem_drop,List.getD_eq_getElem?_getD];have e2:p.cells.length+(m.1.x - p.cells.length)=m.1.x:=(by omega);simp only[e2];rw[List.getElem?_eq_getElem hx];rfl
 rw[e];exact h1
end Fl
open Go.RowKit
def zyz{P:Program}{Q:Exit->Act->World->Prop}{a:Act}{w:World}{c':Code}(l:Nat)(J:Act->World->Prop)(μ:Act->World->Nat)(hJ:J a w)
  (pass:∀a w,J a w->c'.wp P (Exit.jump l (λa' w'=>J a' w'/\μ a' w'<μ a w) Q) a w):(Code.scope ((Code.label l).seq c')).wp P Q a w:=by
 refine wp_scope_jumps l J μ (rest:=.seq .skip c') (by simp[findLabel]) ?_ (λa w h=>?_)
 ·apply wp_seq
  apply wp_label
  refine wp_mono (pass a w hJ) (λe a w h=>?_)
  cases e<;>first|exact h|exact⟨h.1,h.2.1⟩
 apply wp_seq
 apply wp_skip
 exact pass a w h
def vAddr(vv:Value)(i:Nat):Addr:=match vv with
 | .slice (some a) _ _=>⟨a.block,a.off+i,none⟩
 |_=>⟨0,0,none⟩
def intAt(w:World)(a:Addr):Int:=match w.cell? a with
 |some (.int _ z)=>z
 |_=>0
def zt0(w:World)(vv:Value)(n:Nat):List Int:=(List.range n).map λi=>intAt w (vAddr vv i)
def zi4{B:Nat}{w:World}{vv:Value}{vs:List Int}(h:Zy B w vv vs):zt0 w vv vs.length=vs:=by
 refine List.ext_getElem (by simp[zt0]) (λi h1 h2=>?_);obtain⟨b,off,cap,rfl,-,-,-,hc⟩:=zxz h h2;simp only[zt0,List.getElem_map,List.getElem_range,vAddr,intAt,hc];rw[List.getD_eq_getElem?_getD,List.getElem?_eq_getElem h2];rfl
structure zyy(w:World)(b Fb Pb Lb:Nat)(chv:Value)(S:Nat->Prop):Prop where
 f:Fb≠b
 p:Pb≠b
 l:Lb≠b
 s:∀c,S c->c≠b
 c:∀b' o n cap,0<n->chv=.slice (some ⟨b',o,none⟩) n cap->b'≠b
 z:∀j,w.frozen? ⟨b,j,none⟩=false
 hb:b<w.heap.size
def zyy.below{w w':World}{b Fb Pb Lb:Nat}{chv:Value}{S:Nat->Prop}(h:zyy w b Fb Pb Lb chv S)(hb:Below w.heap.size w w'):zyy w' b Fb Pb Lb chv S:=
 ⟨h.f,h.p,h.l,h.s,h.c,λj=>(hb.frozen (p:=⟨b,j,none⟩) h.hb).trans (h.z j),Nat.lt_of_lt_of_le h.hb hb.size⟩
def zyy.set{w:World}{b Fb Pb Lb:Nat}{chv:Value}{S:Nat->Prop}(h:zyy w b Fb Pb Lb chv S)(j:Nat)(v:Value):zyy (w.setCell ⟨b,j,none⟩ v) b Fb Pb Lb chv S:=
 ⟨h.f,h.p,h.l,h.s,h.c,λi=>by rw[World.frozen?_setCell];exact h.z i,by rw[Zu];exact h.hb⟩
section
variable{w:World}{Fb Pb Lb:Nat}{clv chv bv vv:Value}{S:Nat->Prop}{p:Fl.Prog}{vs:List Int}{b off n cap:Nat}
def Xy.set(h:Xy w Fb Pb Lb clv chv bv (.slice (some ⟨b,off,none⟩) n cap) S p vs)(hs:zyy w b Fb Pb Lb chv S){x:Nat}(hx:x<vs.length){v:Int}(hv:0<=v/\v<p.n):Xy (w.setCell ⟨b,off+x,none⟩ (.int .i64 v)) Fb Pb Lb clv chv bv (.slice (some ⟨b,off,none⟩) n cap) S p (vs.set x v):=by
 have q:∀c j,c≠b->(w.setCell ⟨b,off+x,none⟩ (.int .i64 v)).cell? ⟨c,j,none⟩=w.cell? ⟨c,j,none⟩:=λc j hc=>World.cell?_of_block (a:=⟨c,j,none⟩) (Zx _ _ _ _ _ hc);have hz:=Zu w ⟨b,off+x,none⟩ (.int .i64 v)
 exact{
  hF:=by rw[hz];exact h.hF
  c0:=(q _ _ hs.f).trans h.c0
  c1:=(q _ _ hs.f).trans h.c1
  lv:=⟨by rw[hz];exact h.lv.hz,(q _ _ hs.p).trans h.lv.p0,h.lv.la.block (Zx _ _ _ _ _ hs.l),h.lv.lv⟩
  p1:=(q _ _ hs.p).trans h.p1
  p2:=(q _ _ hs.p).trans h.p2
  p4:=(q _ _ hs.p).trans h.p4
  ce:=h.ce
  ch:=by
   obtain⟨ao,cp,e,h1,h2,h3⟩:=h.ch;refine⟨ao,cp,e,h1,h2,λhn=>?_⟩;obtain⟨b',o',ea,hb',hc⟩:=h3 hn;have hne:b'≠b:=hs.c b' o' _ _ (List.length_pos_iff.2 hn) (by rw[e,ea]);exact⟨b',o',ea,by rw[hz];exact hb',λi hi=>(q _ _ hne).trans (hc i hi)⟩
  vi:=by
   obtain⟨ao,cp,e,h1,h2,h3⟩:=h.vi;obtain⟨b',o',ea,hb',hc⟩:=h3 (by intro e;rw[e]at hx;cases hx);injection e with e1 e2 e3;subst e2;subst e3;rw[ea]at e1;injection e1 with e1;injection e1 with e4 e5;subst e4;subst e5;refine⟨_,_,by rw[List.length_set],by rw[List.length_set];exact h1,by rw[List.length_set];exact h2,λ_=>⟨b,off,rfl,by rw[hz];exact hb',λi hi=>?_⟩⟩;rw[List.length_set]at hi;rw[List.getD_eq_getElem?_getD,List.getElem?_set]
   by_cases hxi:x=i
   ·subst hxi
    rw[if_pos rfl,if_pos hx];exact World.cell?_setCell_same' _ _ _ (by rw[hc x hx];rfl)
   ·rw[if_neg hxi]
    refine(World.cell?_setCell_other _ _ _ _ (by intro hh;injection hh with _ h5;omega)).trans ?_;rw[<-List.getD_eq_getElem?_getD];exact hc i hi
  bo:=Zt.kept (λ_ h=>h) (λc hc=>Zx _ _ _ _ _ (hs.s c hc)) _ _ _ h.bo
  hS:=λc hc=>by rw[hz];exact h.hS c hc
  ok:=Fl.set_ok h.ok x hv
  pk:=h.pk}
end
def zq5(w:World)(base b Fb Pb Lb:Nat)(clv chv bv vv:Value)(S:Nat->Prop)(p:Fl.Prog)(vs:List Int)(e:Ending)(w':World):Prop:=e=.returned (.tuple #[])/\Xy w' Fb Pb Lb clv chv bv vv S p (Fl.raise p 25 vs)/\zyy w' b Fb Pb Lb chv S/\Below base w w'
section
variable{w:World}{Fb Pb Lb:Nat}{clv chv bv vv:Value}{S:Nat->Prop}{p:Fl.Prog}{vs:List Int}{b base:Nat}
def zmz(h:Xy w Fb Pb Lb clv chv bv vv S p vs)(hs:zyy w b Fb Pb Lb chv S)(hvb:∀b' o n cap,vv=.slice (some ⟨b',o,none⟩) n cap->b'=b)(hbb:base<=b):Calls prog 64 #[.pointer (some ⟨Fb,0,none⟩)] w (zq5 w base b Fb Pb Lb clv chv bv vv S p vs):=by
 have HH:Hid (Xy w Fb Pb Lb clv chv bv vv S p vs):=h;have HSP:Hid (zyy w b Fb Pb Lb chv S):=hs;have HVB:Hid (∀b' o n cap,vv=.slice (some ⟨b',o,none⟩) n cap->b'=b):=hvb;clear h hs hvb
 go_enter func64,ntmps64
 obtain⟨J,hJ⟩:∃J:Act->World->Prop,J=λa' w'=>∃(vs':List Int) (f:Nat),(∃(u1 u2 u3 u4 u5 u6 u7 u8 u9 u10 u11 u12 u13 u14 u15 u16 u17 u18 u19 u20 u21 u22 u23 u24 u25 u26 u27 u28 u29 u30 u31 u32 u33 u34 u35 u36 u37 u38 u39 u40 u41 u42 u43 u44 u45 u46 u47 u48 u49 u50:Value),a'={tmps:=#[.pointer (some ⟨Fb,0,none⟩),u1,u2,u3,u4,u5,u6,u7,u8,u9,u10,u11,u12,u13,u14,u15,u16,u17,u18,u19,u20,u21,u22,u23,u24,u25,u26,u27,u28,u29,u30,u31,u32,u33,u34,u35,u36,u37,u38,u39,u40,u41,u42,u43,u44,u45,u46,u47,u48,u49,u50],defers:=[]})/\Xy w' Fb Pb Lb clv chv bv vv S p vs'/\zyy w' b Fb Pb Lb chv S/\Below base w w'/\vs'.length=vs.length/\Fl.rank p vs'<f/\Fl.raise p f vs'=Fl.raise p 25 vs:=⟨_,rfl⟩;obtain⟨μ,hμ⟩:∃μ:Act->World->Nat,μ=λa' w'=>Fl.rank p (zt0 w' vv vs.length):=⟨_,rfl⟩;have HJ:Hid (J=_):=hJ;have HMU:Hid (μ=_):=hμ;refine zyz 0 J μ ?_ ?_
 ·rw[hJ];exact⟨vs,25,⟨_,_,_,_,_,_,_,_,_,_,_,_,_,_,_,_,_,_,_,_,_,_,_,_,_,_,_,_,_,_,_,_,_,_,_,_,_,_,_,_,_,_,_,_,_,_,_,_,_,_,rfl⟩,HH.out,HSP.out,Below.refl _ _,rfl,Fl.rank_le HH.out.lv.lv HH.out.pk HH.out.ok,rfl⟩
 intro a' W hJW;rw[hJ]at hJW;obtain⟨vs',f,⟨u1,u2,u3,u4,u5,u6,u7,u8,u9,u10,u11,u12,u13,u14,u15,u16,u17,u18,u19,u20,u21,u22,u23,u24,u25,u26,u27,u28,u29,u30,u31,u32,u33,u34,u35,u36,u37,u38,u39,u40,u41,u42,u43,u44,u45,u46,u47,u48,u49,u50,rfl⟩,hfn,hsp,hbl,hlen,hrk,hrs⟩:=hJW;clear hJ hμ
 have hso:Fl.StmtsOk vs'.length p.chans.length 4 p.body:=by rw[hfn.ok.1];exact hfn.pk.body
 obtain⟨lw,hlt,elw⟩:∃lw:Nat,lw<p.n/\Fl.low p=(lw:Int):=⟨(Fl.low p).toNat,by have:=hfn.lv.lv.low;omega,by have:=hfn.lv.lv.low;omega⟩;have hin:=zv2 hfn.lv.lv hfn.ok 4 p.body lw hso hlt;have hle:(Fl.moves p vs' 4 p.body lw).length<=48 ^ 4:=Fl.moves_len p vs' 4 p.body lw (Zt.small _ _ _ hfn.bo);rw[<-elw]at hin hle;have HC:Hid (Calls prog 109 #[.pointer (some ⟨Fb,0,none⟩)] W (Jw S W (Fl.moves p vs' 4 p.body (Fl.low p)))):=zi3 hfn;have HD:Hid (Fl.rise p vs'=match (Fl.moves p vs' 4 p.body (Fl.low p)).find? (λm=>Fl.ofLocal p m.1 && !Fl.fitsM p vs' m) with|some m=>some (vs'.set m.1.x (Fl.jn p (vs'.getD m.1.x 0) m.2))|none=>none):=rfl;obtain⟨ms,hms⟩:∃ms,ms=Fl.moves p vs' 4 p.body (Fl.low p):=⟨_,rfl⟩;rw[<-hms]at hin hle HC HD;have HIN:Hid (∀m∈ms,PlOk p vs' m.1/\∃k:Nat,k<p.n/\m.2=(k:Int)):=hin;have hle':ms.length<=5308416:=hle;have HW:Hid (Xy W Fb Pb Lb clv chv bv vv S p vs'):=hfn;have HSW:Hid (zyy W b Fb Pb Lb chv S):=hsp;have HRS:Hid (Fl.rank p vs'<f/\Fl.raise p f vs'=Fl.raise p 25 vs):=⟨hrk,hrs⟩;have HBL:Hid (Below base w W):=hbl;have HLE:Hid (vs'.length=vs.length):=hlen;have hWz:base<=W.heap.size:=Nat.le_of_lt (Nat.lt_of_le_of_lt hbb hsp.hb);clear hso hlt elw hin hle hms hfn hsp hbl hlen hrk hrs
 go_wp2_with fail
 refine HC.out.mono ?_;rintro e W1 ⟨v,rfl,hmv,hbel⟩;have HMV:Hid (Ya S W.heap.size W1 v ms):=hmv;have HB1:Hid (Below W.heap.size W W1):=hbel;obtain⟨ao,cap,hva,hcap⟩:∃ao cap,v=.slice ao ms.length cap/\ms.length<=cap:=by
  obtain⟨qs,h1,-,-⟩:=hmv;rcases h1.2 with⟨rfl,h0⟩|⟨g,cap,cur,rfl,-,-,hc,-⟩
  ·exact⟨none,0,by rw[h0],by omega⟩
  ·exact⟨_,cap,rfl,hc⟩
 subst hva;clear HC hmv hbel
 go_wp2_with fail
 go_loopw [8] (λi wr=>∃(k:Nat),k<=ms.length/\i=.int .i64 k/\(∀t,(ht:t<k)->(ht':t<ms.length)->(Fl.ofLocal p ms[t].1 && !Fl.fitsM p vs' ms[t])=false)/\Below W1.heap.size W1 wr) (λi _=>ms.length - (intOf i).toNat)
 case atStart=>exact⟨0,by omega,rfl,λt ht=>absurd ht (by omega),Below.refl _ _⟩
 case round=>
  obtain⟨k,hk,rfl,hfit,hbr⟩:=hrel
  by_cases hlt:k<ms.length
  ·obtain⟨qs,h1,h2,-⟩:=HMV.out.low hbr (λb hb=>Nat.lt_of_lt_of_le (HW.out.hS b hb) HB1.out.size)
   obtain⟨mk,hmk⟩:∃mk,mk=ms[k]'hlt:=⟨_,rfl⟩;obtain⟨q,hq1,hq2,hq3⟩:=h2.get k mk (by rw[hmk];exact List.getElem?_eq_getElem hlt);obtain⟨hpl,lk,hlk,elk⟩:=HIN.out mk (by rw[hmk];exact List.getElem_mem hlt);obtain⟨c1,c2⟩:=zf5 qs k q hq1;rcases id h1.2 with⟨e0,h0⟩|⟨g,cap',cur,e0,hg1,hg2,-⟩
   ·omega
   ·injection e0 with e0 e00 e01
    subst e0;subst e01;have a0:=h1.cells (g:=g) rfl _ _ c1;have a1:=h1.cells (g:=g) rfl _ _ c2
    have ad:∀j,(⟨g,0,none⟩:Addr).add j=⟨g,j,none⟩:=λj=>by unfold Addr.add;split<;>simp_all
    rw[ad]at a0 a1;obtain⟨sb,eq1,hSs,k0,k1,k2⟩:=id hq3;rw[eq1]at a0;rw[hq2,elk]at a1;have hltI:(k:Int)<(ms.length:Int):=(by omega);have HBR:Hid (Below W.heap.size W wr):=HB1.out.trans (hbr.mono HB1.out.size);have hbs:=HBR.out.size;have hsz:sb<wr.heap.size:=Nat.lt_of_lt_of_le (HW.out.hS sb hSs) hbs;have hx100:mk.1.x<=100:=by
     have h5:=HW.out.ok.1;have h6:=HW.out.pk.ce;have h7:=HW.out.pk.lo;have h8:=HW.out.pk.ch;rcases hpl with h|h<;>omega
    have HLO:Hid (∀V,Below wr.heap.size wr V->Calls prog 110 #[.pointer (some ⟨Fb,0,none⟩),.pointer (some ⟨sb,0,none⟩)] V λr w'=>r=.returned (.bool (Fl.ofLocal p mk.1))/\Below V.heap.size V w'):=λV hV=>by
     have h5:=zg0 (HW.out.below (HBR.out.trans (hV.mono hbs))) (hq3.kept (λ_ h=>h) (λb hb=>hV.block b (Nat.lt_of_lt_of_le (HW.out.hS b hb) hbs))) hx100;rw[eq1]at h5;exact h5
    have HFT:Hid (∀V,Below wr.heap.size wr V->Calls prog 111 #[.pointer (some ⟨Fb,0,none⟩),.agg #[.pointer (some ⟨sb,0,none⟩),.int .i64 lk]] V λr w'=>r=.returned (.bool (Fl.fitsM p vs' mk))/\Below V.heap.size V w'):=λV hV=>by
     have h5:=zi2 (HW.out.below (HBR.out.trans (hV.mono hbs))) (hq3.kept (λ_ h=>h) (λb hb=>hV.block b (Nat.lt_of_lt_of_le (HW.out.hS b hb) hbs))) lk hlk hpl;rw[eq1,<-elk]at h5;rw[elk]at h5;rw[show mk=(mk.1,(lk:Int)) from by rw[<-elk]];exact h5
    have HX:Hid (∀V,Below wr.heap.size wr V->V.cell? ⟨sb,2,none⟩=some (.int .i64 mk.1.x)):=λV hV=>(hV.cell (p:=⟨sb,2,none⟩) hsz).trans k2;have HFIT:Hid (∀t,(ht:t<k)->(ht':t<ms.length)->(Fl.ofLocal p ms[t].1 && !Fl.fitsM p vs' ms[t])=false):=hfit;obtain⟨W2,hW2⟩:∃W2,W2=wr.alloc (.cells #[.pointer (some ⟨sb,0,none⟩),.int .i64 lk] 222):=⟨_,rfl⟩;have HB2:Hid (Below wr.heap.size wr W2):=(by show Below _ _ _;rw[hW2];exact bA);have hz2:wr.heap.size<W2.heap.size:=(by rw[hW2];simp);have HT2:Hid (∀V,Below W2.heap.size W2 V->V.cell? ⟨wr.heap.size,0,none⟩=some (.pointer (some ⟨sb,0,none⟩))/\V.cell? ⟨wr.heap.size,1,none⟩=some (.int .i64 lk)):=λV hV=>⟨(hV.cell (p:=⟨wr.heap.size,0,none⟩) hz2).trans (by rw[hW2];simp),(hV.cell (p:=⟨wr.heap.size,1,none⟩) hz2).trans (by rw[hW2];simp)⟩;have HLT:Hid (k<ms.length):=hlt;have HPL:Hid (PlOk p vs' mk.1):=hpl
    have HNX:Hid ((Fl.ofLocal p mk.1 && !Fl.fitsM p vs' mk)=false->∀t,(ht:t<k+1)->(ht':t<ms.length)->(Fl.ofLocal p ms[t].1 && !Fl.fitsM p vs' ms[t])=false):=λhh t ht ht'=>by
     by_cases htk:t=k
     ·subst htk;rw[<-hmk];exact hh
     ·exact HFIT.out t (by omega) ht'
    have HHIT:Hid ((Fl.ofLocal p mk.1 && !Fl.fitsM p vs' mk)=true->Fl.rise p vs'=some (vs'.set mk.1.x (Fl.jn p (vs'.getD mk.1.x 0) mk.2))):=λhh=>by
     have h5:=HD.out;rw[zpx (f:=λm=>Fl.ofLocal p m.1 && !Fl.fitsM p vs' m) hlt (λt ht=>HFIT.out t ht (by omega)) (by show (Fl.ofLocal p _ && !Fl.fitsM p vs' _)=true;rw[<-hmk];exact hh),<-hmk]at h5;exact h5
    have HEL:Hid (mk.2=(lk:Int)/\lk<p.n):=⟨elk,hlk⟩;clear hfit hmk h1 h2 hq1 hq2 hq3 hpl c1 c2 hg1 hg2 ad k0 k1 k2 eq1 elk hlk
    cases hlo:Fl.ofLocal p mk.1
    ·have HN:Hid (∀t,(ht:t<k+1)->(ht':t<ms.length)->(Fl.ofLocal p ms[t].1 && !Fl.fitsM p vs' ms[t])=false):=HNX.out (by rw[hlo];rfl)
     rw[hlo]at HLO;clear hlo HNX HHIT HFT HX HPL HEL
     go_wp2_with fail
     rw[<-hW2];refine(HLO.out _ HB2.out).mono ?_;rintro e W3 ⟨rfl,hB3⟩;have hb3:Below W1.heap.size W1 W3:=hbr.trans ((HB2.out.trans (hB3.mono HB2.out.size)).mono hbr.size);clear hB3 hW2 a0 a1 HT2 HLO;go_wp2
     go_roundw
     case rel=>exact⟨k+1,by have:=HLT.out;omega,by go_num,HN.out,hb3⟩
     case measure=>simp[intOf];omega
    ·cases hf:Fl.fitsM p vs' mk
     ·have hhit:=HHIT.out (by rw[hlo,hf];rfl)
      have hxl:mk.1.x<vs'.length:=by
       have h5:=hlo;unfold Fl.ofLocal at h5;rw[Bool.and_eq_true,decide_eq_true_eq]at h5;rcases HPL.out with h|h
       ·exact h.2
       ·omega
      obtain⟨b',off,cap2,hvv,q1,q2,q3,q4⟩:=zxz HW.out.vi hxl;have hbe:=HVB.out b' off _ _ hvv;subst hbe;obtain⟨vx,hvx,evx⟩:=za5 HW.out.ok hxl;rw[evx]at q4;obtain⟨jv,hjv,ejv⟩:=HW.out.lv.lv.join hvx HEL.out.2;have EJ:Fl.jn p (vs'.getD mk.1.x 0) mk.2=(jv:Int):=(by unfold Fl.jn;rw[evx,HEL.out.1];exact ejv);have hro:=Fl.rise_ok HW.out.lv.lv HW.out.ok (m:=mk) ⟨HPL.out,lk,HEL.out.2,HEL.out.1⟩ hlo hf;rw[EJ]at hro hhit;obtain⟨xx,hxx⟩:∃xx,xx=mk.1.x:=⟨_,rfl⟩;rw[<-hxx]at hro hhit hxl q4
      have HJN:Hid (∀V,Below W.heap.size W V->∀a'',(∃(u1 u2 u3 u4 u5 u6 u7 u8 u9 u10 u11 u12 u13 u14 u15 u16 u17 u18 u19 u20 u21 u22 u23 u24 u25 u26 u27 u28 u29 u30 u31 u32 u33 u34 u35 u36 u37 u38 u39 u40 u41 u42 u43 u44 u45 u46 u47 u48 u49 u50:Value),a''=({tmps:=#[.pointer (some ⟨Fb,0,none⟩),u1,u2,u3,u4,u5,u6,u7,u8,u9,u10,u11,u12,u13,u14,u15,u16,u17,u18,u19,u20,u21,u22,u23,u24,u25,u26,u27,u28,u29,u30,u31,u32,u33,u34,u35,u36,u37,u38,u39,u40,u41,u42,u43,u44,u45,u46,u47,u48,u49,u50],defers:=[]}:Act))->∀a0,J a'' (V.setCell ⟨b',off+xx,none⟩ (.int .i64 jv))/\μ a'' (V.setCell ⟨b',off+xx,none⟩ (.int .i64 jv))<μ a0 W):=λV hV a'' ha a0=>by
       have f1:=HW.out.below hV;rw[hvv]at f1;have f2:=f1.set (HSW.out.below hV) hxl (v:=(jv:Int)) (by omega);rw[<-hvv]at f2;refine⟨?_,?_⟩
       ·rw[HJ.out]
        obtain⟨f',rfl⟩:∃f',f=f'+1:=⟨f - 1,by have:=HRS.out.1;omega⟩;refine⟨vs'.set xx jv,f',ha,f2,(HSW.out.below hV).set _ _,(HBL.out.trans (hV.mono hWz)).setCell hbb _,by rw[List.length_set];exact HLE.out,by have:=HRS.out.1;omega,?_⟩;have h5:=HRS.out.2;rw[Fl.raise,hhit]at h5;exact h5
       ·rw[HMU.out]
        show Fl.rank p (zt0 _ vv vs.length)<Fl.rank p (zt0 W vv vs.length);have e1:=zi4 f2.vi;rw[List.length_set]at e1;rw[<-HLE.out,zi4 HW.out.vi,e1];exact hro.2
      have HJ2:Hid (∀V,Below W.heap.size W V->Calls prog 112 #[.pointer (some ⟨Lb,0,none⟩),.int .i64 vx,.int .i64 lk] V λr w'=>r=.returned (.int .i64 (jv:Nat))/\w'=V):=λV hV=>by
       have h5:=zs1 (HW.out.below hV).lv.la HW.out.lv.lv.n6 vx lk hvx HEL.out.2;rw[ejv]at h5;exact h5
      have HS0:Hid (∀V,Below W.heap.size W V->V.cell? ⟨Fb,1,none⟩=some (.slice (some ⟨b',off,none⟩) vs'.length cap2)/\V.cell? ⟨Fb,0,none⟩=some (.pointer (some ⟨Pb,0,none⟩))/\V.cell? ⟨Pb,0,none⟩=some (.pointer (some ⟨Lb,0,none⟩))/\V.cell? ⟨b',off+xx,none⟩=some (.int .i64 vx)/\V.frozen? ⟨b',off+xx,none⟩=false):=λV hV=>⟨by rw[<-hvv];exact(HW.out.below hV).c1,(HW.out.below hV).c0,(HW.out.below hV).lv.p0,(hV.cell (p:=⟨b',off+xx,none⟩) q3).trans q4,(HSW.out.below hV).z _⟩;have hxI:(xx:Int)<(vs'.length:Int):=(by omega);rw[<-hxx]at HX;rw[hlo]at HLO;rw[hf]at HFT;clear hlo hf HNX HHIT HPL HEL hhit hxl hvv q1 q2 q4 evx hvx ejv hjv EJ hro hxx HD HFIT
      go_wp2_with fail
      rw[<-hW2];refine(HLO.out _ HB2.out).mono ?_;rintro e W3 ⟨rfl,hB3⟩;have HB3:Hid (Below wr.heap.size wr W3):=HB2.out.trans (hB3.mono HB2.out.size);have HB23:Hid (Below W2.heap.size W2 W3):=hB3;obtain⟨t0,t1⟩:=HT2.out _ hB3;clear hB3 hW2 a0 a1 HLO
      go_wp2_with fail
      refine(HFT.out _ HB3.out).mono ?_;rintro e W4 ⟨rfl,hB4⟩;have HB4:Hid (Below wr.heap.size wr W4):=HB3.out.trans (hB4.mono HB3.out.size);have HW4:Hid (Below W.heap.size W W4):=HBR.out.trans (HB4.out.mono hbs);have HT4:Hid (∀V,Below W4.heap.size W4 V->V.cell? ⟨wr.heap.size,0,none⟩=some (.pointer (some ⟨sb,0,none⟩))/\V.cell? ⟨wr.heap.size,1,none⟩=some (.int .i64 lk)):=λV hV=>HT2.out V (HB23.out.trans ((hB4.trans (hV.mono hB4.size)).mono HB23.out.size))
      have HS:Hid (∀V,Below W4.heap.size W4 V->V.cell? ⟨Fb,1,none⟩=some (.slice (some ⟨b',off,none⟩) vs'.length cap2)/\V.cell? ⟨Fb,0,none⟩=some (.pointer (some ⟨Pb,0,none⟩))/\V.cell? ⟨Pb,0,none⟩=some (.pointer (some ⟨Lb,0,none⟩))/\V.cell? ⟨b',off+xx,none⟩=some (.int .i64 vx)/\V.cell? ⟨wr.heap.size,1,none⟩=some (.int .i64 lk)):=λV hV=>by
       obtain⟨g1,g2,g3,g4,-⟩:=HS0.out V (HW4.out.trans (hV.mono HW4.out.size));exact⟨g1,g2,g3,g4,(HT4.out V hV).2⟩
      have t4:=(HT4.out _ (Below.refl _ _)).1;have x4:W4.cell? ⟨sb,2,none⟩=some (.int .i64 xx):=HX.out _ HB4.out;have fz:W4.drew.frozen? ⟨b',off+xx,none⟩=false:=(HS0.out _ HW4.out.drew).2.2.2.2;have cz:W4.drew.cell? ⟨b',off+xx,none⟩=some (.int .i64 vx):=(HS0.out _ HW4.out.drew).2.2.2.1;clear hB4 t0 t1 HFT HT2 HX HB23
      go_wp2_with fail
      refine Yy HS (Below.refl _ _).drew [21] [23] [] (by kernel_rfl) (λc a d v w h=>by cases d<;>exact h) (λops _=>?_)
      iterate 21 refine Ze rfl (by rintro _ ⟨_,_,_,_,_⟩;go_simp<;>rfl) (by go_simp<;>rfl) ?_
      refine Zs ?_
      go_wp2_with fail
      refine(HJ2.out _ HW4.out.drew).mono ?_;rintro e5 W5 ⟨rfl,rfl⟩
      go_wp2_with fail
      refine⟨HS.out _ (Below.refl _ _).drew,?_⟩;refine Ze rfl (by rintro _ ⟨_,_,_,_,_⟩;go_simp<;>rfl) (by go_simp<;>rfl) ?_;refine Vl ?_
      go_wp2_with fail
      refine Yt ?_
      go_wp2_with fail
      go_step3
      exact⟨rfl,HJN.out _ HW4.out.drew _ ⟨_,_,_,_,_,_,_,_,_,_,_,_,_,_,_,_,_,_,_,_,_,_,_,_,_,_,_,_,_,_,_,_,_,_,_,_,_,_,_,_,_,_,_,_,_,_,_,_,_,_,rfl⟩ _⟩
     ·have HN:Hid (∀t,(ht:t<k+1)->(ht':t<ms.length)->(Fl.ofLocal p ms[t].1 && !Fl.fitsM p vs' ms[t])=false):=HNX.out (by rw[hlo,hf];rfl)
      rw[hlo]at HLO;rw[hf]at HFT;clear hlo hf HNX HHIT HX HPL HEL
      go_wp2_with fail
      rw[<-hW2];refine(HLO.out _ HB2.out).mono ?_;rintro e W3 ⟨rfl,hB3⟩;have HB3:Hid (Below wr.heap.size wr W3):=HB2.out.trans (hB3.mono HB2.out.size);obtain⟨t0,t1⟩:=HT2.out _ hB3;clear hB3 hW2 a0 a1 HT2 HLO
      go_wp2_with fail
      refine(HFT.out _ HB3.out).mono ?_;rintro e W4 ⟨rfl,hB4⟩;have hb4:Below W1.heap.size W1 W4:=hbr.trans ((HB3.out.trans (hB4.mono HB3.out.size)).mono hbr.size);clear hB4 t0 t1 HFT;go_wp2
      go_roundw
      case rel=>exact⟨k+1,by have:=HLT.out;omega,by go_num,HN.out,hb4⟩
      case measure=>simp[intOf];omega
  ·have HR:Hid (Fl.raise p f vs'=vs'):=by
    have h5:=HD.out;rw[zm9 (f:=λm=>Fl.ofLocal p m.1 && !Fl.fitsM p vs' m) (λt ht=>hfit t (by omega) ht)]at h5;obtain⟨f',rfl⟩:∃f',f=f'+1:=⟨f - 1,by have:=HRS.out.1;omega⟩;show Fl.raise p (f'+1) vs'=vs';unfold Fl.raise;rw[h5]
   have HE:Hid (zq5 w base b Fb Pb Lb clv chv bv vv S p vs (.returned (.tuple #[])) wr):=by
    have hb2:Below W.heap.size W wr:=HB1.out.trans (hbr.mono HB1.out.size);refine⟨rfl,?_,HSW.out.below hb2,HBL.out.trans (hb2.mono hWz)⟩;rw[<-HRS.out.2,HR.out];exact HW.out.below hb2
   clear hfit HR
   go_wp2_with fail
   simp only[Exit.jump]
   go_end0
   exact HE.out
end
def zoy(s:List UInt8)(k:Nat)(h:k<s.length):s.drop k=s.getD k 0::s.drop (k+1):=by
 rw[List.drop_eq_getElem_cons h,Qa,Qb h];rfl
def zz4(s:List UInt8)(p i a:Nat):Prop:=i<=4/\p+i<=s.length/\a<128 ^ i/\Fl.num s p=Fl.numG p s.length i a (128 ^ i) (s.drop (p+i))
def zz4.start(s:List UInt8)(p:Nat)(h:p<=s.length):zz4 s p 0 0:=⟨by omega,by omega,by simp,by simp[Fl.num]⟩
def zz4.small{s:List UInt8}{p i a:Nat}(h:zz4 s p i a):a<268435456/\128 ^ i<=268435456:=by
 have h1:128 ^ i<=128 ^ 4:=Nat.pow_le_pow_right (by omega) h.1
 have h2:(128:Nat) ^ 4=268435456:=by decide
 have:=h.2.2.1;omega
def zz4.stop{s:List UInt8}{p i a:Nat}(h:zz4 s p i a)(a0:¬p+i<s.length)(lo hi:Int):Fl.numB s p lo hi=(0,-1,(s.length:Int)):=by
 obtain⟨h1,h2,h3,h4⟩:=h;unfold Fl.numB;rw[h4,List.drop_of_length_le (by omega)];simp[Fl.numG]
def zz4.next{s:List UInt8}{p i a:Nat}(h:zz4 s p i a)(a0:p+i<s.length)(hi:i<4)(hc:¬(s.getD (p+i) 0).toNat<128):zz4 s p (i+1) (a+(s.getD (p+i) 0).toNat % 128*128 ^ i):=by
 obtain⟨h1,h2,h3,h4⟩:=h
 have hm:(s.getD (p+i) 0).toNat % 128<=127:=by omega
 have hp:(s.getD (p+i) 0).toNat % 128*128 ^ i<=127*128 ^ i:=Nat.mul_le_mul_right _ hm;have h5:128 ^ (i+1)=128 ^ i*128:=Nat.pow_succ ..;have h6:128 ^ (i+1)<=128 ^ 4:=Nat.pow_le_pow_right (by omega) hi
 have h7:(128:Nat) ^ 4=268435456:=by decide
 refine⟨by omega,by omega,by omega,?_⟩;rw[h4,zoy s (p+i) a0];simp only[Fl.numG];rw[if_neg (by omega),if_neg hc,show p+(i+1)=p+i+1 from by omega,h5]
def zz4.full{s:List UInt8}{p a:Nat}(h:zz4 s p 4 a)(a0:p+4<s.length)(hc:¬(s.getD (p+4) 0).toNat<128)(lo hi:Int):Fl.numB s p lo hi=(0,-1,(p:Int)):=by
 obtain⟨h1,h2,h3,h4⟩:=h;have hg:Fl.num s p=(0,-1,(p:Int)):=by
  rw[h4,zoy s (p+4) a0];unfold Fl.numG;exact if_pos (by omega)
 unfold Fl.numB;rw[hg];rfl
def zz4.last{s:List UInt8}{p i a:Nat}(h:zz4 s p i a)(a0:p+i<s.length)(hc:(s.getD (p+i) 0).toNat<128)(lo hi:Int)(hlo:0<=lo)(b0:hi<2147483648):
  Fl.numB s p lo hi=if(0<(s.getD (p+i) 0).toNat\/i=0)/\lo<=((a+(s.getD (p+i) 0).toNat*128 ^ i:Nat):Int)/\((a+(s.getD (p+i) 0).toNat*128 ^ i:Nat):Int)<=hi then(((a+(s.getD (p+i) 0).toNat*128 ^ i:Nat):Int),((p+i+1:Nat):Int),0) else(0,-1,(p:Int)):=by
 obtain⟨h1,h2,h3,h4⟩:=h;generalize hx:(s.getD (p+i) 0).toNat=x at*;have hm:x % 128=x:=Nat.mod_eq_of_lt hc;generalize hv:a+x*128 ^ i=v at*;have hg:Fl.num s p=if(x=0/\0<i)\/2147483648<=v then(0,-1,(p:Int)) else((v:Int),((p+i+1:Nat):Int),0):=by
  rw[h4,zoy s (p+i) a0];simp only[Fl.numG,hx,hm,hv]
  by_cases hq:(x=0/\0<i)\/2147483648<=v
  ·rw[if_pos (by omega),if_pos hq]
  rw[if_neg (by omega),if_neg hq,if_pos hc]
 unfold Fl.numB;rw[hg]
 by_cases hq:(x=0/\0<i)\/2147483648<=v
 ·rw[if_pos hq,if_pos (by simp),if_neg (by omega)]
 rw[if_neg hq];rw[if_neg (show ¬(((p+i+1:Nat):Int)<0) by omega)]
 by_cases hr:(v:Int)<lo\/hi<(v:Int)
 ·rw[if_pos hr,if_neg (by omega)]
 rw[if_neg hr,if_pos (by omega)]
def or_add(a c i:Nat)(h:a<128 ^ i):a|||(c<<<(7*i))=a+c*128 ^ i:=by
 have h2:(128:Nat) ^ i=2 ^ (7*i):=by rw[Nat.pow_mul]
 rw[h2]at h⊢;rw[Nat.or_comm,<-Nat.shiftLeft_add_eq_or_of_lt h,Nat.shiftLeft_eq];omega
def yr0(a c i:Nat)(hc:c<256)(hi:i<=4)(ha:a<128 ^ i):bits .or .u64 (a:Int) (IntKind.u64.wrap (IntKind.u64.wrap (bits .and .u8 (c:Int) 127)*2 ^ (7*i)))=((a+c % 128*128 ^ i:Nat):Int):=by
 have h1:128 ^ i<=128 ^ 4:=Nat.pow_le_pow_right (by omega) hi
 have h2:(128:Nat) ^ 4=268435456:=by decide
 have h3:c % 128*128 ^ i<=127*268435456:=Nat.mul_le_mul (by omega) (by omega);have e1:bits .and .u8 (c:Int) 127=((c % 128:Nat):Int):=by
  have:=u8_and_nat c 127 hc (by omega);rw[nat_mask7]at this;exact this
 have e2:IntKind.u64.wrap ((c % 128:Nat):Int)=((c % 128:Nat):Int):=by rw[IntKind.wrap_u64];omega
 have e3:((c % 128:Nat):Int)*2 ^ (7*i)=((c % 128*128 ^ i:Nat):Int):=by
  rw[Int.natCast_mul,Int.natCast_pow,Int.pow_mul];rfl
 have e4:IntKind.u64.wrap ((c % 128*128 ^ i:Nat):Int)=((c % 128*128 ^ i:Nat):Int):=by rw[IntKind.wrap_u64];omega
 rw[e1,e2,e3,e4,u64_or_nat a (c % 128*128 ^ i) (by omega) (by omega)]
 have h4:c % 128*128 ^ i=(c % 128)<<<(7*i):=by rw[Nat.shiftLeft_eq,Nat.pow_mul]
 rw[<-or_add a (c % 128) i ha,h4]
def zz9(r:Int×Int×Int)(b:Nat)(w:World)(e:Ending)(w':World):Prop:=
 Mv w w' b/\(r.2.1<0->e=.panicked (Zq 8 r.2.2))/\(¬r.2.1<0->e=.returned (.int .i64 r.1)/\w'.cell? ⟨b,1,none⟩=some (.int .i64 r.2.1))
def zq6{r:Int×Int×Int}{v q b:Nat}{w w':World}(hr:r=((v:Int),(q:Int),0))(m:Mv w w' b)(c:w'.cell? ⟨b,1,none⟩=some (.int .i64 (q:Int))):zz9 r b w (.returned (.int .i64 (v:Int))) w':=by
 subst hr;exact⟨m,λh=>by simp only at h;omega,λ_=>⟨rfl,c⟩⟩
def Vd{r:Int×Int×Int}{pl:Int}{b:Nat}{w w':World}(hr:r=(0,-1,pl))(m:Mv w w' b):zz9 r b w (.panicked (Zq 8 pl)) w':=by
 subst hr;exact⟨m,λ_=>rfl,λh=>absurd (show (-1:Int)<0 by decide) h⟩
def NumLoop(s:List UInt8)(p lo hi i a:Nat):Prop:=zz4 s p i a\/(i=5/\Fl.numB s p lo hi=(0,-1,(p:Int)))
def zx3{b:Nat}{ao:Option Addr}{cap:Nat}{s:List UInt8}{p:Nat}{w:World}(h:Dr w b ao cap s p)(lo hi:Nat)(u0:hi<2147483648)(hlo:lo<2147483648):
  Calls prog 83 #[.pointer (some ⟨b,0,none⟩),.int .i64 lo,.int .i64 hi] w λe w'=>zz9 (Fl.numB s p lo hi) b w e w':=by
 have c0:=h.c0;have c1:=h.c1;have hs:=h.hs;have hp:=h.hp;have HD:=Zz h;clear h
 go_enter func83,ntmps83
 go_wp2_with fail
 go_loopw [8,16] (λn k wr=>∃i a:Nat,n=.int .u64 a/\k=.int .i64 i/\NumLoop s p lo hi i a/\Mv w wr b/\wr.cell? ⟨b,1,none⟩=some (.int .i64 ((p+i:Nat):Int))) (λ_ k _=>5 - (intOf k).toNat)
 case atStart=>exact⟨0,0,rfl,rfl,.inl (zz4.start s p hp),Mv.refl _ _,c1⟩
 case round=>
  obtain⟨i,a,rfl,rfl,hl,hm,d0⟩:=hrel;have HM:=Zz hm;have HC:=Zz d0;clear hm d0;rcases hl with hl|⟨rfl,hl⟩
  ·have p0:=hl.1
   have ha:=hl.small.1;have hx:=hl.small.2;have q0:=hl.2.1;have HL:=Zz hl;clear hl;have h0:Hid (Dr wr b ao cap s (p+i)):=HD.out.move HM.out HC.out q0
   by_cases k0:p+i<s.length
   ·obtain⟨c,hc⟩:=nmE ((s.getD (p+i) 0).toNat)
    have l0:c<256:=(by rw[hc];exact(s.getD (p+i) 0).toNat_lt);have HN:Hid (Calls prog 81 #[.pointer (some ⟨b,0,none⟩)] wr λe w'=>e=.returned (.int .u8 c)/\Mv wr w' b/\w'.cell? ⟨b,1,none⟩=some (.int .i64 ((p+i+1:Nat):Int))):=(by rw[hc];exact zk9 h0.out k0);have i0:=Zz hc;clear hc;obtain⟨v,hv⟩:=nmE (a+c % 128*128 ^ i);have v0:bits .or .u64 (a:Int) (IntKind.u64.wrap (IntKind.u64.wrap (bits .and .u8 (c:Int) 127)*2 ^ (7*i)))=(v:Int):=(by rw[hv];exact yr0 a c i l0 p0 HL.out.2.2.1);have x0:v<274877906944:=by
     have h3:c % 128*128 ^ i<=127*268435456:=Nat.mul_le_mul (by omega) (by omega);omega
    have HV:=Zz hv;clear hv
    by_cases hc:128<=c
    ·go_wp2_with (go_at_call 81;refine(HN.out).mono ?_;rintro e w1 ⟨rfl,a0,d0⟩)
     go_roundw
     case rel=>
      refine⟨i+1,v,rfl,by go_num,?_,HM.out.trans a0,d0⟩
      by_cases h4:i<4
      ·left;rw[HV.out,i0.out];exact HL.out.next k0 h4 (by have:=i0.out;omega)
      right
      have:i=4:=by omega
      subst this;exact⟨rfl,HL.out.full k0 (by have:=i0.out;omega) _ _⟩
     case measure=>simp[intOf];omega
    have m0:(v:Int)=((a+(s.getD (p+i) 0).toNat*128 ^ i:Nat):Int):=by
     rw[HV.out,i0.out,Nat.mod_eq_of_lt (by have:=i0.out;omega)]
    have e0:=HL.out.last k0 (by have:=i0.out;omega) lo hi (by omega) (by omega);rw[<-m0,<-i0.out]at e0;have HG:=Zz e0;clear m0 e0
    by_cases n0:c=0
    ·have b0:¬(0:Int)<(c:Int):=by omega
     have r0:=Zz n0;clear n0
     by_cases o0:i=0
     ·have bi:((i:Int)==0)=true:=beq_iff_eq.2 (by omega)
      have s0:=Zz o0;clear o0
      by_cases j0:(lo:Int)<=(v:Int)
      ·by_cases f0:(v:Int)<=(hi:Int)
       ·go_wp2_with (first|(go_at_call 81;refine(HN.out).mono ?_;rintro e w1 ⟨rfl,a0,d0⟩)|(go_at_call 80;refine(Ux _ _ _).mono ?_;rintro e w2 ⟨rfl,rfl⟩))
        go_ret;exact zq6 (HG.out.trans (if_pos ⟨.inr s0.out,j0,f0⟩)) (HM.out.trans a0) d0
       have bd:decide (v<=hi)=false:=decide_eq_false (by omega);have bd2:decide ((v:Int)<=(hi:Int))=false:=decide_eq_false f0
       go_wp2_with (first|(go_at_call 81;refine(HN.out).mono ?_;rintro e w1 ⟨rfl,a0,d0⟩)|(go_at_call 80;refine(Xz _ _ _).mono ?_;rintro e w2 ⟨rfl,g0⟩))
       exact⟨rfl,Vd (HG.out.trans (if_neg (by omega))) ((HM.out.trans a0).trans (Mv.of_below g0 (a0.lt h0.out.lt)))⟩
      go_wp2_with (first|(go_at_call 81;refine(HN.out).mono ?_;rintro e w1 ⟨rfl,a0,d0⟩)|(go_at_call 80;refine(Xz _ _ _).mono ?_;rintro e w2 ⟨rfl,g0⟩))
      exact⟨rfl,Vd (HG.out.trans (if_neg (by omega))) ((HM.out.trans a0).trans (Mv.of_below g0 (a0.lt h0.out.lt)))⟩
     have bi:((i:Int)==0)=false:=beq_eq_false_iff_ne.2 (by omega)
     go_wp2_with (first|(go_at_call 81;refine(HN.out).mono ?_;rintro e w1 ⟨rfl,a0,d0⟩)|(go_at_call 80;refine(Xz _ _ _).mono ?_;rintro e w2 ⟨rfl,g0⟩))
     exact⟨rfl,Vd (HG.out.trans (if_neg (by have:=r0.out;omega))) ((HM.out.trans a0).trans (Mv.of_below g0 (a0.lt h0.out.lt)))⟩
    have b0:¬(c:Int)<=0:=(by omega)
    by_cases j0:(lo:Int)<=(v:Int)
    ·by_cases f0:(v:Int)<=(hi:Int)
     ·go_wp2_with (first|(go_at_call 81;refine(HN.out).mono ?_;rintro e w1 ⟨rfl,a0,d0⟩)|(go_at_call 80;refine(Ux _ _ _).mono ?_;rintro e w2 ⟨rfl,rfl⟩))
      go_ret;exact zq6 (HG.out.trans (if_pos ⟨.inl (by omega),j0,f0⟩)) (HM.out.trans a0) d0
     have bd:decide (v<=hi)=false:=decide_eq_false (by omega);have bd2:decide ((v:Int)<=(hi:Int))=false:=decide_eq_false f0
     go_wp2_with (first|(go_at_call 81;refine(HN.out).mono ?_;rintro e w1 ⟨rfl,a0,d0⟩)|(go_at_call 80;refine(Xz _ _ _).mono ?_;rintro e w2 ⟨rfl,g0⟩))
     exact⟨rfl,Vd (HG.out.trans (if_neg (by omega))) ((HM.out.trans a0).trans (Mv.of_below g0 (a0.lt h0.out.lt)))⟩
    go_wp2_with (first|(go_at_call 81;refine(HN.out).mono ?_;rintro e w1 ⟨rfl,a0,d0⟩)|(go_at_call 80;refine(Xz _ _ _).mono ?_;rintro e w2 ⟨rfl,g0⟩))
    exact⟨rfl,Vd (HG.out.trans (if_neg (by omega))) ((HM.out.trans a0).trans (Mv.of_below g0 (a0.lt h0.out.lt)))⟩
   go_wp2_with (go_at_call 81;refine(zoz h0.out k0).mono ?_;rintro e w1 ⟨rfl,a0⟩)
   exact⟨rfl,Vd (HL.out.stop k0 _ _) (HM.out.trans a0)⟩
  go_wp2_with (go_at_call 80;refine(Xz _ _ _).mono ?_;rintro e w1 ⟨rfl,t0⟩)
  exact⟨rfl,Vd hl (HM.out.trans (Mv.of_below t0 (HM.out.lt HD.out.lt)))⟩
def ret_string{a b:ByteArray}(h:a=b):Ending.returned (.string a)=.returned (.string b):=by rw[h]
def inR_iff{x:Int}:Fl.inR x=true ↔ 0<=x/\x<2147483648:=by simp[Fl.inR]
def fields_kind{k:Int}(h:Fl.fields k≠ -2):0<=k/\k<=7:=by
 unfold Fl.fields at h;repeat' split at h<;>omega
def Tryz.infoInt:(Tryz.prog.info? 3).map (λi=>(i.zero,i.size,i.bytes))=some (some (.int .i64 0),1,8):=by kernel_rfl
def Uw{w:World}{e:TypeId}{x:Value}:∀j u,[x][j]?=some u->(w.alloc (.cells #[x] e)).cell? ((⟨w.heap.size,0,none⟩:Addr).add j)=some u:=by
 intro j u hj
 match j,hj with
 |0,hj=>simp at hj;subst hj;simp[Addr.add]
def Fl.numB_max(s:List UInt8)(p:Nat)(h:p<=s.length):Fl.numB s p 0 2147483647=Fl.num s p:=by
 have h1:=Fl.num_ok s p h;unfold Fl.numB;generalize Fl.num s p=r at*;obtain⟨x,y,z⟩:=r;simp only at h1⊢;rcases h1 with h1|h1
 ·rw[if_pos (by omega),h1.1,h1.2.1]
 rw[if_neg (by omega),if_neg (by omega),h1.2.2.2.2]
def zvx(s:List UInt8)(p n k q:Nat)(xs:List Int):Prop:=k<=n/\q<=s.length/\xs.length=k/\Fl.nums s p n=Fl.numsA s (n - k) q xs
def zvx.bad{s:List UInt8}{p n k q:Nat}{xs:List Int}(h:zvx s p n k q xs)(hk:k<n){v m b:Int}(hn:Fl.num s q=(v,m,b))(hm:m<0):Fl.nums s p n=([],-1,b):=by
 obtain⟨h1,h2,h3,h4⟩:=h;rw[h4,show n - k=(n - k - 1)+1 from by omega];simp only[Fl.numsA,hn,if_pos hm]
def zvx.step{s:List UInt8}{p n k q:Nat}{xs:List Int}(h:zvx s p n k q xs)(hk:k<n){v m b:Int}(hn:Fl.num s q=(v,m,b))(hm:¬m<0):zvx s p n (k+1) m.toNat (xs++[v]):=by
 obtain⟨h1,h2,h3,h4⟩:=h;have a0:=Fl.num_ok s q h2;rw[hn]at a0;refine⟨by omega,by simp only at a0;omega,by simp[h3],?_⟩;rw[h4,show n - k=(n - (k+1))+1 from by omega];simp only[Fl.numsA,hn,if_neg hm]
def zf9(r:List Int×Int×Int)(b:Nat)(w:World)(e:Ending)(w':World):Prop:=
 Mv w w' b/\(r.2.1<0->e=.panicked (Zq 8 r.2.2))/\(¬r.2.1<0->∃lv,e=.returned lv/\w'.ownsRow w.heap.size 3 1 lv r.1.length (r.1.map (Value.int .i64))/\w'.cell? ⟨b,1,none⟩=some (.int .i64 r.2.1))
def zfz{r:List Int×Int×Int}{pl:Int}{b:Nat}{w w':World}(hr:r=([],-1,pl))(m:Mv w w' b):zf9 r b w (.panicked (Zq 8 pl)) w':=by
 subst hr;exact⟨m,λ_=>rfl,λh=>absurd (show (-1:Int)<0 by decide) h⟩
def zw8{b:Nat}{ao:Option Addr}{cap:Nat}{s:List UInt8}{p:Nat}{w:World}(h:Dr w b ao cap s p):
  Calls prog 83 #[.pointer (some ⟨b,0,none⟩),.int .i64 0,.int .i64 2147483647] w λe w'=>zz9 (Fl.num s p) b w e w':=by
 rw[<-Fl.numB_max s p h.hp];exact zx3 h 0 2147483647 (by omega) (by omega)
def own_ne{w:World}{base:Nat}{e:TypeId}{size:Nat}{v:Value}{n:Nat}{xs:List Value}{b:Nat}(h:w.ownsRow base e size v n xs)(hb:b<base):v.ownBlock=none\/v.ownBlock≠some b:=by
 right;intro hh;have:=(h.lt b hh).1;omega
def zq7{b:Nat}{ao:Option Addr}{cap:Nat}{s:List UInt8}{p:Nat}{w:World}(h:Dr w b ao cap s p)(n:Nat)(hn:n<=200):
  Calls prog 82 #[.pointer (some ⟨b,0,none⟩),.int .i64 n,.int .i64 2147483647] w λe w'=>zf9 (Fl.nums s p n) b w e w':=by
 obtain⟨i0,hi,k0,l0,m0⟩:=info_parts Tryz.infoInt;have HD:=Zz h;clear h
 go_enter func82,ntmps82
 go_wp2_with fail
 go_loopw [7,9] (λv i wr=>∃(k q:Nat) (xs:List Int),zvx s p n k q xs/\i=.int .i64 k/\wr.ownsRow w.heap.size 3 1 v xs.length (xs.map (Value.int .i64))/\Mv w wr b/\wr.cell? ⟨b,1,none⟩=some (.int .i64 (q:Int))) (λ_ i _=>n - (intOf i).toNat)
 case atStart=>exact⟨0,p,[],⟨by omega,HD.out.hp,rfl,rfl⟩,rfl,World.ownsRow_nil _ _ _ _,Mv.refl _ _,HD.out.c1⟩
 case round=>
  obtain⟨k,q,xs,hr,rfl,a0,hm,e0⟩:=hrel;have HR:=Zz hr;have n0:Hid (Dr wr b ao cap s q):=HD.out.move hm e0 hr.2.1;have s0:=hr.1;have t0:xs.length<=200:=(by have:=hr.2.2.1;omega);have hlb:=HD.out.lt;have u0:=hm.g.size;have HM:=Zz hm;have HO:=Zz a0;have o0:=Zz e0;clear hr hm a0 e0
  by_cases j0:k<n
  ·obtain⟨x,m,y,d0⟩:∃x m y,Fl.num s q=(x,m,y):=⟨_,_,_,rfl⟩
   have b0:=zw8 n0.out;rw[d0]at b0;have HN:=Zz d0;have h0:=Zz b0;clear d0 b0
   by_cases hm:m<0
   ·go_wp2_with (go_at_call 83;refine(h0.out).mono ?_;rintro e w1 ⟨f0,he,_⟩;obtain rfl:=he hm)
    exact⟨rfl,zfz (HR.out.bad j0 HN.out hm) (HM.out.trans f0)⟩
   go_wp2_with (first|(go_at_call 83;refine(h0.out).mono ?_;rintro e w1 ⟨f0,_,he⟩;obtain⟨rfl,e0⟩:=he hm;have a0:=HO.out.kept f0.g (own_ne HO.out hlb))|(at_builtin;refine wpList_append_own _ rfl _ _ 23 rfl w.heap.size 3 i0 (.int .i64 0) 1 8 underlying23 hi k0 l0 m0 rfl (by decide) _ _ _ rfl (a0.alloc _) ⟨_,0,none⟩ 1 1 [.int .i64 x] rfl rfl Uw ?c2 ?c3 ?c4 ?c5 ?_))
   case c2=>intro u hu;simp at hu;subst hu;rfl
   case c3=>unfold maxLen;omega
   case c4=>omega
   case c5=>have:=f0.g.size;simp;omega
   intro v' w2 hown' c0 _;have HS:Hid (zvx s p n (k+1) m.toNat (xs++[x])):=HR.out.step j0 HN.out (by omega);have p0:Mv w w2 b:=((HM.out.trans f0).alloc hlb _).andGrown c0 hlb (λg hg=>(a0.lt g hg).1);have q0:w2.cell? ⟨b,1,none⟩=some (.int .i64 ((m.toNat:Nat):Int)):=by
    rw[Int.toNat_of_nonneg (by omega)];refine c0.cell ((World.grownBy_alloc w1 _ none).cell e0 (by simp)) ?_;intro hh;have:=(a0.lt b hh.symm).1;omega
   have r0:w2.ownsRow w.heap.size 3 1 v' (xs++[x]).length ((xs++[x]).map (Value.int .i64)):=(by simpa using hown');clear hown' c0 a0 h0 f0 e0;go_wp2
   go_roundw
   case rel=>exact⟨k+1,m.toNat,xs++[x],HS.out,by go_num,r0,p0,q0⟩
   case measure=>simp[intOf];omega
  have hkn':k=n:=(by omega);have g0:Fl.nums s p n=(xs,(q:Int),0):=by
   have:=HR.out.2.2.2;rw[this,hkn',Nat.sub_self];rfl
  have HF:=Zz g0;clear g0 hkn';go_wp2;go_ret;exact⟨HM.out,λh=>absurd h (by rw[HF.out];simp only;omega),λ_=>⟨_,rfl,by rw[HF.out];exact HO.out,by rw[HF.out];exact o0.out⟩⟩
def Zv:Array Value:=#[
 .string ⟨#[110,117,109]⟩,.int .i64 1,.bool false,.func (.func 73) #[] #[],.string ⟨#[118,97,114]⟩,.int .i64 1,.bool false,.func (.func 73) #[] #[],.string ⟨#[111,112]⟩,.int .i64 3,.bool false,.func (.func 75) #[] #[],.string ⟨#[115,101,116]⟩,.int .i64 2,.bool false,.func (.func 74) #[] #[],.string ⟨#[111,117,116]⟩,.int .i64 2,.bool false,.func (.func 74) #[] #[],.string ⟨#[105,102]⟩,.int .i64 3,.bool false,.func (.func 76) #[] #[],.string ⟨#[119,104,105,108,101]⟩,.int .i64 2,.bool false,.func (.func 77) #[] #[],.string ⟨#[98,108,111,99,107]⟩,.int .i64 0,.bool true,.func (.func 78) #[] #[]]
def Tryz.infoRules:(Tryz.prog.info? 98).map (·.size)=some Zv.size:=by kernel_rfl
def zv3:Zv.all (·.oneCell')=true:=by kernel_rfl
def zxx:(32:Nat)=Zv.size:=by kernel_rfl
def zxw(w:World):Calls prog 38 #[] w λe w'=>e=.returned (.agg Zv)/\w'=w.alloc (.cells Zv 98):=by
 go_enter func38,ntmps38
 go_wp2_with (first|(refine Jy rfl 98 _ rfl Zv (by kernel_rfl) ?_)|(refine zz2 rfl _ _ 98 rfl _ _ Zv rfl rfl Tryz.infoRules zxx zv3 ?_))
 refine bodyPost_ret (v:=.agg Zv) ?_ rfl ⟨rfl,rfl⟩;exact zr8 (p:=0) (ty:=98) results38 _ _ ⟨w.heap.size,0,none⟩ _ rfl (run_loadVar_new w 98 Zv 8 97 underlying98 Tryz.infoRules)
def zs3(rb ro nb n:Nat)(w:World)(hn:n<=3)(a0:rb<w.heap.size)(h:w.cell? ⟨rb,ro+1,none⟩=some (.int .i64 n)):Calls prog 47 #[.pointer (some ⟨rb,ro,none⟩),.pointer (some ⟨nb,0,none⟩)] w λe w'=>e=.returned (.slice (some ⟨w.heap.size,0,none⟩) n 3)/\w'=(w.alloc (.cells #[.pointer (some ⟨nb,2,none⟩),.pointer (some ⟨nb,3,none⟩),.pointer (some ⟨nb,4,none⟩)] 126)).drew:=by
 have h2:∀o,(w.alloc o).cell? ⟨rb,ro+1,none⟩=some (.int .i64 n):=λo=>by rw[World.cell?_alloc_past _ _ _ a0];exact h
 go_enter func47,ntmps47
 go_wp2_with fail
 go_region
 go_wp2;go_ret;exact⟨rfl,rfl⟩
def Below.drewN_of{B:Nat}{w w':World}(h:Below B w w')(m:Nat):Below B w (w'.drewN m):=by
 induction m with
 |zero=>exact h
 |succ m ih=>exact ih.drew
def zz5{xs:List Int}{j:Nat}(h:j<xs.length):xs.getD j 0∈xs:=by
 rw[Qa,Qb h];exact List.getElem_mem h
structure Xu(w:World)(nb no:Nat)(nd:Fl.Node)(lv:Value):Prop where
 c0:w.cell? ⟨nb,no,none⟩=some (.int .i64 nd.kind)
 c1:w.cell? ⟨nb,no+1,none⟩=some (.int .i64 nd.level)
 c2:w.cell? ⟨nb,no+2,none⟩=some (.int .i64 nd.a)
 c3:w.cell? ⟨nb,no+3,none⟩=some (.int .i64 nd.b)
 c4:w.cell? ⟨nb,no+4,none⟩=some (.int .i64 nd.c)
 c5:w.cell? ⟨nb,no+5,none⟩=some lv
 hl:Zy w.heap.size w lv nd.list
def Xu.below{w w':World}{nb no:Nat}{nd:Fl.Node}{lv:Value}(h:Xu w nb no nd lv)(hb:Below w.heap.size w w'):Xu w' nb no nd lv:=by
 have hn:nb<w.heap.size:=Qe w _ h.c0;have q:∀o,w'.cell? ⟨nb,o,none⟩=w.cell? ⟨nb,o,none⟩:=λo=>hb.cell (p:=⟨nb,o,none⟩) hn;exact⟨(q _).trans h.c0,(q _).trans h.c1,(q _).trans h.c2,(q _).trans h.c3,(q _).trans h.c4,(q _).trans h.c5,(h.hl.below hb).mono hb.size⟩
def byF(k:Int):FuncId:=
 if k=2 then 75 else if k=3 then 74 else if k=4 then 74 else if k=5 then 76 else if k=6 then 77 else if k=7 then 78 else 73
def Xg(ps:List Int)(w:World)(e:Ending)(w':World):Prop:=∃pv,e=.returned pv/\Zy w'.heap.size w' pv ps/\Below w.heap.size w w'
def by1(v:Value)(w:World):Calls prog 73 #[v] w (Xg [] w):=by
 go_enter func73,ntmps73
 go_wp2;go_ret;exact⟨_,rfl,Zy.nil _ _,Below.refl _ _⟩
def Xg.fresh(w:World)(xs:List Int)(e:TypeId)(hl:xs.length<=maxLen):Xg xs w (.returned (.slice (some ⟨w.heap.size,0,none⟩) xs.length xs.length)) (w.alloc (.cells (xs.map (Value.int .i64)).toArray e)):=
 ⟨_,rfl,Zy.fresh xs e hl _ (by simp),bA⟩
def Xg.freshD(w:World)(xs:List Int)(e:TypeId)(hl:xs.length<=maxLen):Xg xs w (.returned (.slice (some ⟨w.heap.size,0,none⟩) xs.length xs.length)) (w.alloc (.cells (xs.map (Value.int .i64)).toArray e)).drew:=by
 obtain⟨pv,h1,h2,h3⟩:=Xg.fresh w xs e hl;exact⟨pv,h1,h2.below ((Below.refl _ _).drew),h3.drew⟩
def by2{w:World}{nb no:Nat}{nd:Fl.Node}{lv:Value}(h:Xu w nb no nd lv):Calls prog 74 #[.pointer (some ⟨nb,no,none⟩)] w (Xg [nd.b] w):=by
 have c3:=h.c3
 go_enter func74,ntmps74
 go_wp2;go_ret;exact Xg.fresh _ [nd.b] _ (by simp[maxLen])
def by3{w:World}{nb no:Nat}{nd:Fl.Node}{lv:Value}(h:Xu w nb no nd lv):Calls prog 75 #[.pointer (some ⟨nb,no,none⟩)] w (Xg [nd.b,nd.c] w):=by
 have c3:=h.c3;have c4:=h.c4
 go_enter func75,ntmps75
 go_wp2_with fail
 go_still_tail 8,(by kernel_rfl)
 go_wp2;go_ret;exact Xg.freshD _ [nd.b,nd.c] _ (by simp[maxLen])
def by4{w:World}{nb no:Nat}{nd:Fl.Node}{lv:Value}(h:Xu w nb no nd lv):Calls prog 76 #[.pointer (some ⟨nb,no,none⟩)] w (Xg [nd.a,nd.b,nd.c] w):=by
 have c2:=h.c2;have c3:=h.c3;have c4:=h.c4
 go_enter func76,ntmps76
 go_wp2_with fail
 go_still_tail 12,(by kernel_rfl)
 go_wp2;go_ret;exact Xg.freshD _ [nd.a,nd.b,nd.c] _ (by simp[maxLen])
def by5{w:World}{nb no:Nat}{nd:Fl.Node}{lv:Value}(h:Xu w nb no nd lv):Calls prog 77 #[.pointer (some ⟨nb,no,none⟩)] w (Xg [nd.a,nd.b] w):=by
 have c2:=h.c2;have c3:=h.c3
 go_enter func77,ntmps77
 go_wp2_with fail
 go_still_tail 8,(by kernel_rfl)
 go_wp2;go_ret;exact Xg.freshD _ [nd.a,nd.b] _ (by simp[maxLen])
def by6{w:World}{nb no:Nat}{nd:Fl.Node}{lv:Value}(h:Xu w nb no nd lv):Calls prog 78 #[.pointer (some ⟨nb,no,none⟩)] w (Xg nd.list w):=by
 have c5:=h.c5;have HL:=Zz h.hl;obtain⟨ao,cap,rfl,_⟩:=h.hl;clear h
 go_enter func78,ntmps78
 go_wp2;go_ret;exact⟨_,rfl,HL.out,Below.refl _ _⟩
def zmy{w:World}{nb no:Nat}{nd:Fl.Node}{lv:Value}(h:Xu w nb no nd lv):Calls prog (byF nd.kind) #[.pointer (some ⟨nb,no,none⟩)] w (Xg (prem nd) w):=by
 unfold byF prem
 by_cases h2:nd.kind=2
 ·rw[if_pos h2,if_pos h2];exact by3 h
 rw[if_neg h2,if_neg h2]
 by_cases h3:nd.kind=3
 ·rw[if_pos h3,if_pos (Or.inl h3)];exact by2 h
 rw[if_neg h3]
 by_cases h4:nd.kind=4
 ·rw[if_pos h4,if_pos (Or.inr h4)];exact by2 h
 rw[if_neg h4,if_neg (show ¬(nd.kind=3\/nd.kind=4) from λh=>h.elim h3 h4)]
 by_cases h5:nd.kind=5
 ·rw[if_pos h5,if_pos h5];exact by4 h
 rw[if_neg h5,if_neg h5]
 by_cases h6:nd.kind=6
 ·rw[if_pos h6,if_pos h6];exact by5 h
 rw[if_neg h6,if_neg h6]
 by_cases h7:nd.kind=7
 ·rw[if_pos h7,if_pos h7];exact by6 h
 rw[if_neg h7,if_neg h7];exact by1 _ _
def zs4(k:Int)(v:Value)(w:World):(callFunc (byF k) #[v]).run prog w=.ok (.enter (byF k) #[v]) w:=by
 unfold byF
 repeat' split
 all_goals kernel_rfl
def zv4(rb ro f k:Nat)(np:Value)(ps:List Int)(w:World)(hf:w.cell? ⟨rb,ro+3,none⟩=some (.func (.func f) #[] #[]))(n0:(callFunc f #[np]).run prog w=.ok (.enter f #[np]) w)(hc:Calls prog f #[np] w (Xg ps w)):
  Calls prog 94 #[.pointer (some ⟨rb,ro,none⟩),np,.int .i64 k] w λe w'=>e=.returned (.bool (!ps.any (λx=>decide ((k:Int)<=x))))/\Below w.heap.size w w':=by
 have HC:=Zz hc;clear hc
 go_enter func94,ntmps94
 go_wp2_with fail
 refine(HC.out).mono ?_;rintro e w1 ⟨pv,rfl,hp,d0⟩;obtain⟨pao,pcap,rfl,_,j0,e0⟩:=hp;unfold maxLen at j0;have k0:=Zz e0;have f0:=Zz d0;clear e0 d0
 go_wp2_with fail
 go_loop [16] (λi=>∃j:Nat,j<=ps.length/\i=.int .i64 j/\∀t,t<j->¬(k:Int)<=ps.getD t 0) (λi=>ps.length - (intOf i).toNat)
 case atStart=>exact⟨0,by omega,rfl,λt ht=>by omega⟩
 case round=>
  obtain⟨j,hj,rfl,g0⟩:=hrel;have h0:=Zz g0;clear g0
  by_cases b0:j<ps.length
  ·obtain⟨pb,po,rfl,o0,a0⟩:=k0.out (by intro h;rw[h]at b0;simp at b0)
   have l0:=a0 j b0;obtain⟨x,hx⟩:=nmE (ps.getD j 0);rw[<-hx]at l0;have i0:=Zz hx;have p0:(j:Int)<(ps.length:Int):=(by omega);clear a0 hx
   by_cases m0:(k:Int)<=x
   ·have c0:Hid ((!ps.any (λx=>decide ((k:Int)<=x)))=false):=by
     show (!ps.any (λx=>decide ((k:Int)<=x)))=false;rw[Bool.not_eq_false',List.any_eq_true];exact⟨x,by rw[i0.out];exact zz5 b0,by simpa using m0⟩
    go_wp2;go_ret;exact⟨Zg c0.out.symm,f0.out⟩
   go_wp2
   go_round
   case rel=>exact⟨j+1,by omega,by go_num,λt ht=>by
    by_cases h:t<j
    ·exact h0.out t h
    have:t=j:=by omega
    subst this;rw[<-i0.out];omega⟩
   case measure=>simp[intOf];omega
  have c0:Hid ((!ps.any (λx=>decide ((k:Int)<=x)))=true):=by
   show (!ps.any (λx=>decide ((k:Int)<=x)))=true;rw[Bool.not_eq_true',List.any_eq_false];intro x hx;obtain⟨i,hi,rfl⟩:=List.getElem_of_mem hx;have:=h0.out i (by omega);rw[Qa,Qb hi]at this;simpa using this
  go_wp2;go_ret;exact⟨Zg c0.out.symm,f0.out⟩
structure Nd(w:World)(N:Nat)(kd lev a b c:Int)(l:Value):Prop where
 c0:w.cell? ⟨N,0,none⟩=some (.int .i64 kd)
 c1:w.cell? ⟨N,1,none⟩=some (.int .i64 lev)
 c2:w.cell? ⟨N,2,none⟩=some (.int .i64 a)
 c3:w.cell? ⟨N,3,none⟩=some (.int .i64 b)
 c4:w.cell? ⟨N,4,none⟩=some (.int .i64 c)
 c5:w.cell? ⟨N,5,none⟩=some l
 f:∀j,w.frozen? ⟨N,j,none⟩=false
section
variable{w w':World}{N:Nat}{kd lev a b c:Int}{l:Value}
def Nd.lt(h:Nd w N kd lev a b c l):N<w.heap.size:=Qe w _ h.c0
def Nd.new(w:World)(kd lev a b c:Int)(l:Value)(e:TypeId):Nd (w.alloc (.cells #[.int .i64 kd,.int .i64 lev,.int .i64 a,.int .i64 b,.int .i64 c,l] e)) w.heap.size kd lev a b c l:=by
 refine⟨?_,?_,?_,?_,?_,?_,λj=>by simp⟩<;>(rw[World.cell?_alloc_new];rfl)
def Nd.grown(h:Nd w N kd lev a b c l){row:Option Nat}(g:w.grownBy w' row)(a0:some N≠row):Nd w' N kd lev a b c l:=
 ⟨g.cell h.c0 a0,g.cell h.c1 a0,g.cell h.c2 a0,g.cell h.c3 a0,g.cell h.c4 a0,g.cell h.c5 a0,λj=>(Qd (w:=w) (a:=⟨N,j,none⟩) (g.block N h.lt a0)).trans (h.f j)⟩
def Nd.drewN(h:Nd w N kd lev a b c l)(n:Nat):Nd (w.drewN n) N kd lev a b c l:=⟨h.c0,h.c1,h.c2,h.c3,h.c4,h.c5,h.f⟩
def Nd.drew(h:Nd w N kd lev a b c l):Nd w.drew N kd lev a b c l:=⟨h.c0,h.c1,h.c2,h.c3,h.c4,h.c5,h.f⟩
def Yw{w:World}{N i j:Nat}{v:Value}(a0:i≠j):(w.setCell ⟨N,i,none⟩ v).cell? ⟨N,j,none⟩=w.cell? ⟨N,j,none⟩:=by
 apply Qg;intro hh;injection hh with _ h2;exact a0 h2
def Vn{w:World}{N i:Nat}{v u:Value}(h:w.cell? ⟨N,i,none⟩=some u):(w.setCell ⟨N,i,none⟩ v).cell? ⟨N,i,none⟩=some v:=World.cell?_setCell_same' _ _ _ (by simp[h])
def Nd.set1(h:Nd w N kd lev a b c l)(x:Int):Nd (w.setCell ⟨N,1,none⟩ (.int .i64 x)) N kd x a b c l:=
 ⟨(Yw (by decide)).trans h.c0,Vn h.c1,(Yw (by decide)).trans h.c2,(Yw (by decide)).trans h.c3,(Yw (by decide)).trans h.c4,(Yw (by decide)).trans h.c5,λj=>(World.frozen?_setCell _ _ _ _).trans (h.f j)⟩
def Nd.set2(h:Nd w N kd lev a b c l)(x:Int):Nd (w.setCell ⟨N,2,none⟩ (.int .i64 x)) N kd lev x b c l:=
 ⟨(Yw (by decide)).trans h.c0,(Yw (by decide)).trans h.c1,Vn h.c2,(Yw (by decide)).trans h.c3,(Yw (by decide)).trans h.c4,(Yw (by decide)).trans h.c5,λj=>(World.frozen?_setCell _ _ _ _).trans (h.f j)⟩
def Nd.set3(h:Nd w N kd lev a b c l)(x:Int):Nd (w.setCell ⟨N,3,none⟩ (.int .i64 x)) N kd lev a x c l:=
 ⟨(Yw (by decide)).trans h.c0,(Yw (by decide)).trans h.c1,(Yw (by decide)).trans h.c2,Vn h.c3,(Yw (by decide)).trans h.c4,(Yw (by decide)).trans h.c5,λj=>(World.frozen?_setCell _ _ _ _).trans (h.f j)⟩
def Nd.set4(h:Nd w N kd lev a b c l)(x:Int):Nd (w.setCell ⟨N,4,none⟩ (.int .i64 x)) N kd lev a b x l:=
 ⟨(Yw (by decide)).trans h.c0,(Yw (by decide)).trans h.c1,(Yw (by decide)).trans h.c2,(Yw (by decide)).trans h.c3,Vn h.c4,(Yw (by decide)).trans h.c5,λj=>(World.frozen?_setCell _ _ _ _).trans (h.f j)⟩
def Nd.set5(h:Nd w N kd lev a b c l)(x:Value):Nd (w.setCell ⟨N,5,none⟩ x) N kd lev a b c x:=
 ⟨(Yw (by decide)).trans h.c0,(Yw (by decide)).trans h.c1,(Yw (by decide)).trans h.c2,(Yw (by decide)).trans h.c3,(Yw (by decide)).trans h.c4,Vn h.c5,λj=>(World.frozen?_setCell _ _ _ _).trans (h.f j)⟩
def Nd.nodeAt(h:Nd w N kd lev a b c l){ls:List Int}(hl:Zy w.heap.size w l ls):Xu w N 0 ⟨kd,lev,a,b,c,ls⟩ l:=⟨h.c0,h.c1,h.c2,h.c3,h.c4,h.c5,hl⟩
end
def Yl(w:World)(N i:Nat)(v:Value):w.grownBy (w.setCell ⟨N,i,none⟩ v) (some N):=
 ⟨rfl,rfl,rfl,by simp[World.setCell],λk hk a0=>Below.heap_setCell _ _ _ _ (by intro h;exact a0 (by rw[h]))⟩
def Mv.andSet{w w1:World}{b N:Nat}(h:Mv w w1 b)(hb:b<w.heap.size)(hN:w.heap.size<=N)(i:Nat)(v:Value):Mv w (w1.setCell ⟨N,i,none⟩ v) b:=
 h.andGrown (Yl w1 N i v) hb (λk e=>by injection e with e;omega)
def Ys(k:Nat):Nat:=if k=0 then 1 else if k=1 then 1 else if k=2 then 3 else if k=3 then 2 else if k=4 then 2 else if k=5 then 3 else if k=6 then 2 else 0
def zpw(k:Nat):Ys k<=3:=by unfold Ys;(repeat' split)<;>omega
def zo4(k:Nat)(h:k<8)(h7:k≠7):Fl.fields (k:Int)=(Ys k:Int):=by
 have:k=0\/k=1\/k=2\/k=3\/k=4\/k=5\/k=6:=by omega
 rcases this with rfl|rfl|rfl|rfl|rfl|rfl|rfl<;>rfl
def zxv(s:List UInt8)(p:Nat)(h:p<=s.length)(hq:¬(Fl.num s p).2.1<0):∃v q:Nat,Fl.num s p=((v:Int),(q:Int),0)/\p<q/\q<=s.length/\v<2147483648:=by
 have h1:=Fl.num_ok s p h;generalize Fl.num s p=r at*;obtain⟨a,b,c⟩:=r;simp only at h1 hq;rcases h1 with h1|h1
 ·omega
 obtain⟨h2,h3,h4,h5,rfl⟩:=h1;exact⟨a.toNat,b.toNat,by rw[Int.toNat_of_nonneg h4,Int.toNat_of_nonneg (by omega)],by omega,by omega,by omega⟩
def zs5(s:List UInt8)(p:Nat)(lo hi:Int)(h:p<=s.length)(hq:¬(Fl.numB s p lo hi).2.1<0):∃v q:Nat,Fl.numB s p lo hi=((v:Int),(q:Int),0)/\Fl.num s p=((v:Int),(q:Int),0)/\p<q/\q<=s.length/\lo<=(v:Int)/\(v:Int)<=hi:=by
 unfold Fl.numB at*
 by_cases h1:(Fl.num s p).2.1<0
 ·rw[if_pos h1]at hq;exact absurd (show (-1:Int)<0 by decide) hq
 rw[if_neg h1]at hq⊢
 by_cases h2:(Fl.num s p).1<lo\/hi<(Fl.num s p).1
 ·rw[if_pos h2]at hq;exact absurd (show (-1:Int)<0 by decide) hq
 rw[if_neg h2];obtain⟨v,q,h3,h4,h5,h6⟩:=zxv s p h h1;rw[h3]at h2⊢;simp only at h2⊢;exact⟨v,q,rfl,rfl,h4,h5,by omega,by omega⟩
section
variable{s:List UInt8}{p k x v q:Nat}
def zg2(a0:p<s.length)(hx:x=(s.getD p 0).toNat)(b0:x<8)(hn:(Fl.num s (p+1)).2.1<0):Fl.one s p k=(Fl.nd0,-1,(Fl.num s (p+1)).2.2):=by
 unfold Fl.one;rw[if_neg (by omega)];simp only[<-hx];rw[if_neg (by unfold Fl.fields;repeat' split<;>omega),if_pos hn]
def zi5(b0:p<s.length)(hx:x=(s.getD p 0).toNat)(a0:x<8)(h7:x≠7)(hn:Fl.num s (p+1)=((v:Int),(q:Int),0)):
  Fl.one s p k=if(Fl.nums s q (Ys x)).2.1<0 then(Fl.nd0,-1,(Fl.nums s q (Ys x)).2.2) else Fl.oneFin p k ⟨x,v,(Fl.nums s q (Ys x)).1.getD 0 0,(Fl.nums s q (Ys x)).1.getD 1 0,(Fl.nums s q (Ys x)).1.getD 2 0,[]⟩ (Fl.nums s q (Ys x)).2.1:=by
 unfold Fl.one;rw[if_neg (by omega)];simp only[<-hx,hn];rw[zo4 x a0 h7,if_neg (by omega),if_neg (by omega),if_neg (by omega)];simp only[Int.toNat_natCast]
def zfy(a0:p<s.length)(hx:7=(s.getD p 0).toNat)(hn:Fl.num s (p+1)=((v:Int),(q:Int),0))(hm:(Fl.numB s q 0 16).2.1<0)(hq:q<=s.length):
  Fl.one s p k=(Fl.nd0,-1,(Fl.numB s q 0 16).2.2):=by
 have b0:=Fl.num_ok s q hq;unfold Fl.one;rw[if_neg (by omega)];simp only[<-hx,hn];rw[if_neg (by decide),if_neg (by omega),if_pos (by decide)];simp only[Int.toNat_natCast];unfold Fl.numB at*
 by_cases h1:(Fl.num s q).2.1<0
 ·rw[if_pos h1,if_pos h1]
 rw[if_neg h1]at hm;rw[if_neg h1,if_neg h1]
 by_cases h2:(Fl.num s q).1<0\/16<(Fl.num s q).1
 ·rw[if_pos h2,if_pos (by omega)]
 rw[if_neg h2]at hm;exact absurd hm h1
def yv7(b0:p<s.length)(hx:7=(s.getD p 0).toNat)(hn:Fl.num s (p+1)=((v:Int),(q:Int),0)){m q2:Nat}(hm:Fl.num s q=((m:Int),(q2:Int),0))(a0:m<=16):
  Fl.one s p k=if(Fl.nums s q2 m).2.1<0 then(Fl.nd0,-1,(Fl.nums s q2 m).2.2) else Fl.oneFin p k ⟨7,v,0,0,0,(Fl.nums s q2 m).1⟩ (Fl.nums s q2 m).2.1:=by
 unfold Fl.one;rw[if_neg (by omega)];simp only[<-hx,hn];rw[if_neg (by decide),if_neg (by omega),if_pos (by decide)];simp only[Int.toNat_natCast,hm];rw[if_neg (by omega),if_neg (by omega)];rfl
end
end Go.Proofs.YtminjljgedopkaaGreatDoor
