import Derived.Test.YtminjljgedopkaaGreatDoorM21
import Derived.Test.YtminjljgedopkaaGreatDoorM22
import Derived.HandedShaped
import Derived.Shelf.Vars
import Derived.Lib.LaidTab
import Derived.LaidMore
set_option linter.all false
set_option maxRecDepth 100000
set_option maxHeartbeats 40000000
namespace Go.Proofs.YtminjljgedopkaaGreatDoor
open Go.RowKit Go.Proofs.Tryz
structure Vp(s:List UInt8)(P B:Nat)(W0 W:World)(i:Nat)(rest:List UInt8)(ls:List Int)(lv nv:Value)(acc:List Fl.Node)(lvs:List Value):Prop where
 hg:Js ls W0 W P P lv nv acc lvs
 ha:acc.length=i - 1
 hr:Fl.readText s=Fl.readL ls acc i (Fl.cutR 10 rest)
 h0:i=0->ls=[]/\nv=.slice none 0 0
 hm:Mid P B W0 W
 hnb:∀b,nv.ownBlock=some b->B<=b
 hlb:∀p,p∈(lv,ls)::Ym acc lvs->p.2≠[]->∀b,p.1.ownBlock=some b->B<=b
 hz:B<=W.heap.size
 hl:rest.length+i<=s.length
section
variable{s rest:List UInt8}{P B i:Nat}{W0 W w1 w2:World}{ls vs:List Int}{lv nv nv' v lvn:Value}{acc:List Fl.Node}{lvs:List Value}{nd:Fl.Node}
def Vp.below(h:Vp s P B W0 W i rest ls lv nv acc lvs)(hb:Below W.heap.size W w1):Vp s P B W0 w1 i rest ls lv nv acc lvs:=
 ⟨h.hg.below hb,h.ha,h.hr,h.h0,h.hm.below h.hz hb,h.hnb,h.hlb,Nat.le_trans h.hz hb.size,h.hl⟩
def Vp.first(h:Vp s P B W0 W 0 rest ls lv nv acc lvs)(hb:Below W.heap.size W w2)(ho:w2.ownsRow W.heap.size 3 1 v vs.length (vs.map (Value.int .i64)))(hc:(Lib.cut rest [10]).2.2=true)(hl:Fl.localsOf (Fl.cutR 32 (Lib.cut rest [10]).1)=some vs):
  Vp s P B W0 (w2.setCell ⟨P,0,none⟩ v) 1 (Lib.cut rest [10]).2.1 vs v nv acc lvs:=by
 obtain⟨hls,hnv⟩:=h.h0 rfl;have hacc:acc=[]:=List.eq_nil_of_length_eq_zero (by have:=h.ha;omega);subst hls hnv hacc;have hlvs:lvs=[]:=List.eq_nil_of_length_eq_zero (by have:=h.hg.hl;simpa using this);subst hlvs;have hz:=h.hg.hz;have hz3:=h.hz;have s2:=hb.size
 have hs:(w2.setCell ⟨P,0,none⟩ v).heap.size=w2.heap.size:=by simp[World.setCell]
 have c0:w2.cell? ⟨P,0,none⟩=some lv:=(hb.cell (p:=⟨P,0,none⟩) hz).trans h.hg.c0;have c1:w2.cell? ⟨P,1,none⟩=some (.slice none 0 0):=(hb.cell (p:=⟨P,1,none⟩) hz).trans h.hg.c1;have fq:∀j,w2.frozen? ⟨P,j,none⟩=false:=λj=>(hb.frozen (p:=⟨P,j,none⟩) hz).trans (h.hg.fq j);have hov:∀b,v.ownBlock=some b->W.heap.size<=b:=λb hb=>(ho.lt b hb).1;have hcf:=Fl.cut_found 10 rest hc;refine⟨Js.new ?_ (by omega) (Xe (Zy.of_own ho) (λ_ hh=>?_)) (Nat.le_refl _) (λ_ b hb=>?_) (Vi c0) ((zs6 (by decide)).trans c1) (λj=>by rw[World.frozen?_setCell];exact fq j),rfl,?_,λhh=>by omega,?_,λb hb=>by simp[Value.ownBlock]at hb,?_,by omega,?_⟩
 ·exact(h.hg.hb.trans (hb.mono (by omega))).setCell (Nat.le_refl _) _
 ·have h9:W.heap.size<=P:=hov _ hh
  omega
 ·have:=hov b hb;omega
 ·rw[h.hr,hcf.1,Fl.readL_first _ _ _ _ (Fl.cutR_ne _ _),hl]
 ·exact(h.hm.below hz3 hb).set 0 v
 ·intro p hp _ b hpb
  simp only[Ym,List.mem_singleton]at hp;subst hp;have:=hov b hpb;omega
 ·have:=h.hl;have:=hcf.2;omega
def Vp.next(h:Vp s P B W0 W (i+1) rest ls lv nv acc lvs)(hb:Below W.heap.size W w1)(hi:Zy w1.heap.size w1 lvn nd.list)(hf:∀b,lvn.ownBlock=some b->W.heap.size<=b)
  (ho:w2.ownsRow (P+1) 121 6 nv' (acc.length+1) (Xr acc lvs++Zi nd lvn)) (hg:w1.grownBy w2 nv.ownBlock) (hw:nv'.ownBlock=nv.ownBlock\/nv'.ownBlock=some w1.heap.size) (hc:(Lib.cut rest [10]).2.2=true) (hn:Fl.nodeOf i (Fl.cutR 32 (Lib.cut rest [10]).1)=some nd):
  Vp s P B W0 (w2.setCell ⟨P,1,none⟩ nv') (i+2) (Lib.cut rest [10]).2.1 ls lv nv' (acc++[nd]) (lvs++[lvn]):=by
 have s1:=hb.size;have s2:=hg.size;have hz3:=h.hz
 have hs:(w2.setCell ⟨P,1,none⟩ nv').heap.size=w2.heap.size:=by simp[World.setCell]
 have hcf:=Fl.cut_found 10 rest hc;refine⟨h.hg.push hb hi hf ho hg hw,by have:=h.ha;simp;omega,?_,λhh=>by omega,?_,λb hb'=>?_,?_,by omega,?_⟩
 ·rw[h.hr,hcf.1,Fl.readL_next _ _ _ _ _ (Fl.cutR_ne _ _),hn]
 ·exact((h.hm.below hz3 hb).grown (by omega) hg h.hnb).set 1 nv'
 ·rcases hw with hw|hw
  ·exact h.hnb b (hw ▸ hb')
  ·rw[hw]at hb';simp at hb';omega
 ·intro p hp hne b hpb
  rw[Uo _ _ _ _ h.hg.hl]at hp;simp only[List.mem_cons,List.mem_append,List.not_mem_nil,or_false]at hp;rcases hp with hp|hp|hp
  ·exact h.hlb p (by rw[hp];simp) hne b hpb
  ·exact h.hlb p (by simp[hp]) hne b hpb
  ·subst hp;have:=hf b hpb;omega
 ·have:=h.hl;have:=hcf.2;omega
def Vp.bad(h:Vp s P B W0 W (i+1) rest ls lv nv acc lvs)(hc:(Lib.cut rest [10]).2.2=true)(hn:Fl.nodeOf i (Fl.cutR 32 (Lib.cut rest [10]).1)=none):(Fl.readText s).2=i+2:=by
 rw[h.hr,(Fl.cut_found 10 rest hc).1,Fl.readL_next _ _ _ _ _ (Fl.cutR_ne _ _),hn]
def Vp.open(h:Vp s P B W0 W i rest ls lv nv acc lvs)(hs:i=0\/rest≠[])(hc:(Lib.cut rest [10]).2.2=false):(Fl.readText s).2=i+1:=by
 rw[h.hr,Fl.readL_open _ _ _ _ hs hc]
def Vp.ends(h:Vp s P B W0 W i [] ls lv nv acc lvs)(hi:0<i):Fl.readText s=((ls,acc),0):=by
 rw[h.hr,Fl.readL_end _ _ _ hi]
def yp1{b b':Nat}{w:World}{e:TypeId}{k:Nat}{v:Value}{n:Nat}{xs:List Value}(h:w.ownsRow b e k v n xs)(hb:∀g,v.ownBlock=some g->b'<=g):w.ownsRow b' e k v n xs:=by
 refine⟨h.1,?_⟩;rcases h.2 with hn|⟨g,cap,cur,hv,hbb,hg,rest⟩
 ·exact .inl hn
 ·exact .inr ⟨g,cap,cur,hv,hb g (by rw[hv];rfl),hg,rest⟩
def Vp.stay(h:Vp s P B W0 W i rest ls lv nv acc lvs)(hs:Yi B W w2):Zy w2.heap.size w2 lv ls/\Zo w2.heap.size w2 nv acc:=by
 have hk:∀p,p∈(lv,ls)::Ym acc lvs->Zy w2.heap.size w2 p.1 p.2:=λp hp=>zvv (h.hg.hall p hp).1.1 (h.hlb p hp) hs;exact⟨hk (lv,ls) (by simp),Vr (zn0 (yp1 h.hg.hn h.hnb) hs) h.hg.hl (λi hi=>hk _ (by simp only[List.mem_cons];right;exact Vk acc lvs i h.hg.hl hi))⟩
end
def RdSt(s:List UInt8)(P B:Nat)(W0:World)(i:Nat)(rest:List UInt8)(W:World):Prop:=∃ls lv nv acc lvs,Vp s P B W0 W i rest ls lv nv acc lvs
def RdSt.below{s:List UInt8}{P B:Nat}{W0:World}{i:Nat}{rest:List UInt8}{W W':World}(h:RdSt s P B W0 i rest W)(hb:Below W.heap.size W W'):RdSt s P B W0 i rest W':=by
 obtain⟨ls,lv,nv,acc,lvs,h⟩:=h;exact⟨ls,lv,nv,acc,lvs,h.below hb⟩
def Yx.lt{w:World}(h:Yx w):2<w.heap.size:=by
 obtain⟨_,h⟩:=h;exact World.block_lt_of_cell? w _ h
def Yx.wr{b:Nat}{w w':World}(h:Yx w)(hg:2<b)(hb:Below b w w'):Yx w':=by
 obtain⟨m,h⟩:=h;exact⟨m,(hb.cell (p:=⟨2,0,none⟩) hg).trans h⟩
structure RdBeg(s:List UInt8)(Sx P T B:Nat)(W0:World):Prop where
 hs:s.length<=40000
 hpw:Va W0
 hgp:1<P
 hmx:Yx W0
 hgm:2<P
 hT:W0.heap[T]?=some (.cells Zv 98 (0,0))
 hPT:P<T
 hTB:T<B
 hB:B<=W0.heap.size
 hSx:W0.cell? ⟨Sx,0,none⟩=some (.string ⟨s.toArray⟩)
 p0:W0.cell? ⟨P,0,none⟩=some (.slice none 0 0)
 p1:W0.cell? ⟨P,1,none⟩=some (.slice none 0 0)
 pf:∀j,W0.frozen? ⟨P,j,none⟩=false
def RdBeg.begin{s:List UInt8}{Sx P T B:Nat}{W0:World}(h:RdBeg s Sx P T B W0):RdSt s P B W0 0 s W0:=by
 have hP:P<W0.heap.size:=World.block_lt_of_cell? W0 _ h.p0;refine⟨[],.slice none 0 0,.slice none 0 0,[],[],Js.new (Below.refl _ _) hP (Zy.nil _ _) (Nat.le_refl _) (λh=>absurd rfl h) h.p0 h.p1 h.pf,rfl,rfl,λ_=>⟨rfl,rfl⟩,Mid.refl _ _ _,λb hb=>by simp[Value.ownBlock]at hb,?_,h.hB,by omega⟩;intro p hp hne;simp only[Ym,List.mem_singleton]at hp;subst hp;exact absurd rfl hne
open Go.ChangeShapes Go.WideShapes
abbrev zk6:List (String×DataW Unit):=Rows.codedRow.laid
def Tryz.gPow:Tryz.prog.globalNamed "internal/strconv.uint64pow10"=some 1:=by kernel_rfl
def Tryz.gPowT:(Tryz.prog.globals[1]?).map (·.type)=some 294:=by kernel_rfl
def zc9{W:World}(h:laidMetH Tryz.prog zk6 W):Va W/\Vs W:=by
 have h':laidMet Tryz.prog [("math/bits.deBruijn32tab",Rows.laid_math_bits_deBruijn32tab),("math/bits.deBruijn64tab",Rows.laid_math_bits_deBruijn64tab),("internal/strconv.uint64pow10",Rows.laid_internal_strconv_uint64pow10),("unicode/utf8.acceptRanges",Rows.laid_unicode_utf8_acceptRanges),("unicode/utf8.first",Rows.laid_unicode_utf8_first)] W/\handlesMet Tryz.prog [("errors.errorType",Rows.laid_errors_errorType)] W:=h;refine⟨?_,zj8 ⟨⟨[],rfl,List.nodup_nil,λ_ _ h=>by cases h⟩,h'.2⟩⟩;obtain⟨ps,⟨g1,t1,cs1,f1,p1,q1,_,_,_,_,⟨g2,t2,cs2,f2,p2,q2,_,_,_,_,⟨g3,t3,cs,fuel,p,q,hg',ht',hvar,hd,_,_⟩,_⟩,_⟩,_⟩:=h'.1;obtain rfl:=Option.some.inj (Tryz.gPow.symm.trans hg');obtain rfl:=Option.some.inj (Tryz.gPowT.symm.trans ht');have hd':DataW.trod (λ_=>()) Tryz.prog W 0 (λ_=>true) false fuel 294 cs.toList=some (Lib.tabData .u64 Lib.pow10Tab,p):=hd;have hc:=Lib.cells_of_tab (n:=20) (by kernel_rfl) Tryz.underlying240 (by kernel_rfl) (by kernel_rfl) hd'
 have hcs:cs=(Lib.pow10Tab.map λz=>Value.int .u64 z).toArray:=by rw[<-hc]
 rw[hcs]at hvar;unfold World.var? at hvar;rw[Tryz.gPow]at hvar;simp only[Option.bind_some]at hvar
 split at hvar
 ·rename_i cells ty fz hh
  simp only[Option.some.injEq]at hvar;exact⟨ty,fz,by rw[hh,hvar]⟩
 ·cases hvar
def zu2{W:World}(h:W.ShapedOpen Tryz.prog):Yx W:=
 cell_of_shapedOpen_int (P:=Tryz.prog) (g:=2) (t:=3) (zero:=#[.int .i64 0]) h (of_decide_eq_true (by kernel_rfl)) (by kernel_rfl) rfl (by kernel_rfl) (by kernel_rfl) Tryz.underlying3
def zr5{H:Type}{enc:TypeId×Value->H}{a:Assume}{C:Checked}{os:Os}{f:FuncId}{fn:Func}{s:ChangeSpec}{conds:List PathCond}{apart fresh handsOn again:Bool}{X:World->Array Value->Prop}
  (hX:∀(w w':World) (args:Array Value),w.heap=w'.heap->X w args->X w' args)
  (own:ownKnob C.prog.godebug=none) (started:os.Started) (noInit:C.prog.inits.idxOf? f=none) (hfn:C.prog.funcs[f]?=some fn)
  (witness:∃(w:World) (tape:Tape) (i:Input),w.os=os/\(w.forCall tape i).Shaped C.prog/\i.vars=[]/\Input.okWide C.prog (w.forCall tape i) .any w.heap.size f i/\
   ((s.pre enc C.prog fn conds apart (w.forCall tape i).memory i.args/\X (w.forCall tape i).memory i.args)/\sizedMet enc C.prog fn (OpenSpec.ofChange s) apart (w.forCall tape i).memory i.args)/\a.holds C.prog (lone (Frame.enter C.prog f i.args .normal) [] (w.forCall tape i)))
  (contract:∀(W:World) (base:Nat) (args:Array Value) (ds gs:List (DataW H)) (before:List MemPlace),(∀(j:Nat) t v,fn.params[j]?=some t->args[j]?=some v->Value.okWide C.prog W .any base t v)->
   DataW.Whole enc C.prog fn.params.toList s.vars apart W args.toList ds gs before->X W args->W.ShapedOpen C.prog->
   Calls C.prog f args W λe W'=>∃v,e=.returned v/\s.post enc C.prog fn apart fresh handsOn again W args v W'):
  ReturnsInHanded a C os f .any (λw args=>(s.pre enc C.prog fn conds apart w args/\X w args)/\sizedMet enc C.prog fn (OpenSpec.ofChange s) apart w args) (s.post enc C.prog fn apart fresh handsOn again):=by
 refine returnsInHanded_of_calls own started noInit witness ?_;intro w tape i _ hsh _ hok hpre hholds;obtain⟨_,_,_,fn',hfn',_,_,_,_,hval⟩:=hok;have e:fn'=fn:=Option.some.inj (hfn'.symm.trans hfn);subst e;obtain⟨⟨⟨ds,gs,before,hw,_⟩,hx⟩,hz⟩:=hpre;have hw':=DataW.Whole.of_heap (w':=w.forCall tape i) (by rfl) hw;refine(contract (w.forCall tape i) w.heap.size i.args ds gs before hval hw' (hX _ _ _ (by rfl) hx) hsh).mono λe W' ⟨v,he,hp⟩=>?_;subst he;exact ChangeSpec.post_blind hp
def zgw(os:Os)(args:Array Value):laidMetH Tryz.prog zk6 ((({World.doorLaid Tryz.prog 41 os with heap:=(World.doorLaid Tryz.prog 41 os).heap.modify 5 λ
   | .cells _ t frozen=> .cells (Go.Pinned.utf8FirstZ.map λ(z:Nat)=>Value.int .u8 (z:Int)).toArray t frozen
   |o=>o}:World)).forCall (λ_ _=>0) ⟨#[],args,[]⟩).memory:=
 laidMetH_of_parts (laidMet_of_run' 8 (by kernel_rfl) (by kernel_rfl)) (by kernel_rfl)
end Go.Proofs.YtminjljgedopkaaGreatDoor
