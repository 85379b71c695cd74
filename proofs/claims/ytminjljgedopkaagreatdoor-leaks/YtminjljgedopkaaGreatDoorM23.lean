import Derived.Test.YtminjljgedopkaaGreatDoorM19
import Derived.Test.YtminjljgedopkaaGreatDoorM22
set_option linter.all false
set_option maxRecDepth 100000
set_option maxHeartbeats 40000000
namespace Go.Proofs.YtminjljgedopkaaGreatDoor
open Go.RowKit Go.Proofs.Tryz
def ytw(a b:List UInt8):((⟨a.toArray⟩:ByteArray)++⟨#[32]⟩)++⟨b.toArray⟩=⟨(a++(32::b)).toArray⟩:=by
 have h1:(⟨a.toArray⟩:ByteArray)++⟨#[32]⟩=⟨(a++[32]).toArray⟩:=ByteArray.mk_append_mk a [32];rw[h1,ByteArray.mk_append_mk];simp
def ytv(w:World)(o0 o1 o2 o3:Obj):((((w.alloc o0).alloc o1).alloc o2).alloc o3).heap[w.heap.size]?=some o0/\((((w.alloc o0).alloc o1).alloc o2).alloc o3).heap[w.heap.size+1]?=some o1/\((((w.alloc o0).alloc o1).alloc o2).alloc o3).heap[w.heap.size+3]?=some o3/\((((w.alloc o0).alloc o1).alloc o2).alloc o3).heap.size=w.heap.size+4/\Below w.heap.size w ((((w.alloc o0).alloc o1).alloc o2).alloc o3):=by
 have a:∀(u:World) (o:Obj) (k:Nat),k<u.heap.size->(u.alloc o).heap[k]?=u.heap[k]?:=λu o k hk=>Below.heap_alloc _ _ _ hk
 have l:∀(u:World) (o:Obj) (k:Nat),u.heap.size=k->(u.alloc o).heap[k]?=some o:=λu o k hk=>by subst hk;exact heap_alloc_last u o
 refine⟨?_,?_,?_,by simp,((((Below.refl _ w).alloc (Nat.le_refl _) _).alloc (by simp<;>omega) _).alloc (by simp<;>omega) _).alloc (by simp<;>omega) _⟩
 ·rw[a _ _ _ (by simp<;>omega),a _ _ _ (by simp<;>omega),a _ _ _ (by simp<;>omega),l _ _ _ rfl]
 ·rw[a _ _ _ (by simp<;>omega),a _ _ _ (by simp<;>omega),l _ _ _ (by simp<;>omega)]
 ·rw[l _ _ _ (by simp<;>omega)]
structure TxL(W3 wq:World)(NB:Nat)(v:Value)(nd:Fl.Node)(j:Nat):Prop where
 g:W3.grownBy wq (some (NB+1))
 ho:wq.ownsRow (NB+1) 3 1 v (nd.level::[nd.a,nd.b,nd.c].take j).length ((nd.level::[nd.a,nd.b,nd.c].take j).map (Value.int .i64))
 hv:∀g,v.ownBlock=some g->g=NB+1\/W3.heap.size<=g
def TxL.zero{W3:World}{NB:Nat}{nd:Fl.Node}(h:W3.ownsRow (NB+1) 3 1 (.slice (some ⟨NB+1,0,none⟩) 1 1) 1 ([nd.level].map (Value.int .i64))):TxL W3 W3 NB (.slice (some ⟨NB+1,0,none⟩) 1 1) nd 0:=
 ⟨World.grownBy.refl _ _,h,λg hg=> .inl (by simp[Value.ownBlock]at hg;exact hg.symm)⟩
def yw6(a b c:Int)(j:Nat)(h:j<3):[a,b,c].take (j+1)=[a,b,c].take j++[[a,b,c].getD j 0]:=by
 rcases(show j=0\/j=1\/j=2 by omega) with rfl|rfl|rfl<;>rfl
def TxL.next{W3 wq w2:World}{NB:Nat}{v v':Value}{nd:Fl.Node}{j:Nat}{o:Obj}(h:TxL W3 wq NB v nd j)(h3:j<3)(ho:w2.ownsRow (NB+1) 3 1 v' ((nd.level::[nd.a,nd.b,nd.c].take j).length+1) ((nd.level::[nd.a,nd.b,nd.c].take j).map (Value.int .i64)++[.int .i64 ([nd.a,nd.b,nd.c].getD j 0)]))
  (hg:(wq.alloc o).grownBy w2 v.ownBlock) (hw:v'.ownBlock=v.ownBlock\/v'.ownBlock=some (wq.alloc o).heap.size):TxL W3 w2 NB v' nd (j+1):=by
 have g1:=h.g;have hs:=hg.size;have hs1:=g1.size;simp only[World.size_alloc]at hs;refine⟨⟨hg.os.trans g1.os,hg.tape.trans g1.tape,hg.output.trans g1.output,by omega,λk hk hne=>?_⟩,?_,λg hgv=>?_⟩
 ·have h1:some k≠v.ownBlock:=λe=>by
   rcases h.hv k e.symm with e2|e2
   ·exact hne (by rw[e2])
   ·omega
  rw[hg.block k (by simp;omega) h1,Below.heap_alloc _ _ _ (by omega),g1.block k hk hne]
 ·have e:nd.level::[nd.a,nd.b,nd.c].take (j+1)=(nd.level::[nd.a,nd.b,nd.c].take j)++[[nd.a,nd.b,nd.c].getD j 0]:=by rw[yw6 _ _ _ _ h3];rfl
  rw[e,List.length_append,List.map_append];exact ho
 ·rcases hw with hw|hw
  ·exact h.hv g (hw ▸ hgv)
  ·right;rw[hw]at hgv;simp at hgv;omega
def ys0(ls:List Int)(ns:List Fl.Node)(lv nv:Value)(w:World)(hl:Zy w.heap.size w lv ls)(hn:Zo w.heap.size w nv ns)(hll:ls.length<=4)(hlr:∀x∈ls,0<=x/\x<2147483648)(hnl:ns.length<=200)
  (hT:∀i,i<ns.length->Fl.Tellable (Fl.nth ns i)) (hS:∀i,i<ns.length->∀k:Nat,(Fl.nth ns i).kind=(k:Int)->k≠7->(Fl.nth ns i).list=[]) (hp:Va w):
  Calls prog 31 #[.agg #[lv,nv]] w λe w'=>e=.returned (.string ⟨(Fl.text ls ns).toArray⟩)/\Below w.heap.size w w':=by
 obtain⟨la,lcap,rfl,_,_,_⟩:=id hl;obtain⟨na,ncap,rfl,_,_,_⟩:=id hn;have HL:Hid (Zy w.heap.size w (Value.slice la ls.length lcap) ls):=hl;have HN:Hid (Zo w.heap.size w (Value.slice na ns.length ncap) ns):=hn;have HT:Hid (∀i,i<ns.length->Fl.Tellable (Fl.nth ns i)):=hT;have HS:Hid (∀i,i<ns.length->∀k:Nat,(Fl.nth ns i).kind=(k:Int)->k≠7->(Fl.nth ns i).list=[]):=hS;have HLR:Hid (∀x∈ls,0<=x/\x<2147483648):=hlr;have HP:Hid (Va w):=hp;have hpl:=hp.lt;clear hl hn hT hS hlr hp
 go_enter func31,ntmps31
 go_wp2_with (first|(go_at_call 38;refine(zxw _).mono ?_;rintro e w1 ⟨rfl,rfl⟩)|(refine Uz rfl _ _ 98 rfl _ _ _ Zv rfl (by simp) rfl Tryz.infoRules zxx zv3 ?_))
 obtain⟨r0,r1,r3,hz0,hB0⟩:=ytv w (.cells #[.slice la ls.length lcap,.slice na ns.length ncap] 26) (.cells #[.pointer none,.slice none 0 0] 118) (.cells Zv 98) (.cells Zv 98);obtain⟨W0,hW0⟩:∃W0,W0=(((w.alloc (.cells #[.slice la ls.length lcap,.slice na ns.length ncap] 26)).alloc (.cells #[.pointer none,.slice none 0 0] 118)).alloc (.cells Zv 98)).alloc (.cells Zv 98):=⟨_,rfl⟩;rw[<-hW0]at r0 r1 r3 hz0 hB0⊢;have hbld:Lib.IsBuilderF 118 5 (w.heap.size+1) (w.heap.size+1) (Lib.byteCells []) W0:=.inl ⟨Nat.le_refl _,.slice none 0 0,r1,World.ownsRowF_nil _ _ _ _,by simp[Value.ownBlock]⟩;have HR3:Hid (W0.heap[w.heap.size+3]?=some (.cells Zv 98 (0,0))):=r3;have HB0:Hid (Below w.heap.size w W0):=hB0;have HR0:Hid (W0.heap[w.heap.size]?=some (.cells #[.slice la ls.length lcap,.slice na ns.length ncap] 26 (0,0))):=r0;have hwl:=zrz (w.heap.size+1) [] Fl.wLocals (.slice la ls.length lcap) ls W0 hbld (by omega) (λW hW=>(HL.out.below (hB0.trans (hW.bl.mono (by omega)))).mono (hB0.trans (hW.bl.mono (by omega))).size) HLR.out (HP.out.below (Nat.le_refl _) hB0) (by omega) (by simp) (by decide) (by omega);have HWL:Hid (Calls prog 46 #[.pointer (some ⟨w.heap.size+1,0,none⟩),.string ⟨#[108,111,99,97,108,115]⟩,.slice la ls.length lcap] W0 λe w'=>e=.returned (.tuple #[])/\Lib.BuilderAtF 118 5 (w.heap.size+1) (w.heap.size+1) (.pointer (some ⟨w.heap.size+1,0,none⟩)) (Lib.byteCells (Fl.textTo ls ns 0)) w'/\Wr (w.heap.size+1) W0 w'):=by
  refine hwl.mono ?_;rintro e w' ⟨he,h1,h2⟩;exact⟨he,by rw[show Fl.textTo ls ns 0=[]++Fl.wLocals++Fl.spaced ls from by simp[Fl.textTo]];exact h1,h2⟩
 clear hW0 r0 r1 r3 hB0 hbld hwl;refine HWL.out.mono ?_;rintro e w1 ⟨rfl,hb1,hw1⟩;have HB1:Hid _:=hb1;have HW1:Hid (Wr (w.heap.size+1) W0 w1):=hw1;have p1:w1.cell? ⟨w.heap.size,1,none⟩=some (.slice na ns.length ncap):=(hw1.bl.cell (p:=⟨w.heap.size,1,none⟩) (by show w.heap.size<_;omega)).trans ((cell_of_row _ _ _ _ _ _ HR0.out).trans rfl);clear hb1 hw1 HWL
 go_wp2_with fail
 go_loopw [18] (λi wr=>∃k:Nat,k<=ns.length/\i=.int .i64 k/\Lib.BuilderAtF 118 5 (w.heap.size+1) (w.heap.size+1) (.pointer (some ⟨w.heap.size+1,0,none⟩)) (Lib.byteCells (Fl.textTo ls ns k)) wr/\Wr (w.heap.size+1) W0 wr) (λi _=>ns.length - (intOf i).toNat)
 case atStart=>exact⟨0,by omega,rfl,HB1.out,HW1.out⟩
 case round=>
  clear HB1 HW1 p1;obtain⟨k,hk,rfl,hbk,hwr⟩:=hrel;have HBK:Hid (Lib.BuilderAtF 118 5 (w.heap.size+1) (w.heap.size+1) (.pointer (some ⟨w.heap.size+1,0,none⟩)) (Lib.byteCells (Fl.textTo ls ns k)) wr):=hbk;have HWR:Hid (Wr (w.heap.size+1) W0 wr):=hwr;have HBW:Hid (Below w.heap.size w wr):=HB0.out.trans (hwr.bl.mono (by omega));have hzr:w.heap.size+4<=wr.heap.size:=(by have:=hwr.bl.size;omega);clear hbk hwr
  by_cases hlt:k<ns.length
  ·obtain⟨nd,hnd⟩:∃nd,nd=Fl.nth ns k:=⟨_,rfl⟩
   obtain⟨b,off,rfl⟩:∃b off,na=some ⟨b,off,none⟩:=by
    obtain⟨ao',cap',hv',_,_,hx'⟩:=HN.out;obtain⟨b,off,ha,_⟩:=hx' (by intro h;rw[h]at hlt;simp at hlt);simp only[Value.slice.injEq]at hv';exact⟨b,off,hv'.1.trans ha⟩
   obtain⟨hbB,xv,hxi,c0,c1,c2,c3,c4,c5⟩:=(HN.out.below HBW.out).at hlt;obtain⟨xao,xcap,rfl,_⟩:=id hxi;rw[<-hnd]at hxi c0 c1 c2 c3 c4 c5;have HND:Hid (nd=Fl.nth ns k):=hnd;have HXI:Hid (Zy w.heap.size wr (.slice xao nd.list.length xcap) nd.list):=hxi;have HTL:Hid (Fl.Tellable nd):=(by show Fl.Tellable nd;rw[hnd];exact HT.out k hlt);have hk0:=HTL.out.1;have hk8:=HTL.out.2.1;obtain⟨kn,hkn⟩:∃kn:Nat,nd.kind=(kn:Int):=⟨nd.kind.toNat,by omega⟩;have hkn8:kn<8:=(by omega);have HKN:Hid (nd.kind=(kn:Int)):=hkn;have HLN:Hid (Fl.lineNums nd=nd.level::([nd.a,nd.b,nd.c].take (Ys kn)++nd.list)):=zgx hkn hkn8 (λh7=>by rw[hnd];exact HS.out k hlt kn (by rw[<-hnd];exact hkn) h7);rw[hkn]at c0;have HTR:Hid (wr.heap[w.heap.size+3]?=some (.cells Zv 98 (0,0))):=HWR.out.row HR3.out (by omega) (by decide);have hkI:(k:Int)<(ns.length:Int):=(by omega);have hknI:(kn:Int)<8:=(by omega);clear hnd hxi hkn hk0 hk8
   go_wp2_with fail
   obtain⟨NB,hNB⟩:∃NB,NB=wr.heap.size:=⟨_,rfl⟩;obtain⟨W2,hW2⟩:∃W2,W2=(wr.alloc (.cells #[.int .i64 (kn:Int),.int .i64 nd.level,.int .i64 nd.a,.int .i64 nd.b,.int .i64 nd.c,.slice xao nd.list.length xcap] 121)).alloc (.cells #[.int .i64 nd.level] 3):=⟨_,rfl⟩;rw[<-hW2,<-hNB];have hz2:W2.heap.size=NB+2:=(by rw[hW2,hNB];simp);have HB2:Hid (Below wr.heap.size wr W2):=(by rw[hW2];exact((Below.refl _ _).alloc (Nat.le_refl _) _).alloc (by simp) _);have HNB:Hid (NB=wr.heap.size):=hNB;have hnd2:Nd W2 NB (kn:Int) nd.level nd.a nd.b nd.c (.slice xao nd.list.length xcap):=by
    rw[hW2,hNB];exact(Nd.new wr (kn:Int) nd.level nd.a nd.b nd.c (.slice xao nd.list.length xcap) 121).grown (World.grownBy_alloc _ _ none) (by simp)
   have ho2:W2.ownsRow (NB+1) 3 1 (.slice (some ⟨NB+1,0,none⟩) 1 1) 1 ([nd.level].map (Value.int .i64)):=by
    refine⟨rfl,.inr ⟨NB+1,1,#[.int .i64 nd.level],rfl,Nat.le_refl _,?_,by simp,by simp[maxLen],rfl,rfl⟩⟩;rw[hW2,hNB];have h:=heap_alloc_new (wr.alloc (.cells #[.int .i64 (kn:Int),.int .i64 nd.level,.int .i64 nd.a,.int .i64 nd.b,.int .i64 nd.c,.slice xao nd.list.length xcap] 121)) (.cells #[.int .i64 nd.level] 3);simpa using h
   have hT2:W2.heap[w.heap.size+3]?=some (.cells Zv 98 (0,0)):=(HB2.out.block _ (by omega)).trans HTR.out;have hr2:W2.heap[NB]?=some (.cells #[.int .i64 (kn:Int),.int .i64 nd.level,.int .i64 nd.a,.int .i64 nd.b,.int .i64 nd.c,.slice xao nd.list.length xcap] 121 (0,0)):=by
    rw[hW2,hNB,Below.heap_alloc _ _ _ (by simp)];exact heap_alloc_new _ _
   have HT2:Hid (W2.heap[w.heap.size+3]?=some (.cells Zv 98 (0,0))):=hT2;have hq:=(yw5 hT2 kn hkn8).1;refine(zs3 (w.heap.size+1+1+1) (kn*4) NB (Ys kn) W2 (zpw kn) (by omega) hq).mono ?_;rintro e W3 ⟨rfl,hW3⟩;have g3:W2.grownBy W3 none:=(by rw[hW3];exact⟨rfl,rfl,rfl,by simp,λk hk _=>Below.heap_alloc _ _ _ hk⟩);have HB3:Hid (Below wr.heap.size wr W3):=(by rw[hW3];exact(HB2.out.alloc (by omega) _).drew);have HN3:Hid (Nd W3 NB (kn:Int) nd.level nd.a nd.b nd.c (.slice xao nd.list.length xcap)):=hnd2.grown g3 (by simp);have HO3:Hid (W3.ownsRow (NB+1) 3 1 (.slice (some ⟨NB+1,0,none⟩) 1 1) 1 ([nd.level].map (Value.int .i64))):=ho2.kept g3 (by simp[Value.ownBlock]);have HT3:Hid (W3.heap[w.heap.size+3]?=some (.cells Zv 98 (0,0))):=(g3.block _ (by omega) (by simp)).trans hT2;have hz3:W3.heap.size=NB+3:=(by rw[hW3];simp;omega);have HRN:Hid (W3.heap[NB]?=some (.cells #[.int .i64 (kn:Int),.int .i64 nd.level,.int .i64 nd.a,.int .i64 nd.b,.int .i64 nd.c,.slice xao nd.list.length xcap] 121 (0,0))):=(g3.block _ (by omega) (by simp)).trans hr2;have HP3:Hid (∀j,j<3->W3.cell? ⟨NB+2,j,none⟩=some (.pointer (some ⟨NB,2+j,none⟩))):=by
    intro j hj;have h:=World.cell?_alloc_new W2 #[.pointer (some ⟨NB,2,none⟩),.pointer (some ⟨NB,3,none⟩),.pointer (some ⟨NB,4,none⟩)] 126 j;rw[hz2]at h;rw[hW3];refine h.trans ?_;rcases(show j=0\/j=1\/j=2 by omega) with rfl|rfl|rfl<;>rfl
   have hf3:=zpw kn;obtain⟨f,hf⟩:∃f,f=Ys kn:=⟨_,rfl⟩;rw[<-hf]at HLN hf3⊢;rw[hz2];have hNBr:w.heap.size+4<=NB:=(by omega);clear hW2 hNB hW3 g3 hnd2 ho2 hT2 hr2 hq hz2 c0 c1 c2 c3 c4 c5 hf HT2 HB2;obtain⟨wo,hwo⟩:∃wo,wo=wr:=⟨_,rfl⟩;subst hwo;obtain⟨i0,hi0,hz0',hzs,hzb⟩:=info_parts Tryz.infoInt
   go_wp2_with fail
   go_loopw [8,32] (λv i wq=>∃j:Nat,j<=f/\i=.int .i64 j/\TxL W3 wq NB v nd j) (λ_ i _=>f - (intOf i).toNat)
   case atStart=>exact⟨0,by omega,rfl,TxL.zero HO3.out⟩
   case round=>
    obtain⟨j,hj,rfl,htl⟩:=hrel;have hv1:=htl.ho.1;obtain⟨vao,vcap,rfl⟩:=Xq htl.ho;have HTX:Hid (TxL W3 wr NB (.slice vao (nd.level::[nd.a,nd.b,nd.c].take j).length vcap) nd j):=htl;have hln:(nd.level::[nd.a,nd.b,nd.c].take j).length<=4:=(by simp;omega);obtain⟨ys,hys⟩:∃ys,ys=nd.level::[nd.a,nd.b,nd.c].take j:=⟨_,rfl⟩;have HYS:Hid (ys=nd.level::[nd.a,nd.b,nd.c].take j):=hys;have HOY:Hid (wr.ownsRow (NB+1) 3 1 (.slice vao ys.length vcap) ys.length (ys.map (Value.int .i64))):=by
     have h:=htl.ho;rw[<-hys]at h;exact h
    rw[<-hys]at hln⊢;have hzw:NB+3<=wr.heap.size:=(by have:=htl.g.size;omega);clear htl hv1 hys
    by_cases hjf:j<f
    ·have hpj:wr.cell? ⟨NB+2,j,none⟩=some (.pointer (some ⟨NB,2+j,none⟩)):=HTX.out.g.cell (HP3.out j (by omega)) (by simp)
     have hn3:=HN3.out.grown HTX.out.g (by simp);obtain⟨xj,hxj⟩:∃xj,xj=[nd.a,nd.b,nd.c].getD j 0:=⟨_,rfl⟩;have kj:wr.cell? ⟨NB,2+j,none⟩=some (.int .i64 xj):=by
      rw[hxj];rcases(show j=0\/j=1\/j=2 by omega) with rfl|rfl|rfl
      ·exact hn3.c2
      ·exact hn3.c3
      ·exact hn3.c4
     have HXJ:Hid (xj=[nd.a,nd.b,nd.c].getD j 0):=hxj;clear hxj hn3
     go_wp2_with (at_builtin;refine Zk _ rfl (.tmp 36) (.tmp 40) 23 rfl (NB+1) 3 i0 (.int .i64 0) 1 8 underlying23 hi0 hz0' hzs hzb rfl (by decide) _ _ _ rfl (HOY.out.alloc _) ⟨_,0,none⟩ 1 1 [.int .i64 xj] rfl rfl (by decide) Uw ?c2 ?c3 ?c4 ?c5 ?_)
     case c2=>intro u hu;simp at hu;subst hu;rfl
     case c3=>unfold maxLen;omega
     case c4=>omega
     case c5=>simp;omega
     intro v' w2 ho2 hg2 hw2;have HNX:Hid (TxL W3 w2 NB v' nd (j+1)):=HTX.out.next (o:=.cells #[.int .i64 xj] 3) (by omega) (by rw[<-HXJ.out,<-HYS.out];exact ho2) (by rw[<-HYS.out];exact hg2) (by rw[<-HYS.out,World.size_alloc];exact hw2);clear ho2 hg2 hw2 hpj kj;go_wp2
     go_roundw
     case rel=>exact⟨j+1,by omega,by go_num,HNX.out⟩
     case measure=>simp[intOf];omega
    ·have hjf':j=f:=by omega
     have hn4:=HN3.out.grown HTX.out.g (by simp);have k5:=hn4.c5;have hB4:Below wo.heap.size wo wr:=HB3.out.grown HTX.out.g (by have:=HNB.out;omega) (λg hg=>by injection hg with hg;have:=HNB.out;omega);have hT4:wr.heap[w.heap.size+1+1+1]?=some (.cells Zv 98 (0,0)):=(HTX.out.g.block _ (by omega) (by simp;omega)).trans HT3.out;have hkw:=ytx hT4 kn hkn8;obtain⟨kw,hkw'⟩:∃kw,kw=Fl.kindWords.getD kn []:=⟨_,rfl⟩;rw[<-hkw']at hkw;have hkwl:kw.length<=5:=(by rw[hkw'];exact zp3 kn hkn8);have HKW:Hid (kw=Fl.kindWords.getD kn []):=hkw';obtain⟨dk,hdk⟩:∃dk,dk=Lib.decDigits k:=⟨_,rfl⟩;have hdl:dk.length<=3:=(by rw[hdk];exact zaw k (by omega));have HDK:Hid (dk=Lib.decDigits k):=hdk;have hkws:((⟨kw.toArray⟩:ByteArray).size:Int)<=5:=(by show ((kw.toArray.size:Nat):Int)<=5;simp;omega);have hds:((⟨dk.toArray⟩:ByteArray).size:Int)<=3:=(by show ((dk.toArray.size:Nat):Int)<=3;simp;omega);have hds2:((⟨#[32]⟩:ByteArray).size:Int)=1:=rfl;have HWR4:Hid (Wr (w.heap.size+1) W0 wr):=HWR.out.below hB4 (by omega);have HBK4:Hid (Lib.BuilderAtF 118 5 (w.heap.size+1) (w.heap.size+1) (.pointer (some ⟨w.heap.size+1,0,none⟩)) (Lib.byteCells (Fl.textTo ls ns k)) wr):=zw4 HBK.out hB4;have HXI4:Hid (Zy w.heap.size wr (.slice xao nd.list.length xcap) nd.list):=HXI.out.below (hB4.mono (by omega));have HIT:Hid (Calls prog 48 #[.int .i64 (k:Int)] wr.drew λe w'=>e=.returned (.string ⟨dk.toArray⟩)/\Below wr.drew.heap.size wr.drew w'):=by
      show Calls _ _ _ _ _;rw[hdk];exact zc2 k wr.drew (by omega) ((HP.out.below (Nat.le_refl _) HBW.out).wr (b:=wo.heap.size) (by omega) hB4.drew)
     have HYF:Hid (ys=nd.level::[nd.a,nd.b,nd.c].take f):=(by show _=_;rw[<-hjf'];exact HYS.out);have HT4:Hid (wr.heap[w.heap.size+1+1+1]?=some (.cells Zv 98 (0,0))):=hT4;have HN4:Hid (Nd wr NB (kn:Int) nd.level nd.a nd.b nd.c (.slice xao nd.list.length xcap)):=hn4;have HB4:Hid (Below wo.heap.size wo wr):=hB4;have HR4:Hid (wr.heap[NB]?=some (.cells #[.int .i64 (kn:Int),.int .i64 nd.level,.int .i64 nd.a,.int .i64 nd.b,.int .i64 nd.c,.slice xao nd.list.length xcap] 121 (0,0))):=(HTX.out.g.block _ (by omega) (by simp)).trans HRN.out;have hli:=HTL.out.2.2.2.2.2.2.1;have hvg:∀g,(Value.slice vao ys.length vcap).ownBlock=some g->NB+1<=g:=λg hg=>(HOY.out.lt g hg).1;clear hjf' hn4 hB4 hT4 hkw' hdk HTX HYS
     go_wp2_with fail
     refine zv8 (λW=>W.cell? ⟨w.heap.size+1+1+1,kn*4,none⟩=some (.string ⟨kw.toArray⟩)/\W.cell? ⟨NB,5,none⟩=some (.slice xao nd.list.length xcap)) [(true,0),(true,3),(true,4),(true,5),(true,6),(true,8),(true,9),(true,10),(false,1),(true,2),(true,7),(false,11),(false,12)] (by kernel_rfl) (by kernel_rfl) rfl [(true,_),(true,_),(true,_),(true,_),(true,_),(true,_),(true,_),(true,_),(false,_),(true,_),(true,_),(false,_),(false,_)] rfl (λc a d v w h=>by cases d<;>exact h) ⟨hkw,k5⟩ (λops=>?_)
     iterate 8
      refine ztv rfl (λK hK=>?_);apply Exists.intro
      refine⟨λw' hw'=>?_,?_⟩
      ·have s1:=hw'.1
       have s2:=hw'.2;go_simp
       try with_reducible rfl
      go_simp;refine hK _ ?_;clear hK K
     refine zy7 ?_
     go_wp2_with fail
     refine HIT.out.mono ?_;rintro e w5 ⟨rfl,hb5⟩;have hB5:Below wr.heap.size wr w5:=(Below.refl wr.heap.size wr).drew.trans hb5;have t1:w5.cell? ⟨w.heap.size+1+1+1,kn*4,none⟩=some (.string ⟨kw.toArray⟩):=(hB5.cell (p:=⟨w.heap.size+1+1+1,kn*4,none⟩) (by show w.heap.size+1+1+1<_;omega)).trans hkw;have t2:w5.cell? ⟨NB,5,none⟩=some (.slice xao nd.list.length xcap):=(hB5.cell (p:=⟨NB,5,none⟩) (by show NB<_;omega)).trans k5;have HO5:Hid (w5.ownsRow (NB+1) 3 1 (.slice vao ys.length vcap) ys.length (ys.map (Value.int .i64))):=own_low HOY.out hB5;have HX5:Hid (Zy w.heap.size w5 (.slice xao nd.list.length xcap) nd.list):=HXI4.out.below (hB5.mono (by omega));have HB5:Hid (Below wo.heap.size wo w5):=HB4.out.trans (hB5.mono (by have:=HNB.out;omega));have HT5:Hid (w5.heap[w.heap.size+1+1+1]?=some (.cells Zv 98 (0,0))):=(hB5.block _ (by omega)).trans HT4.out;have HR5:Hid (w5.heap[NB]?=some (.cells #[.int .i64 (kn:Int),.int .i64 nd.level,.int .i64 nd.a,.int .i64 nd.b,.int .i64 nd.c,.slice xao nd.list.length xcap] 121 (0,0))):=(hB5.block _ (by omega)).trans HR4.out;have hz5:NB+3<=w5.heap.size:=(by have:=hB5.size;omega);clear HIT hb5 hB5 hkw k5
     go_wp2_with fail
     refine⟨⟨t1,t2⟩,?_⟩;have hc1:¬9223372036854775807<dk.length+1:=(by omega);have hc2:¬9223372036854775807<dk.length+1+kw.length:=(by omega)
     iterate 2
      refine ztv rfl (λK hK=>?_);apply Exists.intro
      refine⟨λw' hw'=>?_,?_⟩
      ·have s1:=hw'.1
       have s2:=hw'.2;go_simp
       try with_reducible rfl
      go_simp;refine hK _ ?_;clear hK K
     refine zy7 ?_;refine zp2 rfl (.tmp 51) (.tmp 53) rfl (NB+1) _ ys rfl HO5.out _ rfl w.heap.size nd.list HX5.out (by omega) (by omega) (by omega) ?_;intro v' w6 ho6 hg6
     have hne6:∀q,q<NB+1->some q≠(Value.slice vao ys.length vcap).ownBlock:=λq hq e=>by have:=hvg q e.symm;omega
     have hT6:w6.heap[w.heap.size+1+1+1]?=some (.cells Zv 98 (0,0)):=(hg6.block _ (by omega) (hne6 _ (by omega))).trans HT5.out;have hR6:w6.heap[NB]?=some (.cells #[.int .i64 (kn:Int),.int .i64 nd.level,.int .i64 nd.a,.int .i64 nd.b,.int .i64 nd.c,.slice xao nd.list.length xcap] 121 (0,0)):=(hg6.block _ (by omega) (hne6 _ (by omega))).trans HR5.out;have t3:w6.cell? ⟨w.heap.size+1+1+1,kn*4,none⟩=some (.string ⟨kw.toArray⟩):=hg6.cell t1 (hne6 (w.heap.size+1+1+1) (by omega));have t4:w6.cell? ⟨NB,5,none⟩=some (.slice xao nd.list.length xcap):=hg6.cell t2 (hne6 NB (by omega));have hB6:Below wo.heap.size wo w6:=HB5.out.grown hg6 (by have:=HNB.out;omega) (λg hg=>by have:=hvg g hg;have:=HNB.out;omega);have hLN6:ys++nd.list=Fl.lineNums nd:=(by rw[HLN.out,HYF.out];rfl);rw[hLN6]at ho6;obtain⟨oao,ocap,rfl⟩:=Xq ho6;have hz6:NB+3<=w6.heap.size:=(by have:=hg6.size;omega)
     have hob:(Value.slice oao (Fl.lineNums nd).length ocap).ownBlock≠some (w.heap.size+1):=λe=>by have:=(ho6.lt _ e).1;omega
     have htl:=zk5 (ns:=ns) hll HLR.out k (by omega) (λi hi=>HT.out i (by omega));obtain⟨hll2,hlr2⟩:=zuw HTL.out;have hwl:=zrz (w.heap.size+1) (Fl.textTo ls ns k) (dk++(32::kw)) (.slice oao (Fl.lineNums nd).length ocap) (Fl.lineNums nd) w6 (.inr (zw4 HBK.out hB6)) (by omega) (λW hW=>Zy.of_own (own_wr ho6 hob hW)) hlr2 ((HP.out.below (Nat.le_refl _) HBW.out).wr (b:=wo.heap.size) (by omega) hB6) (by omega) (by omega) (by simp;omega) (by omega);have HWL:Hid (Calls prog 46 #[.pointer (some ⟨w.heap.size+1,0,none⟩),.string (((⟨dk.toArray⟩:ByteArray)++⟨#[32]⟩)++⟨kw.toArray⟩),.slice oao (Fl.lineNums nd).length ocap] w6 λe w'=>e=.returned (.tuple #[])/\Lib.BuilderAtF 118 5 (w.heap.size+1) (w.heap.size+1) (.pointer (some ⟨w.heap.size+1,0,none⟩)) (Lib.byteCells (Fl.textTo ls ns (k+1))) w'/\Wr (w.heap.size+1) w6 w'):=by
      show Calls _ _ _ _ _;rw[ytw];refine hwl.mono ?_;rintro e w' ⟨he,h1,h2⟩;refine⟨he,?_,h2⟩;have e1:Fl.textTo ls ns k++(dk++32::kw)++Fl.spaced (Fl.lineNums nd)=Fl.textTo ls ns (k+1):=by
       rw[Fl.textTo_succ,<-HND.out];unfold Fl.nodeLine;rw[HDK.out,HKW.out,HKN.out];simp
      rw[e1]at h1;exact h1
     have HW6:Hid (Wr (w.heap.size+1) W0 w6):=HWR.out.below hB6 (by omega);have HT6:Hid _:=hT6;have HR6:Hid _:=hR6;clear ho6 hg6 hT6 hR6 hB6 hLN6 hwl t1 t2 htl hob
     go_wp2_with fail
     refine⟨⟨t3,t4⟩,?_⟩;refine zy7 ?_
     go_wp2_with fail
     refine HWL.out.mono ?_;rintro e w7 ⟨rfl,hb7,hw7⟩;have HB7:Hid (Lib.BuilderAtF 118 5 (w.heap.size+1) (w.heap.size+1) (.pointer (some ⟨w.heap.size+1,0,none⟩)) (Lib.byteCells (Fl.textTo ls ns (k+1))) w7):=hb7;have HW7:Hid (Wr (w.heap.size+1) W0 w7):=HW6.out.trans hw7;have u1:w7.cell? ⟨w.heap.size+1+1+1,kn*4,none⟩=some (.string ⟨kw.toArray⟩):=(World.cell?_of_block (w:=w6) ((hw7.row HT6.out (by omega) (by decide)).trans HT6.out.symm)).trans t3;have u2:w7.cell? ⟨NB,5,none⟩=some (.slice xao nd.list.length xcap):=(World.cell?_of_block (w:=w6) ((hw7.row HR6.out (by omega) (by decide)).trans HR6.out.symm)).trans t4;clear hb7 hw7 HWL t3 t4
     go_wp2_with fail
     refine⟨⟨u1,u2⟩,?_⟩;refine zjy ?_;clear u1 u2;go_wp2
     go_roundw
     case rel=>exact⟨k+1,by omega,by go_num,HB7.out,HW7.out⟩
     case measure=>simp[intOf];omega
  ·have hkn:k=ns.length:=by omega
   have HST:=Tryz.Builder_String_any_k (w.heap.size+1) (w.heap.size+1) (Fl.textTo ls ns k) wr (.inr HBK.out) (by omega);have HTX:Hid (Fl.text ls ns=Fl.textTo ls ns k):=(by show _=_;rw[hkn];rfl);have hkI:¬(k:Int)<(ns.length:Int):=(by omega);clear hkn
   go_wp2_with fail
   refine HST.mono ?_;rintro e w2 ⟨rfl,_,hb2,_⟩;have HB2:Hid (Below w.heap.size w w2):=HBW.out.trans (hb2.mono (by omega));clear HST hb2;go_wp2;go_ret;exact⟨by rw[HTX.out];rfl,HB2.out⟩
namespace Fl
end Fl
namespace Fl
def inR_iff(x:Int):inR x=true ↔ 0<=x/\x<2147483648:=by simp[inR]
def sound_kinds{k:Int}(h:fields k≠ -2):0<=k/\k<8:=by
 unfold fields at h
 repeat' split at h
 all_goals omega
def sound_tellable(n:Node)(h:sound n=true):Tellable n:=by
 simp only[sound,okV,Bool.and_eq_true,Bool.or_eq_true,decide_eq_true_eq,inR_iff,List.all_eq_true]at h;obtain⟨h1,h2,h3,h4,h5,h6,h7,h8⟩:=h;exact⟨(sound_kinds h1).1,(sound_kinds h1).2,h2,h4.1,h5.1,h6.1,h3,λx hx=>h7 x hx⟩
def zuw(n:Node)(h:Tellable n):1<=(lineNums n).length/\∀x∈lineNums n,0<=x/\x<2147483648:=by
 obtain⟨k1,k2,k3,k4,k5,k6,k7,k8⟩:=h;refine⟨?_,λx hx=>?_⟩
 ·unfold lineNums;split
  ·simp;omega
  ·simp
 ·unfold lineNums at hx;split at hx
  ·have:=List.mem_of_mem_take hx
   simp only[List.mem_cons,List.not_mem_nil,or_false]at this;rcases this with rfl|rfl|rfl|rfl<;>assumption
  ·rcases List.mem_cons.1 hx with rfl|hx
   ·exact k3
   ·exact k8 x hx
end Fl
namespace Fl
def head_back{s:List UInt8}(h:¬headAt s<3):s=[70,80,49]++s.drop 3/\3<=s.length:=by
 unfold headAt at h
 cases h0:headOk s 0 with
 |false=>rw[if_pos h0]at h;omega
 |true=>
  cases h1:headOk s 1 with
  |false=>rw[if_neg (by rw[h0];simp),if_pos h1]at h;omega
  |true=>
   cases h2:headOk s 2 with
   |false=>rw[if_neg (by rw[h0];simp),if_neg (by rw[h1];simp),if_pos h2]at h;omega
   |true=>
    simp only[headOk,Bool.and_eq_true,decide_eq_true_eq,beq_iff_eq]at h0 h1 h2
    match s,h2.1 with
    |a::b::c::t,_=>
     have e0:=h0.2;have e1:=h1.2;have e2:=h2.2;simp at e0 e1 e2;subst e0 e1 e2;exact⟨rfl,by simp⟩
def head_coded(t:List UInt8):headAt ([70,80,49]++t)=3:=by
 simp[headAt,headOk]
def decode_encode{s:List UInt8}(h:(decode s).2.1=true):encode (decode s).1.1 (decode s).1.2=(s,true,-1):=by
 unfold decode at h⊢
 by_cases h0:headAt s<3
 ·rw[if_pos h0]at h;simp at h
 rw[if_neg h0]at h⊢;obtain⟨hs,h3⟩:=head_back h0;simp only at h⊢;have hno:=num_ok s 3 h3
 by_cases h1:(num s 3).2.1<0
 ·rw[if_pos h1]at h;simp at h
 rw[if_neg h1]at h⊢;obtain⟨v,a1,a2,a3,a4⟩:=num_back h3 (show 0<=(num s 3).2.1 by omega);rw[a3]at hno;rw[a1,a3]at h⊢
 by_cases h2:(4:Int)<(v:Int)
 ·rw[if_pos h2]at h;simp at h
 rw[if_neg h2]at h⊢;simp only[Int.toNat_natCast]at h⊢
 by_cases h4:(nums s (3+(coded v).length) v).2.1<0
 ·rw[if_pos h4]at h;simp at h
 rw[if_neg h4]at h⊢;have hlo:=nums_ok s (3+(coded v).length) v (by omega);obtain⟨ls,b1,b2,b3,b4,b5⟩:=nums_back (s:=s) (p:=3+(coded v).length) (n:=v) (by omega) (by omega);rw[b4]at hlo;rw[b1,b4]at h⊢;simp only[Int.toNat_natCast]at h⊢;have b0:=num_ok s (3+(coded v).length+(codedAll ls).length) (by omega)
 by_cases h5:(num s (3+(coded v).length+(codedAll ls).length)).2.1<0
 ·rw[if_pos h5]at h;simp at h
 rw[if_neg h5]at h⊢;obtain⟨m,c1,c2,c3,c4⟩:=num_back (s:=s) (p:=3+(coded v).length+(codedAll ls).length) (by omega) (by omega);rw[c3]at b0;rw[c1,c3]at h⊢
 by_cases h6:(m:Int)<1\/200<(m:Int)
 ·rw[if_pos h6]at h;simp at h
 rw[if_neg h6]at h⊢;simp only[Int.toNat_natCast]at h⊢;generalize hr:nodesA s m 0 (3+(coded v).length+(codedAll ls).length+(coded m).length) [] []=r at h⊢
 by_cases h7:0<=r.2.2.2
 ·rw[if_pos h7]at h;simp at h
 rw[if_neg h7]at h⊢;obtain⟨ns,d1,d2,d3,d4⟩:=nodesA_back s m 0 (3+(coded v).length+(codedAll ls).length+(coded m).length) [] [] (by omega) (by rw[hr];omega);rw[hr]at d1 d3;rw[List.nil_append]at d1;rw[d1,d3]at h⊢
 by_cases h8:((3+(coded v).length+(codedAll ls).length+(coded m).length+(allBytes ns).length:Nat):Int)<(s.length:Int)
 ·rw[if_pos h8]at h;simp at h
 rw[if_neg h8]at h⊢
 by_cases h9:0<=shaped ns
 ·rw[if_pos h9]at h;simp at h
 rw[if_neg h9];simp only;unfold encode;rw[if_neg (by omega),if_neg (by rw[b3];simp),if_neg h9];have a0:s.drop (3+(coded v).length+(codedAll ls).length+(coded m).length+(allBytes ns).length)=[]:=List.drop_eq_nil_of_le (by omega);have:headBytes ls ns++allBytes ns=s:=by
  conv=>rhs;rw[hs,a4,b5,c4,d4,a0]
  unfold headBytes;rw[b2,d2];simp[List.append_assoc]
 rw[this]
def encode_decode{ls:List Int}{ns:List Node}(h:(encode ls ns).2.1=true):decode (encode ls ns).1=((ls,ns),true,0)/\(encode ls ns).2.2= -1:=by
 unfold encode at h⊢
 by_cases h1:4<ls.length\/ns.length=0\/200<ns.length
 ·rw[if_pos h1]at h;simp at h
 rw[if_neg h1]at h⊢
 by_cases h2:ls.all inR=false
 ·rw[if_pos h2]at h;simp at h
 rw[if_neg h2]at h⊢
 by_cases h3:0<=shaped ns
 ·rw[if_pos h3]at h;simp at h
 rw[if_neg h3];simp only[and_true]
 have hall:ls.all inR=true:=by simpa using h2
 obtain⟨s,hs⟩:=nmE (headBytes ls ns++allBytes ns);rw[<-hs]
 have hs':s=[70,80,49]++(coded ls.length++(codedAll ls++(coded ns.length++allBytes ns))):=by rw[hs];unfold headBytes;simp[List.append_assoc]
 have e3:s.drop 3=coded ls.length++(codedAll ls++(coded ns.length++allBytes ns)):=by rw[hs'];rfl
 have n3:=num_coded e3 (by omega);have e4:=drop_then e3;have n4:=nums_coded e4 hall;have e5:=drop_then e4;have n5:=num_coded e5 (by omega);have e6:=drop_then e5;have hgood:∀i,i<ns.length->sound (nth ns i)=true/\(prem (nth ns i)).any (λx=>decide (((0+i:Nat):Int)<=x))=false:=by
  intro i hi;have h4:shaped ns<0:=(by omega);refine⟨sound_of_shaped h4 i hi,?_⟩;unfold shaped at h4
  cases hf:(List.range ns.length).find? (bad ns) with
  |some j=>rw[hf]at h4;simp only at h4;omega
  |none=>
   rw[List.find?_eq_none]at hf;have:=hf i (by simpa using hi);simp only[bad,Bool.or_eq_true,not_or,Bool.not_eq_true]at this;rw[Nat.zero_add];exact this.2.1
 obtain⟨st',hn⟩:=nodesA_coded s [] ns 0 _ [] [] (by rw[List.append_nil];exact e6) hgood
 have a0:s.length=3+(coded ls.length).length+(codedAll ls).length+(coded ns.length).length+(allBytes ns).length:=by rw[hs'];simp;omega
 unfold decode;rw[if_neg (by rw[hs',head_coded];omega)];simp only[n3];rw[if_neg (by omega),if_neg (by omega)];simp only[Int.toNat_natCast,n4];rw[if_neg (by omega)];simp only[n5];rw[if_neg (by omega),if_neg (by omega)];simp only[Int.toNat_natCast,hn];rw[if_neg (by omega),if_neg (by rw[a0];omega)];simp only[List.nil_append];rw[if_neg h3]
end Fl
def zc4{l:List UInt8}(h:(Fl.decode l).2.1=true):(Fl.decode l).1.1.length<=4/\(∀x∈(Fl.decode l).1.1,0<=x/\x<2147483648)/\(Fl.decode l).1.2.length<=200/\∀k,k<(Fl.decode l).1.2.length->Fl.sound (Fl.nth (Fl.decode l).1.2 k)=true:=by
 have he:=Fl.decode_encode h;unfold Fl.encode at he
 by_cases h1:4<(Fl.decode l).1.1.length\/(Fl.decode l).1.2.length=0\/200<(Fl.decode l).1.2.length
 ·rw[if_pos h1]at he;simp at he
 rw[if_neg h1]at he
 by_cases h2:(Fl.decode l).1.1.all Fl.inR=false
 ·rw[if_pos h2]at he;simp at he
 rw[if_neg h2]at he
 by_cases h3:0<=Fl.shaped (Fl.decode l).1.2
 ·rw[if_pos h3]at he;simp at he
 refine⟨by omega,λx hx=>?_,by omega,λk hk=>Fl.sound_of_shaped (by omega) k hk⟩
 have h4:(Fl.decode l).1.1.all Fl.inR=true:=by simpa using h2
 exact(Fl.inR_iff x).1 (List.all_eq_true.1 h4 x hx)
def yw7{n:Fl.Node}(h:Fl.sound n=true)(k:Nat)(hk:n.kind=(k:Int))(h7:k≠7):n.list=[]:=by
 simp only[Fl.sound,Bool.and_eq_true,Bool.or_eq_true,decide_eq_true_eq]at h;obtain⟨h1,_,_,_,_,_,_,h8⟩:=h;rcases h8 with h8|h8
 ·rw[hk]at h8 h1
  have hr:=Fl.sound_kinds h1;rcases(show k=0\/k=1\/k=2\/k=3\/k=4\/k=5\/k=6 by omega) with rfl|rfl|rfl|rfl|rfl|rfl|rfl<;>exact absurd h8 (by decide)
 ·exact h8
def zh7(r:(List Int×List Fl.Node)×Bool×Int)(w:World)(e:Ending)(w':World):Prop:=
 Below w.heap.size w w'/\
 (r.2.1=false->∃q,e=.returned (.tuple #[.string ⟨#[]⟩,.iface 76 (.pointer (some ⟨q,0,none⟩))])/\w'.cell? ⟨q,0,none⟩=some (.int .i64 8)/\w'.cell? ⟨q,1,none⟩=some (.int .i64 r.2.2))/\
 (r.2.1=true->e=.returned (.tuple #[.string ⟨(Fl.text r.1.1 r.1.2).toArray⟩,.nilIface]))
def yw8{ao:Option Addr}{cap:Nat}{s:List UInt8}{w:World}(hp:Va w)(hs:s.length<=1099511627776)(hb:s≠[]->∃bb bo,ao=some ⟨bb,bo,none⟩/\bb<w.heap.size/\∀i,i<s.length->w.cell? ⟨bb,bo+i,none⟩=some (.int .u8 (s.getD i 0).toNat)):
  Calls prog 23 #[.slice ao s.length cap] w (zh7 (Fl.decode s) w):=by
 have HC:Hid (Calls prog 29 #[.slice ao s.length cap] w (zly (Fl.decode s) w)):=zbz hs hb;have HP:Hid (Va w):=hp;clear hs hb hp
 go_enter func23,ntmps23
 go_wp2_with fail
 refine HC.out.mono ?_;rintro e wz ⟨hB,hbad,hgood⟩;have HB:Hid (Below w.heap.size w wz):=hB;clear hB HC
 cases hr:(Fl.decode s).2.1 with
 |true=>
  obtain⟨la,n,lc,na,n',nc,rfl,hst⟩:=hgood hr;obtain⟨hd1,hd2,hd3,hd4⟩:=zc4 hr;have HRR:Hid ((Fl.decode s).2.1=true):=hr
  have HTX:Hid (∀o,Calls prog 31 #[.agg #[.slice la n lc,.slice na n' nc]] (wz.alloc o) λe w'=>e=.returned (.string ⟨(Fl.text (Fl.decode s).1.1 (Fl.decode s).1.2).toArray⟩)/\Below (wz.alloc o).heap.size (wz.alloc o) w'):=λo=>by
   obtain⟨h1,h2⟩:=hst (wz.alloc o) (Yi.alloc _ _ _);exact ys0 _ _ _ _ _ h1 h2 hd1 hd2 hd3 (λi hi=>Fl.sound_tellable _ (hd4 i hi)) (λi hi k hk h7=>yw7 (hd4 i hi) k hk h7) (HP.out.below (Nat.le_refl _) (HB.out.alloc HB.out.size _))
  obtain⟨tx,htx⟩:∃tx,tx=Fl.text (Fl.decode s).1.1 (Fl.decode s).1.2:=⟨_,rfl⟩;rw[<-htx]at HTX;have HTE:Hid (tx=Fl.text (Fl.decode s).1.1 (Fl.decode s).1.2):=htx;clear hbad hgood hr hst hd1 hd2 hd3 hd4 htx
  go_wp2_with fail
  refine(HTX.out _).mono ?_;rintro e w2 ⟨rfl,hb2⟩;have HB2:Hid (Below w.heap.size w w2):=(HB.out.alloc HB.out.size _).trans (hb2.mono (HB.out.alloc HB.out.size _).size);clear hb2 HTX;go_wp2
  go_ret2
  exact⟨HB2.out,λh=>(by rw[HRR.out]at h;cases h),λ_=>by rw[<-HTE.out];rfl⟩
 |false=>
  obtain⟨q,rfl,q0,q1⟩:=hbad hr;have HRR:Hid ((Fl.decode s).2.1=false):=hr;have HQ:Hid (∀o,(wz.alloc o).cell? ⟨q,0,none⟩=some (.int .i64 8)/\(wz.alloc o).cell? ⟨q,1,none⟩=some (.int .i64 (Fl.decode s).2.2)):=λo=>⟨(World.cell?_alloc_lt _ _ _ (World.block_lt_of_cell? wz _ q0)).trans q0,(World.cell?_alloc_lt _ _ _ (World.block_lt_of_cell? wz _ q1)).trans q1⟩;clear hbad hgood hr q0 q1;go_wp2
  go_ret2
  exact⟨HB.out.alloc HB.out.size _,λ_=>⟨q,rfl,HQ.out _⟩,λh=>by rw[HRR.out]at h;cases h⟩
def ys1(r:(List Int×List Fl.Node)×Bool×Int)(w:World)(e:Ending)(w':World):Prop:=
 Below w.heap.size w w'/\
 (r.2.1=false->e=.returned (.tuple #[.string ⟨#[]⟩,.int .i64 8,.int .i64 r.2.2]))/\
 (r.2.1=true->e=.returned (.tuple #[.string ⟨(Fl.text r.1.1 r.1.2).toArray⟩,.int .i64 0,.int .i64 (-1)]))
def yw9{ao:Option Addr}{cap:Nat}{s:List UInt8}{w:World}(hE:Vs w)(hp:Va w)(hs:s.length<=1099511627776)(hb:s≠[]->∃bb bo,ao=some ⟨bb,bo,none⟩/\bb<w.heap.size/\∀i,i<s.length->w.cell? ⟨bb,bo+i,none⟩=some (.int .u8 (s.getD i 0).toNat)):
  Calls prog 11 #[.slice ao s.length cap] w (ys1 (Fl.decode s) w):=by
 have HC:Hid (Calls prog 23 #[.slice ao s.length cap] w (zh7 (Fl.decode s) w)):=yw8 hp hs hb;have HEB:Hid (∀o,Below w.heap.size w o->Vs o):=λo ho=>(ho.cell (p:=⟨0,0,none⟩) (World.block_lt_of_cell? w _ hE)).trans hE;clear hs hb hp hE
 go_enter func11,ntmps11
 go_wp2_with fail
 refine HC.out.mono ?_;rintro e wz ⟨hB,hbad,hgood⟩;have HB:Hid (Below w.heap.size w wz):=hB;have hsz:=hB.size;clear hB HC
 cases hr:(Fl.decode s).2.1 with
 |true=>
  obtain rfl:=hgood hr;have HRR:Hid ((Fl.decode s).2.1=true):=hr;obtain⟨tx,htx⟩:∃tx,tx=Fl.text (Fl.decode s).1.1 (Fl.decode s).1.2:=⟨_,rfl⟩;rw[<-htx];have HTE:Hid (tx=Fl.text (Fl.decode s).1.1 (Fl.decode s).1.2):=htx;clear hbad hgood hr htx
  go_wp2_with fail
  refine(zn8 _).mono ?_;rintro e w2 ⟨rfl,hB2⟩;have HB2:Hid (Below w.heap.size w w2):=HB.out.trans (hB2.mono (by omega));clear hB2;go_wp2
  go_ret3
  exact⟨HB2.out,λh=>(by rw[HRR.out]at h;cases h),λ_=>by rw[<-HTE.out];rfl⟩
 |false=>
  obtain⟨q,rfl,q0,q1⟩:=hbad hr;have HRR:Hid ((Fl.decode s).2.1=false):=hr;clear hbad hgood hr
  go_wp2_with fail
  refine(zj3 q 0 8 (Fl.decode s).2.2 _ (HEB.out _ HB.out) q0 q1).mono ?_;rintro e w2 ⟨rfl,hB2⟩;have HB2:Hid (Below w.heap.size w w2):=HB.out.trans (hB2.mono (by omega));clear hB2 q0 q1;go_wp2
  go_ret3
  exact⟨HB2.out,λ_=>rfl,λh=>by rw[HRR.out]at h;cases h⟩
end Go.Proofs.YtminjljgedopkaaGreatDoor
