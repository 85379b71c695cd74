import Derived.Test.YtminjljgedopkaaGreatDoorM21
import Derived.Test.YtminjljgedopkaaGreatDoorM29
set_option linter.all false
set_option maxRecDepth 100000
set_option maxHeartbeats 40000000
namespace Go.Proofs.YtminjljgedopkaaGreatDoor
open Go.RowKit Go.Proofs.Tryz
def own_wr{b base:Nat}{w W:World}{v:Value}{n:Nat}{xs:List Value}(h:w.ownsRow base 3 1 v n xs)(hb:v.ownBlock≠some b)(hw:Wr b w W):W.ownsRow base 3 1 v n xs:=by
 refine⟨h.1,?_⟩;rcases h.2 with hn|⟨g,cap,cur,hv,hbb,hg,rest⟩
 ·exact .inl hn
 ·refine .inr ⟨g,cap,cur,hv,hbb,hw.row hg (λe=>hb (by rw[hv,e];rfl)) (by decide),rest⟩
def yj3(v:Nat)(h:v<2147483648):(Lib.decDigits v).length<=10:=by
 rw[<-Fl.decF_digits 9 v (Nat.lt_of_lt_of_le h (by decide))];exact zpx 9 v
def yuw(v:Nat)(h:v<1000):(Lib.decDigits v).length<=3:=by
 rw[<-Fl.decF_digits 2 v (Nat.lt_of_lt_of_le h (by decide))];exact zpx 2 v
def zj7:∀(xs:List Int),(∀x∈xs,0<=x/\x<2147483648)->(Fl.blanks xs).length<=11*xs.length
 |[],_=>by simp[Fl.blanks]
 |x::r,h=>by
  have h1:=zj7 r (λy hy=>h y (by simp[hy]));have h2:=yj3 x.toNat (by have:=h x (by simp);omega);have e:Fl.blanks (x::r)=(32::Lib.decDigits x.toNat)++Fl.blanks r:=(by simp[Fl.blanks]);rw[e,List.length_append,List.length_cons,List.length_cons];omega
def zv4{n:Fl.Node}(h:Fl.Tellable n):(Fl.lineNums n).length<=17/\∀x∈Fl.lineNums n,0<=x/\x<2147483648:=by
 obtain⟨h1,h2,h3,h4,h5,h6,h7,h8⟩:=h;unfold Fl.lineNums
 split
 ·refine⟨by rw[List.length_take];simp;omega,λx hx=>?_⟩
  have:=List.mem_of_mem_take hx;simp only[List.mem_cons,List.not_mem_nil,or_false]at this;rcases this with rfl|rfl|rfl|rfl<;>assumption
 ·refine⟨by simp;omega,λx hx=>?_⟩
  rcases List.mem_cons.1 hx with rfl|hx
  ·exact h3
  ·exact h8 x hx
def zm7(k:Nat)(h:k<8):(Fl.kindWords.getD k []).length<=5:=by
 rcases(show k=0\/k=1\/k=2\/k=3\/k=4\/k=5\/k=6\/k=7 by omega) with rfl|rfl|rfl|rfl|rfl|rfl|rfl|rfl<;>decide
def yxy{k:Nat}{n:Fl.Node}(hk:k<1000)(h:Fl.Tellable n):(Fl.nodeLine k n).length<=197:=by
 obtain⟨h1,h2⟩:=zv4 h;have h3:=zj7 _ h2;have h4:=yuw k hk;have h5:=zm7 n.kind.toNat (by have:=h.1;have:=h.2.1;omega);unfold Fl.nodeLine Fl.spaced;simp only[List.length_append,List.length_cons,List.length_nil];omega
def zo1{ls:List Int}{ns:List Fl.Node}(hl:ls.length<=4)(hr:∀x∈ls,0<=x/\x<2147483648):∀k,k<=200->(∀i,i<k->Fl.Tellable (Fl.nth ns i))->(Fl.textTo ls ns k).length<=51+197*k
 |0,_,_=>by
  have:=zj7 ls hr;unfold Fl.textTo Fl.spaced;simp[Fl.wLocals];omega
 |k+1,hk,h=>by
  have h1:=zo1 hl hr k (by omega) (λi hi=>h i (by omega));have h2:=yxy (k:=k) (by omega) (h k (by omega));rw[Fl.textTo_succ,List.length_append];omega
def zbx{n:Fl.Node}{k:Nat}(hk:n.kind=(k:Int))(h8:k<8)(hl:k≠7->n.list=[]):Fl.lineNums n=n.level::([n.a,n.b,n.c].take (Yq k)++n.list):=by
 unfold Fl.lineNums;rw[hk]
 by_cases h7:k=7
 ·subst h7;rfl
 ·rw[hl h7]
  rcases(show k=0\/k=1\/k=2\/k=3\/k=4\/k=5\/k=6 by omega) with rfl|rfl|rfl|rfl|rfl|rfl|rfl<;>rfl
def ym6{w:World}{T:Nat}(hT:w.heap[T]?=some (.cells Zu 98 (0,0)))(k:Nat)(hk:k<8):w.cell? ⟨T,k*4,none⟩=some (.string ⟨(Fl.kindWords.getD k []).toArray⟩):=by
 rcases(show k=0\/k=1\/k=2\/k=3\/k=4\/k=5\/k=6\/k=7 by omega) with rfl|rfl|rfl|rfl|rfl|rfl|rfl|rfl<;>exact(cell_of_row _ _ _ _ _ _ hT).trans rfl
def ym7(a b:List UInt8):((⟨a.toArray⟩:ByteArray)++⟨#[32]⟩)++⟨b.toArray⟩=⟨(a++(32::b)).toArray⟩:=by
 have h1:(⟨a.toArray⟩:ByteArray)++⟨#[32]⟩=⟨(a++[32]).toArray⟩:=ByteArray.mk_append_mk a [32];rw[h1,ByteArray.mk_append_mk];simp
def ym8(w:World)(o0 o1 o2 o3:Obj):((((w.alloc o0).alloc o1).alloc o2).alloc o3).heap[w.heap.size]?=some o0/\((((w.alloc o0).alloc o1).alloc o2).alloc o3).heap[w.heap.size+1]?=some o1/\((((w.alloc o0).alloc o1).alloc o2).alloc o3).heap[w.heap.size+3]?=some o3/\((((w.alloc o0).alloc o1).alloc o2).alloc o3).heap.size=w.heap.size+4/\Below w.heap.size w ((((w.alloc o0).alloc o1).alloc o2).alloc o3):=by
 have a:∀(u:World) (o:Obj) (k:Nat),k<u.heap.size->(u.alloc o).heap[k]?=u.heap[k]?:=λu o k hk=>Below.heap_alloc _ _ _ hk
 have l:∀(u:World) (o:Obj) (k:Nat),u.heap.size=k->(u.alloc o).heap[k]?=some o:=λu o k hk=>by subst hk;exact heap_alloc_last u o
 refine⟨?_,?_,?_,by simp,((((Below.refl _ w).alloc (Nat.le_refl _) _).alloc (by simp<;>omega) _).alloc (by simp<;>omega) _).alloc (by simp<;>omega) _⟩
 ·rw[a _ _ _ (by simp<;>omega),a _ _ _ (by simp<;>omega),a _ _ _ (by simp<;>omega),l _ _ _ rfl]
 ·rw[a _ _ _ (by simp<;>omega),a _ _ _ (by simp<;>omega),l _ _ _ (by simp<;>omega)]
 ·rw[l _ _ _ (by simp<;>omega)]
structure TxL(W3 wq:World)(NB:Nat)(v:Value)(nd:Fl.Node)(j:Nat):Prop where
 g:W3.grownBy wq (some (NB+1))
 ho:wq.ownsRow (NB+1) 3 1 v (nd.level::[nd.a,nd.b,nd.c].take j).length ((nd.level::[nd.a,nd.b,nd.c].take j).map (Value.int .i64))
 hv:∀g,v.ownBlock=some g->g=NB+1\/W3.heap.size<=g
def TxL.zero{W3:World}{NB:Nat}{nd:Fl.Node}(h:W3.ownsRow (NB+1) 3 1 (.slice (some ⟨NB+1,0,none⟩) 1 1) 1 ([nd.level].map (Value.int .i64))):TxL W3 W3 NB (.slice (some ⟨NB+1,0,none⟩) 1 1) nd 0:=
 ⟨World.grownBy.refl _ _,h,λg hg=> .inl (by simp[Value.ownBlock]at hg;exact hg.symm)⟩
def yq9(a b c:Int)(j:Nat)(h:j<3):[a,b,c].take (j+1)=[a,b,c].take j++[[a,b,c].getD j 0]:=by
 rcases(show j=0\/j=1\/j=2 by omega) with rfl|rfl|rfl<;>rfl
def TxL.next{W3 wq w2:World}{NB:Nat}{v v':Value}{nd:Fl.Node}{j:Nat}{o:Obj}(h:TxL W3 wq NB v nd j)(h3:j<3)(ho:w2.ownsRow (NB+1) 3 1 v' ((nd.level::[nd.a,nd.b,nd.c].take j).length+1) ((nd.level::[nd.a,nd.b,nd.c].take j).map (Value.int .i64)++[.int .i64 ([nd.a,nd.b,nd.c].getD j 0)]))
  (hg:(wq.alloc o).grownBy w2 v.ownBlock) (hw:v'.ownBlock=v.ownBlock\/v'.ownBlock=some (wq.alloc o).heap.size):TxL W3 w2 NB v' nd (j+1):=by
 have g1:=h.g;have hs:=hg.size;have hs1:=g1.size;simp only[World.size_alloc]at hs;refine⟨⟨hg.os.trans g1.os,hg.tape.trans g1.tape,hg.output.trans g1.output,by omega,λk hk hne=>?_⟩,?_,λg hgv=>?_⟩
 ·have h1:some k≠v.ownBlock:=λe=>by
   rcases h.hv k e.symm with e2|e2
   ·exact hne (by rw[e2])
   ·omega
  rw[hg.block k (by simp;omega) h1,Below.heap_alloc _ _ _ (by omega),g1.block k hk hne]
 ·have e:nd.level::[nd.a,nd.b,nd.c].take (j+1)=(nd.level::[nd.a,nd.b,nd.c].take j)++[[nd.a,nd.b,nd.c].getD j 0]:=by rw[yq9 _ _ _ _ h3];rfl
  rw[e,List.length_append,List.map_append];exact ho
 ·rcases hw with hw|hw
  ·exact h.hv g (hw ▸ hgv)
  ·right;rw[hw]at hgv;simp at hgv;omega
def ym9(ls:List Int)(ns:List Fl.Node)(lv nv:Value)(w:World)(hl:Zy w.heap.size w lv ls)(hn:Zm w.heap.size w nv ns)(hll:ls.length<=4)(hlr:∀x∈ls,0<=x/\x<2147483648)(hnl:ns.length<=200)
  (hT:∀i,i<ns.length->Fl.Tellable (Fl.nth ns i)) (hS:∀i,i<ns.length->∀k:Nat,(Fl.nth ns i).kind=(k:Int)->k≠7->(Fl.nth ns i).list=[]) (hp:Vs w):
  Calls prog 31 #[.agg #[lv,nv]] w λe w'=>e=.returned (.string ⟨(Fl.text ls ns).toArray⟩)/\Below w.heap.size w w':=by
 obtain⟨la,lcap,rfl,_,_,_⟩:=id hl;obtain⟨na,ncap,rfl,_,_,_⟩:=id hn;have HL:Hid (Zy w.heap.size w (Value.slice la ls.length lcap) ls):=hl;have HN:Hid (Zm w.heap.size w (Value.slice na ns.length ncap) ns):=hn;have HT:Hid (∀i,i<ns.length->Fl.Tellable (Fl.nth ns i)):=hT;have HS:Hid (∀i,i<ns.length->∀k:Nat,(Fl.nth ns i).kind=(k:Int)->k≠7->(Fl.nth ns i).list=[]):=hS;have HLR:Hid (∀x∈ls,0<=x/\x<2147483648):=hlr;have HP:Hid (Vs w):=hp;have hpl:=hp.lt;clear hl hn hT hS hlr hp
 go_enter func31,ntmps31
 go_wp2_with (first|(go_at_call 38;refine(zyw _).mono ?_;rintro e w1 ⟨rfl,rfl⟩)|(refine Vj rfl _ _ 98 rfl _ _ _ Zu rfl (by simp) rfl Tryz.infoRules zyx zw1 ?_))
 obtain⟨r0,r1,r3,hz0,hB0⟩:=ym8 w (.cells #[.slice la ls.length lcap,.slice na ns.length ncap] 26) (.cells #[.pointer none,.slice none 0 0] 118) (.cells Zu 98) (.cells Zu 98);obtain⟨W0,hW0⟩:∃W0,W0=(((w.alloc (.cells #[.slice la ls.length lcap,.slice na ns.length ncap] 26)).alloc (.cells #[.pointer none,.slice none 0 0] 118)).alloc (.cells Zu 98)).alloc (.cells Zu 98):=⟨_,rfl⟩;rw[<-hW0]at r0 r1 r3 hz0 hB0⊢;have hbld:Lib.IsBuilderF 118 5 (w.heap.size+1) (w.heap.size+1) (Lib.byteCells []) W0:=.inl ⟨Nat.le_refl _,.slice none 0 0,r1,World.ownsRowF_nil _ _ _ _,by simp[Value.ownBlock]⟩;have HR3:Hid (W0.heap[w.heap.size+3]?=some (.cells Zu 98 (0,0))):=r3;have HB0:Hid (Below w.heap.size w W0):=hB0;have HR0:Hid (W0.heap[w.heap.size]?=some (.cells #[.slice la ls.length lcap,.slice na ns.length ncap] 26 (0,0))):=r0;have hwl:=zo8 (w.heap.size+1) [] Fl.wLocals (.slice la ls.length lcap) ls W0 hbld (by omega) (λW hW=>(HL.out.below (hB0.trans (hW.bl.mono (by omega)))).mono (hB0.trans (hW.bl.mono (by omega))).size) HLR.out (HP.out.below (Nat.le_refl _) hB0) (by omega) (by simp) (by decide) (by omega);have HWL:Hid (Calls prog 46 #[.pointer (some ⟨w.heap.size+1,0,none⟩),.string ⟨#[108,111,99,97,108,115]⟩,.slice la ls.length lcap] W0 λe w'=>e=.returned (.tuple #[])/\Lib.BuilderAtF 118 5 (w.heap.size+1) (w.heap.size+1) (.pointer (some ⟨w.heap.size+1,0,none⟩)) (Lib.byteCells (Fl.textTo ls ns 0)) w'/\Wr (w.heap.size+1) W0 w'):=by
  refine hwl.mono ?_;rintro e w' ⟨he,h1,h2⟩;exact⟨he,by rw[show Fl.textTo ls ns 0=[]++Fl.wLocals++Fl.spaced ls from by simp[Fl.textTo]];exact h1,h2⟩
 clear hW0 r0 r1 r3 hB0 hbld hwl;refine HWL.out.mono ?_;rintro e w1 ⟨rfl,hb1,hw1⟩;have HB1:Hid _:=hb1;have HW1:Hid (Wr (w.heap.size+1) W0 w1):=hw1;have p1:w1.cell? ⟨w.heap.size,1,none⟩=some (.slice na ns.length ncap):=(hw1.bl.cell (p:=⟨w.heap.size,1,none⟩) (by show w.heap.size<_;omega)).trans ((cell_of_row _ _ _ _ _ _ HR0.out).trans rfl);clear hb1 hw1 HWL
 go_wp2_with fail
 go_loopw [18] (λi wr=>∃k:Nat,k<=ns.length/\i=.int .i64 k/\Lib.BuilderAtF 118 5 (w.heap.size+1) (w.heap.size+1) (.pointer (some ⟨w.heap.size+1,0,none⟩)) (Lib.byteCells (Fl.textTo ls ns k)) wr/\Wr (w.heap.size+1) W0 wr) (λi _=>ns.length - (intOf i).toNat)
 case atStart=>exact⟨0,by omega,rfl,HB1.out,HW1.out⟩
 case round=>
  clear HB1 HW1 p1;obtain⟨k,hk,rfl,hbk,hwr⟩:=hrel;have HBK:Hid (Lib.BuilderAtF 118 5 (w.heap.size+1) (w.heap.size+1) (.pointer (some ⟨w.heap.size+1,0,none⟩)) (Lib.byteCells (Fl.textTo ls ns k)) wr):=hbk;have HWR:Hid (Wr (w.heap.size+1) W0 wr):=hwr;have HBW:Hid (Below w.heap.size w wr):=HB0.out.trans (hwr.bl.mono (by omega));have hzr:w.heap.size+4<=wr.heap.size:=(by have:=hwr.bl.size;omega);clear hbk hwr
  by_cases hlt:k<ns.length
  ·obtain⟨nd,hnd⟩:∃nd,nd=Fl.nth ns k:=⟨_,rfl⟩
   obtain⟨b,off,rfl⟩:∃b off,na=some ⟨b,off,none⟩:=by
    obtain⟨ao',cap',hv',_,_,hx'⟩:=HN.out;obtain⟨b,off,ha,_⟩:=hx' (by intro h;rw[h]at hlt;simp at hlt);simp only[Value.slice.injEq]at hv';exact⟨b,off,hv'.1.trans ha⟩
   obtain⟨hbB,xv,hxi,c0,c1,c2,c3,c4,c5⟩:=(HN.out.below HBW.out).at hlt;obtain⟨xao,xcap,rfl,_⟩:=id hxi;rw[<-hnd]at hxi c0 c1 c2 c3 c4 c5;have HND:Hid (nd=Fl.nth ns k):=hnd;have HXI:Hid (Zy w.heap.size wr (.slice xao nd.list.length xcap) nd.list):=hxi;have HTL:Hid (Fl.Tellable nd):=(by show Fl.Tellable nd;rw[hnd];exact HT.out k hlt);have hk0:=HTL.out.1;have hk8:=HTL.out.2.1;obtain⟨kn,hkn⟩:∃kn:Nat,nd.kind=(kn:Int):=⟨nd.kind.toNat,by omega⟩;have hkn8:kn<8:=(by omega);have HKN:Hid (nd.kind=(kn:Int)):=hkn;have HLN:Hid (Fl.lineNums nd=nd.level::([nd.a,nd.b,nd.c].take (Yq kn)++nd.list)):=zbx hkn hkn8 (λh7=>by rw[hnd];exact HS.out k hlt kn (by rw[<-hnd];exact hkn) h7);rw[hkn]at c0;have HTR:Hid (wr.heap[w.heap.size+3]?=some (.cells Zu 98 (0,0))):=HWR.out.row HR3.out (by omega) (by decide);have hkI:(k:Int)<(ns.length:Int):=(by omega);have hknI:(kn:Int)<8:=(by omega);clear hnd hxi hkn hk0 hk8
   go_wp2_with fail
   obtain⟨NB,hNB⟩:∃NB,NB=wr.heap.size:=⟨_,rfl⟩;obtain⟨W2,hW2⟩:∃W2,W2=(wr.alloc (.cells #[.int .i64 (kn:Int),.int .i64 nd.level,.int .i64 nd.a,.int .i64 nd.b,.int .i64 nd.c,.slice xao nd.list.length xcap] 121)).alloc (.cells #[.int .i64 nd.level] 3):=⟨_,rfl⟩;rw[<-hW2,<-hNB];have hz2:W2.heap.size=NB+2:=(by rw[hW2,hNB];simp);have HB2:Hid (Below wr.heap.size wr W2):=(by rw[hW2];exact((Below.refl _ _).alloc (Nat.le_refl _) _).alloc (by simp) _);have HNB:Hid (NB=wr.heap.size):=hNB;have hnd2:Nd W2 NB (kn:Int) nd.level nd.a nd.b nd.c (.slice xao nd.list.length xcap):=by
    rw[hW2,hNB];exact(Nd.new wr (kn:Int) nd.level nd.a nd.b nd.c (.slice xao nd.list.length xcap) 121).grown (World.grownBy_alloc _ _ none) (by simp)
   have ho2:W2.ownsRow (NB+1) 3 1 (.slice (some ⟨NB+1,0,none⟩) 1 1) 1 ([nd.level].map (Value.int .i64)):=by
    refine⟨rfl,.inr ⟨NB+1,1,#[.int .i64 nd.level],rfl,Nat.le_refl _,?_,by simp,by simp[maxLen],rfl,rfl⟩⟩;rw[hW2,hNB];have h:=heap_alloc_new (wr.alloc (.cells #[.int .i64 (kn:Int),.int .i64 nd.level,.int .i64 nd.a,.int .i64 nd.b,.int .i64 nd.c,.slice xao nd.list.length xcap] 121)) (.cells #[.int .i64 nd.level] 3);simpa using h
   have hT2:W2.heap[w.heap.size+3]?=some (.cells Zu 98 (0,0)):=(HB2.out.block _ (by omega)).trans HTR.out;have hr2:W2.heap[NB]?=some (.cells #[.int .i64 (kn:Int),.int .i64 nd.level,.int .i64 nd.a,.int .i64 nd.b,.int .i64 nd.c,.slice xao nd.list.length xcap] 121 (0,0)):=by
    rw[hW2,hNB,Below.heap_alloc _ _ _ (by simp)];exact heap_alloc_new _ _
   have HT2:Hid (W2.heap[w.heap.size+3]?=some (.cells Zu 98 (0,0))):=hT2;have hq:=(zg7 hT2 kn hkn8).1;refine(zz3 (w.heap.size+1+1+1) (kn*4) NB (Yq kn) W2 (zr5 kn) (by omega) hq).mono ?_;rintro e W3 ⟨rfl,hW3⟩;have g3:W2.grownBy W3 none:=(by rw[hW3];exact⟨rfl,rfl,rfl,by simp,λk hk _=>Below.heap_alloc _ _ _ hk⟩);have HB3:Hid (Below wr.heap.size wr W3):=(by rw[hW3];exact(HB2.out.alloc (by omega) _).drew);have HN3:Hid (Nd W3 NB (kn:Int) nd.level nd.a nd.b nd.c (.slice xao nd.list.length xcap)):=hnd2.grown g3 (by simp);have HO3:Hid (W3.ownsRow (NB+1) 3 1 (.slice (some ⟨NB+1,0,none⟩) 1 1) 1 ([nd.level].map (Value.int .i64))):=ho2.kept g3 (by simp[Value.ownBlock]);have HT3:Hid (W3.heap[w.heap.size+3]?=some (.cells Zu 98 (0,0))):=(g3.block _ (by omega) (by simp)).trans hT2;have hz3:W3.heap.size=NB+3:=(by rw[hW3];simp;omega);have HRN:Hid (W3.heap[NB]?=some (.cells #[.int .i64 (kn:Int),.int .i64 nd.level,.int .i64 nd.a,.int .i64 nd.b,.int .i64 nd.c,.slice xao nd.list.length xcap] 121 (0,0))):=(g3.block _ (by omega) (by simp)).trans hr2;have HP3:Hid (∀j,j<3->W3.cell? ⟨NB+2,j,none⟩=some (.pointer (some ⟨NB,2+j,none⟩))):=by
    intro j hj;have h:=World.cell?_alloc_new W2 #[.pointer (some ⟨NB,2,none⟩),.pointer (some ⟨NB,3,none⟩),.pointer (some ⟨NB,4,none⟩)] 126 j;rw[hz2]at h;rw[hW3];refine h.trans ?_;rcases(show j=0\/j=1\/j=2 by omega) with rfl|rfl|rfl<;>rfl
   have hf3:=zr5 kn;obtain⟨f,hf⟩:∃f,f=Yq kn:=⟨_,rfl⟩;rw[<-hf]at HLN hf3⊢;rw[hz2];have hNBr:w.heap.size+4<=NB:=(by omega);clear hW2 hNB hW3 g3 hnd2 ho2 hT2 hr2 hq hz2 c0 c1 c2 c3 c4 c5 hf HT2 HB2;obtain⟨wo,hwo⟩:∃wo,wo=wr:=⟨_,rfl⟩;subst hwo;obtain⟨i0,hi0,hz0',hzs,hzb⟩:=info_parts Tryz.infoInt
   go_wp2_with fail
   go_loopw [8,32] (λv i wq=>∃j:Nat,j<=f/\i=.int .i64 j/\TxL W3 wq NB v nd j) (λ_ i _=>f - (intOf i).toNat)
   case atStart=>exact⟨0,by omega,rfl,TxL.zero HO3.out⟩
   case round=>
    obtain⟨j,hj,rfl,htl⟩:=hrel;have hv1:=htl.ho.1;obtain⟨vao,vcap,rfl⟩:=Yt htl.ho;have HTX:Hid (TxL W3 wr NB (.slice vao (nd.level::[nd.a,nd.b,nd.c].take j).length vcap) nd j):=htl;have hln:(nd.level::[nd.a,nd.b,nd.c].take j).length<=4:=(by simp;omega);obtain⟨ys,hys⟩:∃ys,ys=nd.level::[nd.a,nd.b,nd.c].take j:=⟨_,rfl⟩;have HYS:Hid (ys=nd.level::[nd.a,nd.b,nd.c].take j):=hys;have HOY:Hid (wr.ownsRow (NB+1) 3 1 (.slice vao ys.length vcap) ys.length (ys.map (Value.int .i64))):=by
     have h:=htl.ho;rw[<-hys]at h;exact h
    rw[<-hys]at hln⊢;have hzw:NB+3<=wr.heap.size:=(by have:=htl.g.size;omega);clear htl hv1 hys
    by_cases hjf:j<f
    ·have hpj:wr.cell? ⟨NB+2,j,none⟩=some (.pointer (some ⟨NB,2+j,none⟩)):=HTX.out.g.cell (HP3.out j (by omega)) (by simp)
     have hn3:=HN3.out.grown HTX.out.g (by simp);obtain⟨xj,hxj⟩:∃xj,xj=[nd.a,nd.b,nd.c].getD j 0:=⟨_,rfl⟩;have kj:wr.cell? ⟨NB,2+j,none⟩=some (.int .i64 xj):=by
      rw[hxj];rcases(show j=0\/j=1\/j=2 by omega) with rfl|rfl|rfl
      ·exact hn3.c2
      ·exact hn3.c3
      ·exact hn3.c4
     have HXJ:Hid (xj=[nd.a,nd.b,nd.c].getD j 0):=hxj;clear hxj hn3
     go_wp2_with (at_builtin;refine Zc _ rfl (.tmp 36) (.tmp 40) 23 rfl (NB+1) 3 i0 (.int .i64 0) 1 8 underlying23 hi0 hz0' hzs hzb rfl (by decide) _ _ _ rfl (HOY.out.alloc _) ⟨_,0,none⟩ 1 1 [.int .i64 xj] rfl rfl (by decide) Va ?c2 ?c3 ?c4 ?c5 ?_)
     case c2=>intro u hu;simp at hu;subst hu;rfl
     case c3=>unfold maxLen;omega
     case c4=>omega
     case c5=>simp;omega
     intro v' w2 ho2 hg2 hw2;have HNX:Hid (TxL W3 w2 NB v' nd (j+1)):=HTX.out.next (o:=.cells #[.int .i64 xj] 3) (by omega) (by rw[<-HXJ.out,<-HYS.out];exact ho2) (by rw[<-HYS.out];exact hg2) (by rw[<-HYS.out,World.size_alloc];exact hw2);clear ho2 hg2 hw2 hpj kj;go_wp2
     go_roundw
     case rel=>exact⟨j+1,by omega,by go_num,HNX.out⟩
     case measure=>simp[intOf];omega
    ·have hjf':j=f:=by omega
     have hn4:=HN3.out.grown HTX.out.g (by simp);have k5:=hn4.c5;have hB4:Below wo.heap.size wo wr:=HB3.out.grown HTX.out.g (by have:=HNB.out;omega) (λg hg=>by injection hg with hg;have:=HNB.out;omega);have hT4:wr.heap[w.heap.size+1+1+1]?=some (.cells Zu 98 (0,0)):=(HTX.out.g.block _ (by omega) (by simp;omega)).trans HT3.out;have hkw:=ym6 hT4 kn hkn8;obtain⟨kw,hkw'⟩:∃kw,kw=Fl.kindWords.getD kn []:=⟨_,rfl⟩;rw[<-hkw']at hkw;have hkwl:kw.length<=5:=(by rw[hkw'];exact zm7 kn hkn8);have HKW:Hid (kw=Fl.kindWords.getD kn []):=hkw';obtain⟨dk,hdk⟩:∃dk,dk=Lib.decDigits k:=⟨_,rfl⟩;have hdl:dk.length<=3:=(by rw[hdk];exact yuw k (by omega));have HDK:Hid (dk=Lib.decDigits k):=hdk;have hkws:((⟨kw.toArray⟩:ByteArray).size:Int)<=5:=(by show ((kw.toArray.size:Nat):Int)<=5;simp;omega);have hds:((⟨dk.toArray⟩:ByteArray).size:Int)<=3:=(by show ((dk.toArray.size:Nat):Int)<=3;simp;omega);have hds2:((⟨#[32]⟩:ByteArray).size:Int)=1:=rfl;have HWR4:Hid (Wr (w.heap.size+1) W0 wr):=HWR.out.below hB4 (by omega);have HBK4:Hid (Lib.BuilderAtF 118 5 (w.heap.size+1) (w.heap.size+1) (.pointer (some ⟨w.heap.size+1,0,none⟩)) (Lib.byteCells (Fl.textTo ls ns k)) wr):=zu0 HBK.out hB4;have HXI4:Hid (Zy w.heap.size wr (.slice xao nd.list.length xcap) nd.list):=HXI.out.below (hB4.mono (by omega));have HIT:Hid (Calls prog 48 #[.int .i64 (k:Int)] wr.drew λe w'=>e=.returned (.string ⟨dk.toArray⟩)/\Below wr.drew.heap.size wr.drew w'):=by
      show Calls _ _ _ _ _;rw[hdk];exact zj6 k wr.drew (by omega) ((HP.out.below (Nat.le_refl _) HBW.out).wr (b:=wo.heap.size) (by omega) hB4.drew)
     have HYF:Hid (ys=nd.level::[nd.a,nd.b,nd.c].take f):=(by show _=_;rw[<-hjf'];exact HYS.out);have HT4:Hid (wr.heap[w.heap.size+1+1+1]?=some (.cells Zu 98 (0,0))):=hT4;have HN4:Hid (Nd wr NB (kn:Int) nd.level nd.a nd.b nd.c (.slice xao nd.list.length xcap)):=hn4;have HB4:Hid (Below wo.heap.size wo wr):=hB4;have HR4:Hid (wr.heap[NB]?=some (.cells #[.int .i64 (kn:Int),.int .i64 nd.level,.int .i64 nd.a,.int .i64 nd.b,.int .i64 nd.c,.slice xao nd.list.length xcap] 121 (0,0))):=(HTX.out.g.block _ (by omega) (by simp)).trans HRN.out;have hli:=HTL.out.2.2.2.2.2.2.1;have hvg:∀g,(Value.slice vao ys.length vcap).ownBlock=some g->NB+1<=g:=λg hg=>(HOY.out.lt g hg).1;clear hjf' hn4 hB4 hT4 hkw' hdk HTX HYS
     go_wp2_with fail
     refine zt9 (λW=>W.cell? ⟨w.heap.size+1+1+1,kn*4,none⟩=some (.string ⟨kw.toArray⟩)/\W.cell? ⟨NB,5,none⟩=some (.slice xao nd.list.length xcap)) [(true,0),(true,3),(true,4),(true,5),(true,6),(true,8),(true,9),(true,10),(false,1),(true,2),(true,7),(false,11),(false,12)] (by kernel_rfl) (by kernel_rfl) rfl [(true,_),(true,_),(true,_),(true,_),(true,_),(true,_),(true,_),(true,_),(false,_),(true,_),(true,_),(false,_),(false,_)] rfl (λc a d v w h=>by cases d<;>exact h) ⟨hkw,k5⟩ (λops=>?_)
     iterate 8
      refine zq5 rfl (λK hK=>?_);apply Exists.intro
      refine⟨λw' hw'=>?_,?_⟩
      ·have s1:=hw'.1
       have s2:=hw'.2;go_simp
       try with_reducible rfl
      go_simp;refine hK _ ?_;clear hK K
     refine zxy ?_
     go_wp2_with fail
     refine HIT.out.mono ?_;rintro e w5 ⟨rfl,hb5⟩;have hB5:Below wr.heap.size wr w5:=(Below.refl wr.heap.size wr).drew.trans hb5;have t1:w5.cell? ⟨w.heap.size+1+1+1,kn*4,none⟩=some (.string ⟨kw.toArray⟩):=(hB5.cell (p:=⟨w.heap.size+1+1+1,kn*4,none⟩) (by show w.heap.size+1+1+1<_;omega)).trans hkw;have t2:w5.cell? ⟨NB,5,none⟩=some (.slice xao nd.list.length xcap):=(hB5.cell (p:=⟨NB,5,none⟩) (by show NB<_;omega)).trans k5;have HO5:Hid (w5.ownsRow (NB+1) 3 1 (.slice vao ys.length vcap) ys.length (ys.map (Value.int .i64))):=zq0 HOY.out hB5;have HX5:Hid (Zy w.heap.size w5 (.slice xao nd.list.length xcap) nd.list):=HXI4.out.below (hB5.mono (by omega));have HB5:Hid (Below wo.heap.size wo w5):=HB4.out.trans (hB5.mono (by have:=HNB.out;omega));have HT5:Hid (w5.heap[w.heap.size+1+1+1]?=some (.cells Zu 98 (0,0))):=(hB5.block _ (by omega)).trans HT4.out;have HR5:Hid (w5.heap[NB]?=some (.cells #[.int .i64 (kn:Int),.int .i64 nd.level,.int .i64 nd.a,.int .i64 nd.b,.int .i64 nd.c,.slice xao nd.list.length xcap] 121 (0,0))):=(hB5.block _ (by omega)).trans HR4.out;have hz5:NB+3<=w5.heap.size:=(by have:=hB5.size;omega);clear HIT hb5 hB5 hkw k5
     go_wp2_with fail
     refine⟨⟨t1,t2⟩,?_⟩;have hc1:¬9223372036854775807<dk.length+1:=(by omega);have hc2:¬9223372036854775807<dk.length+1+kw.length:=(by omega)
     iterate 2
      refine zq5 rfl (λK hK=>?_);apply Exists.intro
      refine⟨λw' hw'=>?_,?_⟩
      ·have s1:=hw'.1
       have s2:=hw'.2;go_simp
       try with_reducible rfl
      go_simp;refine hK _ ?_;clear hK K
     refine zxy ?_;refine Je rfl (.tmp 51) (.tmp 53) rfl (NB+1) _ ys rfl HO5.out _ rfl w.heap.size nd.list HX5.out (by omega) (by omega) (by omega) ?_;intro v' w6 ho6 hg6
     have hne6:∀q,q<NB+1->some q≠(Value.slice vao ys.length vcap).ownBlock:=λq hq e=>by have:=hvg q e.symm;omega
     have hT6:w6.heap[w.heap.size+1+1+1]?=some (.cells Zu 98 (0,0)):=(hg6.block _ (by omega) (hne6 _ (by omega))).trans HT5.out;have hR6:w6.heap[NB]?=some (.cells #[.int .i64 (kn:Int),.int .i64 nd.level,.int .i64 nd.a,.int .i64 nd.b,.int .i64 nd.c,.slice xao nd.list.length xcap] 121 (0,0)):=(hg6.block _ (by omega) (hne6 _ (by omega))).trans HR5.out;have t3:w6.cell? ⟨w.heap.size+1+1+1,kn*4,none⟩=some (.string ⟨kw.toArray⟩):=hg6.cell t1 (hne6 (w.heap.size+1+1+1) (by omega));have t4:w6.cell? ⟨NB,5,none⟩=some (.slice xao nd.list.length xcap):=hg6.cell t2 (hne6 NB (by omega));have hB6:Below wo.heap.size wo w6:=HB5.out.grown hg6 (by have:=HNB.out;omega) (λg hg=>by have:=hvg g hg;have:=HNB.out;omega);have hLN6:ys++nd.list=Fl.lineNums nd:=(by rw[HLN.out,HYF.out];rfl);rw[hLN6]at ho6;obtain⟨oao,ocap,rfl⟩:=Yt ho6;have hz6:NB+3<=w6.heap.size:=(by have:=hg6.size;omega)
     have hob:(Value.slice oao (Fl.lineNums nd).length ocap).ownBlock≠some (w.heap.size+1):=λe=>by have:=(ho6.lt _ e).1;omega
     have htl:=zo1 (ns:=ns) hll HLR.out k (by omega) (λi hi=>HT.out i (by omega));obtain⟨hll2,hlr2⟩:=zv4 HTL.out;have hwl:=zo8 (w.heap.size+1) (Fl.textTo ls ns k) (dk++(32::kw)) (.slice oao (Fl.lineNums nd).length ocap) (Fl.lineNums nd) w6 (.inr (zu0 HBK.out hB6)) (by omega) (λW hW=>Zy.of_own (own_wr ho6 hob hW)) hlr2 ((HP.out.below (Nat.le_refl _) HBW.out).wr (b:=wo.heap.size) (by omega) hB6) (by omega) (by omega) (by simp;omega) (by omega);have HWL:Hid (Calls prog 46 #[.pointer (some ⟨w.heap.size+1,0,none⟩),.string (((⟨dk.toArray⟩:ByteArray)++⟨#[32]⟩)++⟨kw.toArray⟩),.slice oao (Fl.lineNums nd).length ocap] w6 λe w'=>e=.returned (.tuple #[])/\Lib.BuilderAtF 118 5 (w.heap.size+1) (w.heap.size+1) (.pointer (some ⟨w.heap.size+1,0,none⟩)) (Lib.byteCells (Fl.textTo ls ns (k+1))) w'/\Wr (w.heap.size+1) w6 w'):=by
      show Calls _ _ _ _ _;rw[ym7];refine hwl.mono ?_;rintro e w' ⟨he,h1,h2⟩;refine⟨he,?_,h2⟩;have e1:Fl.textTo ls ns k++(dk++32::kw)++Fl.spaced (Fl.lineNums nd)=Fl.textTo ls ns (k+1):=by
       rw[Fl.textTo_succ,<-HND.out];unfold Fl.nodeLine;rw[HDK.out,HKW.out,HKN.out];simp
      rw[e1]at h1;exact h1
     have HW6:Hid (Wr (w.heap.size+1) W0 w6):=HWR.out.below hB6 (by omega);have HT6:Hid _:=hT6;have HR6:Hid _:=hR6;clear ho6 hg6 hT6 hR6 hB6 hLN6 hwl t1 t2 htl hob
     go_wp2_with fail
     refine⟨⟨t3,t4⟩,?_⟩;refine zxy ?_
     go_wp2_with fail
     refine HWL.out.mono ?_;rintro e w7 ⟨rfl,hb7,hw7⟩;have HB7:Hid (Lib.BuilderAtF 118 5 (w.heap.size+1) (w.heap.size+1) (.pointer (some ⟨w.heap.size+1,0,none⟩)) (Lib.byteCells (Fl.textTo ls ns (k+1))) w7):=hb7;have HW7:Hid (Wr (w.heap.size+1) W0 w7):=HW6.out.trans hw7;have u1:w7.cell? ⟨w.heap.size+1+1+1,kn*4,none⟩=some (.string ⟨kw.toArray⟩):=(World.cell?_of_block (w:=w6) ((hw7.row HT6.out (by omega) (by decide)).trans HT6.out.symm)).trans t3;have u2:w7.cell? ⟨NB,5,none⟩=some (.slice xao nd.list.length xcap):=(World.cell?_of_block (w:=w6) ((hw7.row HR6.out (by omega) (by decide)).trans HR6.out.symm)).trans t4;clear hb7 hw7 HWL t3 t4
     go_wp2_with fail
     refine⟨⟨u1,u2⟩,?_⟩;refine ze6 ?_;clear u1 u2;go_wp2
     go_roundw
     case rel=>exact⟨k+1,by omega,by go_num,HB7.out,HW7.out⟩
     case measure=>simp[intOf];omega
  ·have hkn:k=ns.length:=by omega
   have HST:=Tryz.Builder_String_any_k (w.heap.size+1) (w.heap.size+1) (Fl.textTo ls ns k) wr (.inr HBK.out) (by omega);have HTX:Hid (Fl.text ls ns=Fl.textTo ls ns k):=(by show _=_;rw[hkn];rfl);have hkI:¬(k:Int)<(ns.length:Int):=(by omega);clear hkn
   go_wp2_with fail
   refine HST.mono ?_;rintro e w2 ⟨rfl,_,hb2,_⟩;have HB2:Hid (Below w.heap.size w w2):=HBW.out.trans (hb2.mono (by omega));clear HST hb2;go_wp2;go_ret;exact⟨by rw[HTX.out];rfl,HB2.out⟩
namespace Fl
def cutR_free(c:UInt8):∀(a:List UInt8),(∀b∈a,b≠c)->cutR c a=[a]
 |[],_=>rfl
 |x::r,h=>by
  rw[cutR,if_neg (by have:=h x List.mem_cons_self;simpa using this),cutR_free c r (λb hb=>h b (List.mem_cons_of_mem _ hb))];rfl
def cutR_line(c:UInt8)(r:List UInt8):∀(a:List UInt8),(∀b∈a,b≠c)->cutR c (a++c::r)=a::cutR c r
 |[],_=>by rw[List.nil_append,cutR,if_pos (by simp)]
 |x::a,h=>by
  rw[List.cons_append,cutR,if_neg (by have:=h x List.mem_cons_self;simpa using this),cutR_line c r a (λb hb=>h b (List.mem_cons_of_mem _ hb))];rfl
def digits_dig(n:Nat):(Lib.decDigits n).all isDig=true:=by
 induction n using Nat.strongRecOn with
 |_ n ih=>
  have hd:∀k,k<10->isDig (UInt8.ofNat (48+k))=true:=λk hk=>by
   rcases(show k=0\/k=1\/k=2\/k=3\/k=4\/k=5\/k=6\/k=7\/k=8\/k=9 by omega) with rfl|rfl|rfl|rfl|rfl|rfl|rfl|rfl|rfl|rfl<;>decide
  rw[Lib.decDigits]
  by_cases h:n<10
  ·rw[dif_pos h,List.all_cons,hd n h];rfl
  ·rw[dif_neg h,List.all_append,ih (n / 10) (by omega),List.all_cons,hd (n % 10) (by omega)];rfl
def digits_free(n:Nat)(c:UInt8)(hc:isDig c=false):∀b∈Lib.decDigits n,b≠c:=λb hb h=>by
 have:=List.all_eq_true.1 (digits_dig n) b hb
 rw[h,hc]at this;cases this
def toNat_dig(k:Nat)(hk:k<10):(UInt8.ofNat (48+k)).toNat - 48=k:=by
 rcases(show k=0\/k=1\/k=2\/k=3\/k=4\/k=5\/k=6\/k=7\/k=8\/k=9 by omega) with rfl|rfl|rfl|rfl|rfl|rfl|rfl|rfl|rfl|rfl<;>decide
def digits_val(n:Nat):val (Lib.decDigits n)=n:=by
 induction n using Nat.strongRecOn with
 |_ n ih=>
  rw[Lib.decDigits]
  by_cases h:n<10
  ·rw[dif_pos h];unfold val;simp only[List.foldl_cons,List.foldl_nil,toNat_dig n h];omega
  ·rw[dif_neg h]
   have:=ih (n / 10) (by omega);unfold val at this⊢;rw[List.foldl_append,this];simp only[List.foldl_cons,List.foldl_nil,toNat_dig (n % 10) (by omega)];omega
def digits_head(n:Nat)(h0:n≠0):(Lib.decDigits n).headD 0≠48:=by
 induction n using Nat.strongRecOn with
 |_ n ih=>
  rw[Lib.decDigits]
  by_cases h:n<10
  ·rw[dif_pos h]
   rcases(show n=1\/n=2\/n=3\/n=4\/n=5\/n=6\/n=7\/n=8\/n=9 by omega) with rfl|rfl|rfl|rfl|rfl|rfl|rfl|rfl|rfl<;>decide
  ·rw[dif_neg h]
   have:=ih (n / 10) (by omega) (by omega)
   cases hd:Lib.decDigits (n / 10) with
   |nil=>have h5:=Lib.decDigits_length (n / 10);rw[hd]at h5;unfold Lib.nDigits at h5;split at h5<;>simp at h5
   |cons a r=>rw[hd]at this;simpa using this
def digits_pos(n:Nat):0<(Lib.decDigits n).length:=by
 rw[Lib.decDigits_length];unfold Lib.nDigits;split<;>omega
def number_digits(n:Nat)(h:n<10000000000):number (Lib.decDigits n) 10=(n,true):=by
 have hl:(Lib.decDigits n).length<=10:=by
  rw[<-decF_digits 9 n (by simpa using h)];exact zpx 9 n
 unfold number;rw[if_pos (digits_dig n),List.take_of_length_le hl,digits_val];unfold numOk;rw[decide_eq_true (digits_pos n),decide_eq_true hl]
 by_cases h0:n=0
 ·subst h0;rw[Lib.decDigits_one (by decide)];decide
 ·rw[bne_iff_ne.2 (digits_head n h0)];rfl
def intsOf_digits:∀(xs:List Int),(∀x∈xs,0<=x/\x<2147483648)->intsOf (xs.map λx=>Lib.decDigits x.toNat)=some xs
 |[],_=>rfl
 |x::r,h=>by
  obtain⟨h0,h1⟩:=h x List.mem_cons_self;rw[List.map_cons,intsOf,number_digits x.toNat (by omega),if_pos ⟨rfl,by omega⟩,intsOf_digits r (λy hy=>h y (List.mem_cons_of_mem _ hy))];simp;omega
def cutR_blanks:∀(xs:List Int) (a:List UInt8),(∀b∈a,b≠32)->cutR 32 (a++blanks xs)=a::xs.map λx=>Lib.decDigits x.toNat
 |[],a,h=>by simp only[blanks,List.flatMap_nil,List.append_nil,List.map_nil];exact cutR_free 32 a h
 |x::r,a,h=>by
  have e:blanks (x::r)=32::(Lib.decDigits x.toNat++blanks r):=(by simp[blanks]);rw[e,cutR_line 32 _ a h,cutR_blanks r _ (digits_free _ 32 (by decide)),List.map_cons]
def blanks_free:∀(xs:List Int),∀b∈blanks xs,b≠10
 |[],b,h=>by simp[blanks]at h
 |x::r,b,h=>by
  have e:blanks (x::r)=32::(Lib.decDigits x.toNat++blanks r):=(by simp[blanks]);rw[e]at h;rcases List.mem_cons.1 h with rfl|h
  ·decide
  ·rcases List.mem_append.1 h with h|h
   ·exact digits_free _ 10 (by decide) b h
   ·exact blanks_free r b h
end Fl
namespace Fl
def inR_iff(x:Int):inR x=true ↔ 0<=x/\x<2147483648:=by simp[inR]
def sound_kinds{k:Int}(h:fields k≠ -2):0<=k/\k<8:=by
 unfold fields at h
 repeat' split at h
 all_goals omega
def sound_tellable(n:Node)(h:sound n=true):Tellable n:=by
 simp only[sound,okV,Bool.and_eq_true,Bool.or_eq_true,decide_eq_true_eq,inR_iff,List.all_eq_true]at h;obtain⟨h1,h2,h3,h4,h5,h6,h7,h8⟩:=h;exact⟨(sound_kinds h1).1,(sound_kinds h1).2,h2,h4.1,h5.1,h6.1,h3,λx hx=>h7 x hx⟩
def place_kindWords(k:Nat)(hk:k<8):place kindWords (kindWords.getD k [])=(k:Int):=by
 rcases(show k=0\/k=1\/k=2\/k=3\/k=4\/k=5\/k=6\/k=7 by omega) with rfl|rfl|rfl|rfl|rfl|rfl|rfl|rfl<;>decide
def kindWords_free(k:Nat)(hk:k<8):∀b∈kindWords.getD k [],b≠32/\b≠10:=by
 rcases(show k=0\/k=1\/k=2\/k=3\/k=4\/k=5\/k=6\/k=7 by omega) with rfl|rfl|rfl|rfl|rfl|rfl|rfl|rfl<;>decide
def zv4(n:Node)(h:Tellable n):1<=(lineNums n).length/\∀x∈lineNums n,0<=x/\x<2147483648:=by
 obtain⟨k1,k2,k3,k4,k5,k6,k7,k8⟩:=h;refine⟨?_,λx hx=>?_⟩
 ·unfold lineNums;split
  ·simp;omega
  ·simp
 ·unfold lineNums at hx;split at hx
  ·have:=List.mem_of_mem_take hx
   simp only[List.mem_cons,List.not_mem_nil,or_false]at this;rcases this with rfl|rfl|rfl|rfl<;>assumption
  ·rcases List.mem_cons.1 hx with rfl|hx
   ·exact k3
   ·exact k8 x hx
def nodeRow(k:Nat)(n:Node):List UInt8:=Lib.decDigits k++(32::(kindWords.getD n.kind.toNat []++blanks (lineNums n)))
def nodeLine_row(k:Nat)(n:Node)(r:List UInt8):nodeLine k n++r=nodeRow k n++10::r:=by simp[nodeLine,nodeRow,spaced]
def nodeRow_free(k:Nat)(n:Node)(h:Tellable n):∀b∈nodeRow k n,b≠10:=by
 obtain⟨k1,k2,_⟩:=h;intro b hb;unfold nodeRow at hb;rcases List.mem_append.1 hb with hb|hb
 ·exact digits_free k 10 (by decide) b hb
 ·rcases List.mem_cons.1 hb with rfl|hb
  ·decide
  ·rcases List.mem_append.1 hb with hb|hb
   ·exact(kindWords_free n.kind.toNat (by omega) b hb).2
   ·exact blanks_free _ b hb
def nodeRow_words(k:Nat)(n:Node)(h:Tellable n):cutR 32 (nodeRow k n)=Lib.decDigits k::kindWords.getD n.kind.toNat []::(lineNums n).map λx=>Lib.decDigits x.toNat:=by
 obtain⟨k1,k2,_⟩:=h;unfold nodeRow;rw[cutR_line 32 _ _ (digits_free k 32 (by decide)),cutR_blanks _ _ (λb hb=>(kindWords_free n.kind.toNat (by omega) b hb).1)]
def nodeOf_row(k:Nat)(n:Node)(h:sound n=true):nodeOf k (cutR 32 (nodeRow k n))=some n:=by
 have ht:=sound_tellable n h;obtain⟨hl,hr⟩:=zv4 n ht;have hk1:=ht.1;have hk2:=ht.2.1;rw[nodeRow_words k n ht];unfold nodeOf;rw[if_neg (by rintro(hh|hh);simp only[List.length_cons,List.length_map]at hh;omega;exact hh rfl)];simp only[List.getD_cons_succ,List.getD_cons_zero,List.drop_succ_cons,List.drop_zero];rw[place_kindWords n.kind.toNat (by omega),if_neg (by omega),intsOf_digits _ hr,show ((n.kind.toNat:Nat):Int)=n.kind by omega];simp only[sound,okV,Bool.and_eq_true,Bool.or_eq_true,decide_eq_true_eq,inR_iff,List.all_eq_true]at h;obtain⟨h1,h2,h3,h4,h5,h6,h7,h8⟩:=h;obtain⟨kd,lv,a,b,c,l⟩:=n;simp only at*;have hf:=fields_lt kd
 by_cases hneg:fields kd<0
 ·have hf1:fields kd= -1:=by omega
  rw[if_pos hneg];unfold lineNums;simp only[hf1];rw[if_neg (by decide)];rw[hf1]at h4 h5 h6;simp only[List.getD_cons_zero,List.drop_succ_cons,List.drop_zero,Option.some.injEq,Node.mk.injEq,true_and,and_true];omega
 ·rw[if_neg hneg]
  have hlist:l=[]:=by rcases h8 with h8|h8;omega;exact h8
  subst hlist
  have h0:fields kd≠0:=by unfold fields;repeat' split<;>omega
  unfold lineNums;simp only;rcases(show fields kd=1\/fields kd=2\/fields kd=3 by omega) with hf1|hf1|hf1<;>rw[hf1]at h4 h5 h6⊢<;>simp<;>omega
def take_nth(ns:List Node)(i:Nat)(h:i<ns.length):ns.take (i+1)=ns.take i++[nth ns i]:=by
 rw[List.take_add_one,List.getElem?_eq_getElem h];simp[nth,List.getD_eq_getElem?_getD,h]
def readL_nodes(ls:List Int)(ns:List Node)(h:∀i,i<ns.length->sound (nth ns i)=true):∀(m i:Nat),i+m=ns.length->readL ls (ns.take i) (i+1) (cutR 10 ((List.range' i m).flatMap λj=>nodeLine j (nth ns j)))=((ls,ns),0)
 |0,i,hi=>by
  rw[List.range'_zero,List.flatMap_nil,cutR,readL_last,if_pos ⟨rfl,by omega⟩,List.take_of_length_le (by omega)]
 |m+1,i,hi=>by
  have hs:=h i (by omega);rw[List.range'_succ,List.flatMap_cons,nodeLine_row,cutR_line 10 _ _ (nodeRow_free i _ (sound_tellable _ hs)),readL_next _ _ _ _ _ (cutR_ne _ _),nodeOf_row i _ hs];have:=readL_nodes ls ns h m (i+1) (by omega);rw[take_nth ns i (by omega)]at this;exact this
def readText_text(ls:List Int)(ns:List Node)(hl:∀x∈ls,0<=x/\x<2147483648)(h:∀i,i<ns.length->sound (nth ns i)=true):readText (text ls ns)=((ls,ns),0):=by
 have e:text ls ns=(wLocals++blanks ls)++10::((List.range' 0 ns.length).flatMap λj=>nodeLine j (nth ns j)):=by
  simp[text,textTo,spaced,List.range_eq_range']
 have hf:∀b∈wLocals++blanks ls,b≠10:=λb hb=>by
  rcases List.mem_append.1 hb with hb|hb
  ·exact(show ∀b∈wLocals,b≠10 by decide) b hb
  ·exact blanks_free ls b hb
 unfold readText;rw[e,cutR_line 10 _ _ hf,readL_first _ _ _ _ (cutR_ne _ _)];have hw:localsOf (cutR 32 (wLocals++blanks ls))=some ls:=by
  rw[cutR_blanks ls wLocals (by decide)];unfold localsOf;rw[if_neg (by simp)];simp only[List.drop_succ_cons,List.drop_zero];exact intsOf_digits ls hl
 rw[hw];exact readL_nodes ls ns h ns.length 0 (by omega)
end Fl
def zm8{l:List UInt8}(h:(Fl.decode l).2.1=true):(Fl.decode l).1.1.length<=4/\(∀x∈(Fl.decode l).1.1,0<=x/\x<2147483648)/\(Fl.decode l).1.2.length<=200/\∀k,k<(Fl.decode l).1.2.length->Fl.sound (Fl.nth (Fl.decode l).1.2 k)=true:=by
 have he:=Fl.decode_encode h;unfold Fl.encode at he
 by_cases h1:4<(Fl.decode l).1.1.length\/(Fl.decode l).1.2.length=0\/200<(Fl.decode l).1.2.length
 ·rw[if_pos h1]at he;simp at he
 rw[if_neg h1]at he
 by_cases h2:(Fl.decode l).1.1.all Fl.inR=false
 ·rw[if_pos h2]at he;simp at he
 rw[if_neg h2]at he
 by_cases h3:0<=Fl.shaped (Fl.decode l).1.2
 ·rw[if_pos h3]at he;simp at he
 refine⟨by omega,λx hx=>?_,by omega,λk hk=>Fl.sound_of_shaped (by omega) k hk⟩
 have h4:(Fl.decode l).1.1.all Fl.inR=true:=by simpa using h2
 exact(Fl.inR_iff x).1 (List.all_eq_true.1 h4 x hx)
def yqz{n:Fl.Node}(h:Fl.sound n=true)(k:Nat)(hk:n.kind=(k:Int))(h7:k≠7):n.list=[]:=by
 simp only[Fl.sound,Bool.and_eq_true,Bool.or_eq_true,decide_eq_true_eq]at h;obtain⟨h1,_,_,_,_,_,_,h8⟩:=h;rcases h8 with h8|h8
 ·rw[hk]at h8 h1
  have hr:=Fl.sound_kinds h1;rcases(show k=0\/k=1\/k=2\/k=3\/k=4\/k=5\/k=6 by omega) with rfl|rfl|rfl|rfl|rfl|rfl|rfl<;>exact absurd h8 (by decide)
 ·exact h8
def zc1(r:(List Int×List Fl.Node)×Bool×Int)(w:World)(e:Ending)(w':World):Prop:=
 Below w.heap.size w w'/\
 (r.2.1=false->∃q,e=.returned (.tuple #[.string ⟨#[]⟩,.iface 76 (.pointer (some ⟨q,0,none⟩))])/\w'.cell? ⟨q,0,none⟩=some (.int .i64 8)/\w'.cell? ⟨q,1,none⟩=some (.int .i64 r.2.2))/\
 (r.2.1=true->e=.returned (.tuple #[.string ⟨(Fl.text r.1.1 r.1.2).toArray⟩,.nilIface]))
def yqy{ao:Option Addr}{cap:Nat}{s:List UInt8}{w:World}(hp:Vs w)(hs:s.length<=1099511627776)(hb:s≠[]->∃bb bo,ao=some ⟨bb,bo,none⟩/\bb<w.heap.size/\∀i,i<s.length->w.cell? ⟨bb,bo+i,none⟩=some (.int .u8 (s.getD i 0).toNat)):
  Calls prog 23 #[.slice ao s.length cap] w (zc1 (Fl.decode s) w):=by
 have HC:Hid (Calls prog 29 #[.slice ao s.length cap] w (zx7 (Fl.decode s) w)):=zsw hs hb;have HP:Hid (Vs w):=hp;clear hs hb hp
 go_enter func23,ntmps23
 go_wp2_with fail
 refine HC.out.mono ?_;rintro e wz ⟨hB,hbad,hgood⟩;have HB:Hid (Below w.heap.size w wz):=hB;clear hB HC
 cases hr:(Fl.decode s).2.1 with
 |true=>
  obtain⟨la,n,lc,na,n',nc,rfl,hst⟩:=hgood hr;obtain⟨hd1,hd2,hd3,hd4⟩:=zm8 hr;have HRR:Hid ((Fl.decode s).2.1=true):=hr
  have HTX:Hid (∀o,Calls prog 31 #[.agg #[.slice la n lc,.slice na n' nc]] (wz.alloc o) λe w'=>e=.returned (.string ⟨(Fl.text (Fl.decode s).1.1 (Fl.decode s).1.2).toArray⟩)/\Below (wz.alloc o).heap.size (wz.alloc o) w'):=λo=>by
   obtain⟨h1,h2⟩:=hst (wz.alloc o) (Ys.alloc _ _ _);exact ym9 _ _ _ _ _ h1 h2 hd1 hd2 hd3 (λi hi=>Fl.sound_tellable _ (hd4 i hi)) (λi hi k hk h7=>yqz (hd4 i hi) k hk h7) (HP.out.below (Nat.le_refl _) (HB.out.alloc HB.out.size _))
  obtain⟨tx,htx⟩:∃tx,tx=Fl.text (Fl.decode s).1.1 (Fl.decode s).1.2:=⟨_,rfl⟩;rw[<-htx]at HTX;have HTE:Hid (tx=Fl.text (Fl.decode s).1.1 (Fl.decode s).1.2):=htx;clear hbad hgood hr hst hd1 hd2 hd3 hd4 htx
  go_wp2_with fail
  refine(HTX.out _).mono ?_;rintro e w2 ⟨rfl,hb2⟩;have HB2:Hid (Below w.heap.size w w2):=(HB.out.alloc HB.out.size _).trans (hb2.mono (HB.out.alloc HB.out.size _).size);clear hb2 HTX;go_wp2
  go_ret2
  exact⟨HB2.out,λh=>(by rw[HRR.out]at h;cases h),λ_=>by rw[<-HTE.out];rfl⟩
 |false=>
  obtain⟨q,rfl,q0,q1⟩:=hbad hr;have HRR:Hid ((Fl.decode s).2.1=false):=hr;have HQ:Hid (∀o,(wz.alloc o).cell? ⟨q,0,none⟩=some (.int .i64 8)/\(wz.alloc o).cell? ⟨q,1,none⟩=some (.int .i64 (Fl.decode s).2.2)):=λo=>⟨(World.cell?_alloc_lt _ _ _ (World.block_lt_of_cell? wz _ q0)).trans q0,(World.cell?_alloc_lt _ _ _ (World.block_lt_of_cell? wz _ q1)).trans q1⟩;clear hbad hgood hr q0 q1;go_wp2
  go_ret2
  exact⟨HB.out.alloc HB.out.size _,λ_=>⟨q,rfl,HQ.out _⟩,λh=>by rw[HRR.out]at h;cases h⟩
def zc2(r:(List Int×List Fl.Node)×Bool×Int)(w:World)(e:Ending)(w':World):Prop:=
 Below w.heap.size w w'/\
 (r.2.1=false->e=.returned (.tuple #[.string ⟨#[]⟩,.int .i64 8,.int .i64 r.2.2]))/\
 (r.2.1=true->e=.returned (.tuple #[.string ⟨(Fl.text r.1.1 r.1.2).toArray⟩,.int .i64 0,.int .i64 (-1)]))
def yqx{ao:Option Addr}{cap:Nat}{s:List UInt8}{w:World}(hE:Yj w)(hp:Vs w)(hs:s.length<=1099511627776)(hb:s≠[]->∃bb bo,ao=some ⟨bb,bo,none⟩/\bb<w.heap.size/\∀i,i<s.length->w.cell? ⟨bb,bo+i,none⟩=some (.int .u8 (s.getD i 0).toNat)):
  Calls prog 11 #[.slice ao s.length cap] w (zc2 (Fl.decode s) w):=by
 have HC:Hid (Calls prog 23 #[.slice ao s.length cap] w (zc1 (Fl.decode s) w)):=yqy hp hs hb;have HEB:Hid (∀o,Below w.heap.size w o->Yj o):=λo ho=>(ho.cell (p:=⟨0,0,none⟩) (World.block_lt_of_cell? w _ hE)).trans hE;clear hs hb hp hE
 go_enter func11,ntmps11
 go_wp2_with fail
 refine HC.out.mono ?_;rintro e wz ⟨hB,hbad,hgood⟩;have HB:Hid (Below w.heap.size w wz):=hB;have hsz:=hB.size;clear hB HC
 cases hr:(Fl.decode s).2.1 with
 |true=>
  obtain rfl:=hgood hr;have HRR:Hid ((Fl.decode s).2.1=true):=hr;obtain⟨tx,htx⟩:∃tx,tx=Fl.text (Fl.decode s).1.1 (Fl.decode s).1.2:=⟨_,rfl⟩;rw[<-htx];have HTE:Hid (tx=Fl.text (Fl.decode s).1.1 (Fl.decode s).1.2):=htx;clear hbad hgood hr htx
  go_wp2_with fail
  refine(zy8 _).mono ?_;rintro e w2 ⟨rfl,hB2⟩;have HB2:Hid (Below w.heap.size w w2):=HB.out.trans (hB2.mono (by omega));clear hB2;go_wp2
  go_ret3
  exact⟨HB2.out,λh=>(by rw[HRR.out]at h;cases h),λ_=>by rw[<-HTE.out];rfl⟩
 |false=>
  obtain⟨q,rfl,q0,q1⟩:=hbad hr;have HRR:Hid ((Fl.decode s).2.1=false):=hr;clear hbad hgood hr
  go_wp2_with fail
  refine(zx2 q 0 8 (Fl.decode s).2.2 _ (HEB.out _ HB.out) q0 q1).mono ?_;rintro e w2 ⟨rfl,hB2⟩;have HB2:Hid (Below w.heap.size w w2):=HB.out.trans (hB2.mono (by omega));clear hB2 q0 q1;go_wp2
  go_ret3
  exact⟨HB2.out,λ_=>rfl,λh=>by rw[HRR.out]at h;cases h⟩
end Go.Proofs.YtminjljgedopkaaGreatDoor
