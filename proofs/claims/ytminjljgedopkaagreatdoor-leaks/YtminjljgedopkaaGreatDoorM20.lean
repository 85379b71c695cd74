import Derived.Test.YtminjljgedopkaaGreatDoorM19
import Derived.Lib.SlBytesConst
import Derived.Lib.ConvBytes
set_option linter.all false
set_option maxRecDepth 100000
set_option maxHeartbeats 40000000
namespace Go.Proofs.YtminjljgedopkaaGreatDoor
open Go.RowKit Go.Proofs.Tryz
def yt9{B:Nat}{w w':World}{v:Value}{xs:List Int}(h:Zy B w v xs)(hc:∀b o,b<B->w'.cell? ⟨b,o,none⟩=w.cell? ⟨b,o,none⟩):Zy B w' v xs:=by
 obtain⟨ao,cap,hv,hc0,hl,hx⟩:=h;refine⟨ao,cap,hv,hc0,hl,λhne=>?_⟩;obtain⟨b,off,ha,hbB,hcell⟩:=hx hne;exact⟨b,off,ha,hbB,λi hi=>(hc b _ hbB).trans (hcell i hi)⟩
def zny{w:World}{base base':Nat}{e:TypeId}{size:Nat}{v:Value}{n:Nat}{xs:List Value}(h:w.ownsRow base e size v n xs)(hb:base'<=base):w.ownsRow base' e size v n xs:=
 ⟨h.1,h.2.imp id (λ⟨g,cap,cur,hv,hg,rest⟩=>⟨g,cap,cur,hv,Nat.le_trans hb hg,rest⟩)⟩
def zgz{nd:Fl.Node}{k lev:Nat}(hk:nd.kind=(k:Int))(h8:k<8)(h7:k≠7)(hlev:nd.level=(lev:Int)):Fl.nodeBytes nd=[UInt8.ofNat k]++(Fl.coded lev++Fl.codedAll ([nd.a,nd.b,nd.c].take (Ys k))):=by
 unfold Fl.nodeBytes Fl.nodeNums;rw[hk,hlev,zo4 k h8 h7,if_neg (by omega),if_neg (by omega)];simp
def zj7{nd:Fl.Node}{lev:Nat}(hk:nd.kind=((7:Nat):Int))(hlev:nd.level=(lev:Int)):Fl.nodeBytes nd=[UInt8.ofNat 7]++(Fl.coded lev++(Fl.coded nd.list.length++Fl.codedAll nd.list)):=by
 unfold Fl.nodeBytes Fl.nodeNums
 have:Fl.fields (((7:Nat):Int))= -1:=by decide
 rw[hk,hlev,this];simp
def ytz(ls:List Int)(ns:List Fl.Node)(la na:Option Addr)(lc nc B:Nat)(w:World)(hB:B<=w.heap.size)(hl:Zy B w (.slice la ls.length lc) ls)(hn:Zo B w (.slice na ns.length nc) ns)(h1:ls.length<=4)(hall:ls.all Fl.inR=true)(h2:ns.length<=200)(hsd:∀k,k<ns.length->Fl.sound (Fl.nth ns k)=true):
  Calls prog 53 #[.agg #[.slice la ls.length lc,.slice na ns.length nc]] w λe w'=>∃v',e=.returned v'/\w'.ownsRow w.heap.size 5 1 v' (Fl.headBytes ls ns++Fl.allBytes ns).length ((Fl.headBytes ls ns++Fl.allBytes ns).map Zb)/\Below w.heap.size w w':=by
 obtain⟨i0,hi,hz0,hz1,hz2⟩:=info_parts Tryz.infoByte;have HL:Hid (Zy B w (.slice la ls.length lc) ls):=hl;have HN:Hid (Zo B w (.slice na ns.length nc) ns):=hn;have HA:Hid (ls.all Fl.inR=true):=hall;have HS:Hid (∀k,k<ns.length->Fl.sound (Fl.nth ns k)=true):=hsd;have kc:=Lib.run_convert_bytes_const (P:=prog) (((w.alloc (.cells #[.slice la ls.length lc,.slice na ns.length nc] 26)).alloc (.cells Zv 98)).alloc (.cells Zv 98)) 30 5 #[.int .u8 70,.int .u8 80,.int .u8 49] 3 3 underlying30 underlying5;simp only[World.size_alloc,List.size_toArray,List.length_cons,List.length_nil,Nat.reduceAdd]at kc;clear hl hn hall hsd
 go_enter func53,ntmps53
 go_wp2_with (first|(go_at_call 38;refine(zxw _).mono ?_;rintro e w1 ⟨rfl,rfl⟩)|(refine Uz rfl _ _ 98 rfl _ _ _ Zv rfl (by simp) rfl Tryz.infoRules zxx zv3 ?_))
 clear kc;obtain⟨W4,hW4⟩:∃W4,W4=((((w.alloc (.cells #[.slice la ls.length lc,.slice na ns.length nc] 26)).alloc (.cells Zv 98)).alloc (.cells Zv 98)).alloc (.cells #[.int .u8 70,.int .u8 80,.int .u8 49] 5 (3,4))):=⟨_,rfl⟩;rw[<-hW4]
 have hz4:W4.heap.size=w.heap.size+4:=by rw[hW4];simp
 have hb4:Below w.heap.size w W4:=by
  rw[hW4];exact((((Below.refl _ _).alloc (Nat.le_refl _) _).alloc (by simp) _).alloc (by simp;omega) _).alloc (by simp;omega) _
 have hrow:W4.heap[w.heap.size+2]?=some (.cells Zv 98 (0,0)):=by
  rw[hW4,Below.heap_alloc _ _ _ (by simp)];have:=heap_alloc_last ((w.alloc (.cells #[.slice la ls.length lc,.slice na ns.length nc] 26)).alloc (.cells Zv 98)) (.cells Zv 98);simpa only [World.size_alloc] using this
 have hp1:W4.heap[w.heap.size]?=some (.cells #[.slice la ls.length lc,.slice na ns.length nc] 26 (0,0)):=by
  rw[hW4,Below.heap_alloc _ _ _ (by simp;omega),Below.heap_alloc _ _ _ (by simp;omega),Below.heap_alloc _ _ _ (by simp)];exact heap_alloc_last _ _
 have hlit:W4.heap[w.heap.size+3]?=some (.cells #[.int .u8 70,.int .u8 80,.int .u8 49] 5 (3,4)):=by
  have:=heap_alloc_last (((w.alloc (.cells #[.slice la ls.length lc,.slice na ns.length nc] 26)).alloc (.cells Zv 98)).alloc (.cells Zv 98)) (.cells #[.int .u8 70,.int .u8 80,.int .u8 49] 5 (3,4));rw[hW4];simpa only [World.size_alloc] using this
 have HR4:Hid (Yq W4 (w.heap.size+2) 0):=zov hrow;have HH:Hid (Vy W4 (w.heap.size+3) (.slice (some ⟨w.heap.size+3,0,none⟩) 3 3) ([70,80,49]:List UInt8).length (([70,80,49]:List UInt8).map Zb)):=by
  refine .inr ⟨w.heap.size+3,Nat.le_refl _,by omega,rfl,rfl,λj u hj=>?_⟩
  have h2:(⟨w.heap.size+3,0,none⟩:Addr).add j=⟨w.heap.size+3,j,none⟩:=by unfold Addr.add;split<;>simp_all
  rw[h2,cell_of_row W4 _ j _ _ _ hlit];simpa [Zb] using hj
 have HP1:Hid (W4.heap[w.heap.size]?=some (.cells #[.slice la ls.length lc,.slice na ns.length nc] 26 (0,0))):=hp1;have HB4:Hid (Below w.heap.size w W4):=hb4
 have HAL:Hid (Calls prog 97 #[.slice (some ⟨w.heap.size+3,0,none⟩) 3 3,.slice la ls.length lc] W4 λe w'=>∃v',e=.returned v'/\w'.ownsRow (w.heap.size+3) 5 1 v' (([70,80,49]:List UInt8)++(Fl.coded ls.length++Fl.codedAll ls)).length ((([70,80,49]:List UInt8)++(Fl.coded ls.length++Fl.codedAll ls)).map Zb)/\Below (w.heap.size+3) W4 w'/\Yo W4 (.slice (some ⟨w.heap.size+3,0,none⟩) 3 3) w' v'):=
  zt6 ls HA.out (by omega) B (w.heap.size+3) (by omega) (.slice la ls.length lc) [70,80,49] _ W4 (HL.out.below (hb4.mono hB)) HH.out (by simp) (by omega)
 clear hrow hp1 hlit hb4 hW4;refine(HAL.out).mono ?_;rintro e w5 ⟨v5,rfl,ho5,hb5,_⟩;have hcl:=Fl.coded_len ls.length;have hca:=Fl.codedAll_len ls
 have hl5:(([70,80,49]:List UInt8)++(Fl.coded ls.length++Fl.codedAll ls)).length<=60:=by simp only[List.length_append,List.length_cons,List.length_nil];omega
 obtain⟨xs5,hx5⟩:∃xs5,xs5=(([70,80,49]:List UInt8)++(Fl.coded ls.length++Fl.codedAll ls)):=⟨_,rfl⟩;rw[<-hx5]at ho5 hl5;have HX5:Hid (xs5=(([70,80,49]:List UInt8)++(Fl.coded ls.length++Fl.codedAll ls))):=hx5;have HO5:Hid (w5.ownsRow (w.heap.size+3) 5 1 v5 xs5.length (xs5.map Zb)):=ho5;have HB5:Hid (Below (w.heap.size+3) W4 w5):=hb5;have q1:w5.cell? ⟨w.heap.size,1,none⟩=some (.slice na ns.length nc):=(hb5.cell (p:=⟨w.heap.size,1,none⟩) (by simp)).trans ((cell_of_row _ _ _ _ _ _ HP1.out).trans rfl)
 have HAN:Hid (Calls prog 98 #[v5,.int .i64 (ns.length:Nat)] w5 λe w'=>∃v',e=.returned v'/\w'.ownsRow (w.heap.size+3) 5 1 v' (xs5++Fl.coded ns.length).length ((xs5++Fl.coded ns.length).map Zb)/\Below (w.heap.size+3) w5 w'/\Yo w5 v5 w' v'):=
  Ui ns.length (by omega) (w.heap.size+3) xs5 v5 w5 (.inl ho5) (by omega) (by have:=hb5.size;omega)
 clear HAL HH ho5 hb5 hx5 hcl hca
 go_wp2_with fail
 refine(HAN.out).mono ?_;rintro e w6 ⟨v6,rfl,ho6,hb6,_⟩;have HO6:Hid (w6.ownsRow (w.heap.size+3) 5 1 v6 (xs5++Fl.coded ns.length).length ((xs5++Fl.coded ns.length).map Zb)):=ho6;have HB6:Hid (Below (w.heap.size+3) W4 w6):=HB5.out.trans hb6;have q6:w6.cell? ⟨w.heap.size,1,none⟩=some (.slice na ns.length nc):=(hb6.cell (p:=⟨w.heap.size,1,none⟩) (by simp)).trans q1
 have hl6:(xs5++Fl.coded ns.length).length<=70:=by have:=Fl.coded_len ns.length;simp only[List.length_append];omega
 have HX6:Hid (xs5++Fl.coded ns.length=Fl.headBytes ls ns):=by
  show _=_;rw[HX5.out];unfold Fl.headBytes;simp[List.append_assoc]
 clear HAN ho6 hb6 q1 HO5
 go_wp2_with fail
 obtain⟨TB,hTB⟩:∃TB,TB=w.heap.size+1+1:=⟨_,rfl⟩;rw[<-hTB]
 have HRT:Hid (Yq W4 TB 0):=by subst hTB;exact HR4.out
 have HTB:Hid (TB=w.heap.size+2):=hTB
 have HO7:Hid (w6.ownsRow (TB+1) 5 1 v6 (xs5++Fl.coded ns.length).length ((xs5++Fl.coded ns.length).map Zb)):=by subst hTB;exact HO6.out
 have HB7:Hid (Below (TB+1) W4 w6):=by subst hTB;exact HB6.out
 have hz4':W4.heap.size=TB+2:=by omega
 have hwT:w.heap.size<TB:=by omega
 clear hTB HO6 HB6 HR4 q6 hz4
 go_loopw [4,24] (λv i wr=>∃(j:Nat) (xs:List UInt8),j<=ns.length/\i=.int .i64 j/\xs=Fl.headBytes ls ns++Fl.allBytes (ns.take j)/\wr.ownsRow (TB+1) 5 1 v xs.length (xs.map Zb)/\Below (TB+1) W4 wr) (λ_ i _=>ns.length - (intOf i).toNat)
 case atStart=>exact⟨0,xs5++Fl.coded ns.length,by omega,rfl,by rw[HX6.out];simp[Fl.allBytes],HO7.out,HB7.out⟩
 case round=>
  clear HO7 HB7 HX6 hl6;obtain⟨j,xs,hj,rfl,hxs,hown,hbel⟩:=hrel;have HXS:Hid (xs=Fl.headBytes ls ns++Fl.allBytes (ns.take j)):=hxs;have HOW:Hid (wr.ownsRow (TB+1) 5 1 u4 xs.length (xs.map Zb)):=hown;have HBE:Hid (Below (TB+1) W4 wr):=hbel;have hxl:xs.length<=41000:=by
   have h1:=Fl.allBytes_len (ns.take j) (λx hx=>by
    obtain⟨i,hi,rfl⟩:=Fl.mem_nth (List.mem_of_mem_take hx);exact HS.out i hi)
   have h2:=Fl.coded_len ls.length;have h3:=Fl.codedAll_len ls;have h4:=Fl.coded_len ns.length;have h5:(ns.take j).length<=200:=(by simp;omega);rw[hxs];simp only[Fl.headBytes,List.length_append,List.length_cons,List.length_nil];omega
  have hwr:TB+2<=wr.heap.size:=(by have:=hbel.size;omega);clear hxs hown hbel
  by_cases hlt:j<ns.length
  ·obtain⟨b,off,rfl⟩:∃b off,na=some ⟨b,off,none⟩:=by
    obtain⟨ao',cap',hv',_,_,hx'⟩:=HN.out;obtain⟨b,off,ha,_⟩:=hx' (by intro h;rw[h]at hlt;simp at hlt);simp only[Value.slice.injEq]at hv';exact⟨b,off,hv'.1.trans ha⟩
   have hbw:Below w.heap.size w wr:=HB4.out.trans (HBE.out.mono (by omega));obtain⟨hbB,lv,c0,c1,c2,c3,c4,c5,c6⟩:=(HN.out.below (hbw.mono hB)).at hlt;have hsd:=HS.out j hlt;obtain⟨nd,hnd⟩:∃nd,nd=Fl.nth ns j:=⟨_,rfl⟩;rw[<-hnd]at c0 c1 c2 c3 c4 c5 hsd;have HND:Hid (nd=Fl.nth ns j):=hnd;obtain⟨hfit,hk0,hk8⟩:=Fl.sound_fits hsd;obtain⟨k,hk⟩:∃k:Nat,nd.kind=(k:Int):=⟨nd.kind.toNat,by omega⟩;have h8:k<8:=(by omega);rw[hk]at c1;obtain⟨lao,lcap,rfl,_⟩:=id c0;have HLI:Hid (∀W,Below (TB+1) W4 W->Zy B W (.slice lao nd.list.length lcap) nd.list):=λW hW=>yt9 c0 (λb o hb=>(hW.cell (p:=⟨b,o,none⟩) (by simp only;omega)).trans (HBE.out.cell (p:=⟨b,o,none⟩) (by simp only;omega)).symm);have HFT:Hid (Fl.fits nd):=hfit;have HSD:Hid (Fl.sound nd=true):=hsd;have HK:Hid (nd.kind=(k:Int)):=hk
   have HRW:Hid (Yq wr TB 0):=λk hk=>by
    obtain⟨g1,g2,g3⟩:=HRT.out k hk;exact⟨(HBE.out.cell (p:=⟨TB,_,none⟩) (by simp)).trans g1,(HBE.out.cell (p:=⟨TB,_,none⟩) (by simp)).trans g2,(HBE.out.cell (p:=⟨TB,_,none⟩) (by simp)).trans g3⟩
   have hji:(j:Int)<(ns.length:Int):=(by omega);have h8':(k:Int)<8:=(by omega);clear hnd hfit hk0 hk8 hk c0 hsd hbw;have HH1:Hid (∀o o',Vy ((wr.alloc o).alloc o') (TB+1) u4 xs.length (xs.map Zb)):=λo o'=>(Vy.alloc (Or.inl HOW.out) o).alloc o'
   go_wp2_with (at_builtin;(refine Ub _ rfl _ _ 30 rfl (TB+1) i0 (.int .u8 0) underlying30 hi hz0 hz1 hz2 rfl _ _ _ rfl (HH1.out _ _) ⟨_,0,none⟩ 1 1 [.int .u8 (k:Int)] rfl rfl (by decide) zg7 ?c2 ?c3 ?c4 ?c5 ?_))
   case c2=>intro u hu;simp at hu;subst hu;rfl
   case c3=>unfold maxLen;omega
   case c4=>omega
   case c5=>simp;omega
   intro v7 w7 ho7 hg7 hw7;obtain⟨N,hN⟩:∃N,N=wr.heap.size:=⟨_,rfl⟩;obtain⟨WA,hWA⟩:∃WA,WA=wr.alloc (.cells #[.int .i64 (k:Int),.int .i64 nd.level,.int .i64 nd.a,.int .i64 nd.b,.int .i64 nd.c,.slice lao nd.list.length lcap] 121):=⟨_,rfl⟩;have hzA:WA.heap.size=N+1:=(by rw[hWA,hN];simp);have hrowA:WA.heap[N]?=some (.cells #[.int .i64 (k:Int),.int .i64 nd.level,.int .i64 nd.a,.int .i64 nd.b,.int .i64 nd.c,.slice lao nd.list.length lcap] 121 (0,0)):=(by rw[hWA,hN];exact heap_alloc_last _ _);have hbA:Below N wr WA:=(by rw[hWA,hN];exact(Below.refl _ _).alloc (Nat.le_refl _) _);rw[<-hWA]at hg7;have HS7:Hid (Yo WA u4 w7 v7):=((Yo.refl WA u4).alloc _).append hg7 (by simp only[World.size_alloc,hzA,hN]at hw7⊢;exact hw7);have HO7:Hid (w7.ownsRow (TB+1) 5 1 v7 (xs++[UInt8.ofNat k]).length ((xs++[UInt8.ofNat k]).map Zb)):=by
    have hbv:(.int .u8 (k:Int):Value)=Zb (UInt8.ofNat k):=by
     have h2:(UInt8.ofNat k).toNat=k:=(by simp;omega);unfold Zb;rw[h2]
    rw[hbv]at ho7;show World.ownsRow _ _ _ _ _ _ _;simpa using ho7
   have hneN:some N≠u4.ownBlock:=λhh=>by have:=(HOW.out.lt N hh.symm).2;omega
   have hneT:some TB≠u4.ownBlock:=λhh=>by have:=(HOW.out.lt TB hh.symm).1;omega
   have HCN:Hid (∀W V,Yo WA u4 W V->(∀o,W.cell? ⟨N,o,none⟩=#[Value.int .i64 (k:Int),.int .i64 nd.level,.int .i64 nd.a,.int .i64 nd.b,.int .i64 nd.c,.slice lao nd.list.length lcap][o]?)/\Yq W TB 0/\Below (TB+1) W4 W/\N<W.heap.size/\Below N wr WA):=λW V hst=>by
    refine⟨λo=>(hst.cell (by omega) hneN).trans (cell_of_row _ _ _ _ _ _ hrowA),λk hk=>?_,?_,by have:=hst.1.size;omega,hbA⟩
    ·obtain⟨g1,g2,g3⟩:=HRW.out k hk
     have q:∀o,W.cell? ⟨TB,o,none⟩=wr.cell? ⟨TB,o,none⟩:=λo=>(hst.cell (by omega) hneT).trans (hbA.cell (p:=⟨TB,o,none⟩) (by simp only;omega));exact⟨(q _).trans g1,(q _).trans g2,(q _).trans g3⟩
    ·exact(HBE.out.trans (hbA.mono (by omega))).grown hst.1 (by omega) (λg hg=>(HOW.out.lt g hg).1)
   rw[<-hN];have d1:w7.cell? ⟨N,1,none⟩=some (.int .i64 nd.level):=(HCN.out _ _ HS7.out).1 1;have hNT:TB<N:=(by omega);clear ho7 hg7 hw7 hrowA hbA hneN hneT c1 c2 c3 c4 c5 c6 hWA hN;obtain⟨lev,hlev⟩:∃lev:Nat,nd.level=(lev:Int):=⟨nd.level.toNat,by have:=Fl.inR_nat HFT.out.2.1;omega⟩;have hlev31:lev<2147483648:=(by have:=Fl.inR_nat HFT.out.2.1;omega);have HLV:Hid (nd.level=(lev:Int)):=hlev;rw[hlev]at d1;obtain⟨ys7,hys7⟩:∃ys7,ys7=xs++[UInt8.ofNat k]:=⟨_,rfl⟩;rw[<-hys7]at HO7;have hyl7:ys7.length<=41001:=(by rw[hys7];simp;omega);have HY7:Hid (ys7=xs++[UInt8.ofNat k]):=hys7;have hz7:N<w7.heap.size:=(HCN.out _ _ HS7.out).2.2.2.1;clear hys7 hlev
   have HAN:Hid (Calls prog 98 #[v7,.int .i64 lev] w7 λe w'=>∃v',e=.returned v'/\w'.ownsRow (TB+1) 5 1 v' (ys7++Fl.coded lev).length ((ys7++Fl.coded lev).map Zb)/\Below (TB+1) w7 w'/\Yo w7 v7 w' v'):=
    Ui lev hlev31 (TB+1) ys7 v7 w7 (.inl HO7.out) (by omega) (by omega)
   go_wp2_with fail
   refine(HAN.out).mono ?_;rintro e w8 ⟨v8,rfl,ho8,_,hs8⟩;have HS8:Hid (Yo WA u4 w8 v8):=HS7.out.trans hs8;have HO8:Hid (w8.ownsRow (TB+1) 5 1 v8 (ys7++Fl.coded lev).length ((ys7++Fl.coded lev).map Zb)):=ho8;clear HAN ho8 hs8 d1 HO7 HS7 hz7;have hR8:=(HCN.out _ _ HS8.out).2.1 k h8;have hz8:N<w8.heap.size:=(HCN.out _ _ HS8.out).2.2.2.1;have e1:w8.cell? ⟨TB,k*4+1,none⟩=some (.int .i64 (Ys k:Nat)):=(by have:=hR8.1;simpa using this);have hnf:Ys k<=3:=(by unfold Ys;(repeat' split)<;>omega);have HPL:Hid (Calls prog 47 #[.pointer (some ⟨TB,k*4,none⟩),.pointer (some ⟨N,0,none⟩)] w8 λe w'=>e=.returned (.slice (some ⟨w8.heap.size,0,none⟩) (Ys k) 3)/\w'=(w8.alloc (.cells #[.pointer (some ⟨N,2,none⟩),.pointer (some ⟨N,3,none⟩),.pointer (some ⟨N,4,none⟩)] 126)).drew):=zs3 TB (k*4) N (Ys k) w8 hnf (by omega) e1;clear hR8 e1
   go_wp2_with fail
   refine(HPL.out).mono ?_;rintro e w9 ⟨rfl,hw9⟩;obtain⟨PB,hPB⟩:∃PB,PB=w8.heap.size:=⟨_,rfl⟩;have hz9:w9.heap.size=PB+1:=(by rw[hw9,hPB];simp);have hrow9:w9.heap[PB]?=some (.cells #[.pointer (some ⟨N,2,none⟩),.pointer (some ⟨N,3,none⟩),.pointer (some ⟨N,4,none⟩)] 126 (0,0)):=(by rw[hw9,hPB];exact heap_alloc_last _ _);have hb89:Below w8.heap.size w8 w9:=(by rw[hw9];exact((Below.refl _ _).alloc (Nat.le_refl _) _).drew);have HS9:Hid (Yo WA u4 w9 v8):=HS8.out.below hb89;have HO9:Hid (w9.ownsRow (TB+1) 5 1 v8 (ys7++Fl.coded lev).length ((ys7++Fl.coded lev).map Zb)):=HO8.out.kept (row:=none) ⟨hb89.os,hb89.tape,hb89.output,hb89.size,λk hk _=>hb89.block k hk⟩ (by cases v8.ownBlock<;>simp)
   have hneP:some PB≠v8.ownBlock:=λhh=>by have:=(HO8.out.lt PB hh.symm).2;omega
   have HCP:Hid (∀W V,Yo w9 v8 W V->∀o,W.cell? ⟨PB,o,none⟩=#[Value.pointer (some ⟨N,2,none⟩),.pointer (some ⟨N,3,none⟩),.pointer (some ⟨N,4,none⟩)][o]?):=λW V hst o=>(hst.cell (by omega) hneP).trans (cell_of_row _ _ _ _ _ _ hrow9);rw[<-hPB];clear hw9 hrow9 hb89 hneP HO8 HS8 HPL hPB hz8
   go_wp2_with fail
   go_loopw [4,44] (λv i wz=>∃(m:Nat) (zs:List UInt8),m<=Ys k/\i=.int .i64 m/\zs=ys7++(Fl.coded lev++Fl.codedAll ([nd.a,nd.b,nd.c].take m))/\wz.ownsRow (TB+1) 5 1 v zs.length (zs.map Zb)/\Yo w9 v8 wz v) (λ_ i _=>Ys k - (intOf i).toNat)
   case atStart=>exact⟨0,ys7++Fl.coded lev,by omega,rfl,by simp[Fl.codedAll],HO9.out,Yo.refl _ _⟩
   case round=>
    clear HO9;obtain⟨m,zs,hm,rfl,hzs,hown,hstp⟩:=hrel;have HZS:Hid (zs=ys7++(Fl.coded lev++Fl.codedAll ([nd.a,nd.b,nd.c].take m))):=hzs;have HOZ:Hid (wr.ownsRow (TB+1) 5 1 u4 zs.length (zs.map Zb)):=hown;have HSZ:Hid (Yo w9 v8 wr u4):=hstp;have hzl:zs.length<=41060:=by
     have h1:=Fl.coded_len lev;have h2:=Fl.codedAll_len ([nd.a,nd.b,nd.c].take m);have h3:([nd.a,nd.b,nd.c].take m).length<=3:=(by simp;omega);rw[hzs];simp only[List.length_append];omega
    have hSA:=HS9.out.trans hstp;have hcc:=HCN.out _ _ hSA;have hzN:N<wr.heap.size:=hcc.2.2.2.1;have hbase:TB+1<=wr.heap.size:=(by omega);clear hzs hown
    by_cases hmlt:m<Ys k
    ·have hm3:m<3:=by omega
     have p1:wr.cell? ⟨PB,m,none⟩=some (.pointer (some ⟨N,2+m,none⟩)):=by
      rw[HCP.out _ _ hstp m]
      have:m=0\/m=1\/m=2:=by omega
      rcases this with rfl|rfl|rfl<;>rfl
     have p2:wr.cell? ⟨N,2+m,none⟩=some (.int .i64 ([nd.a,nd.b,nd.c].getD m 0)):=by
      rw[hcc.1 (2+m)]
      have:m=0\/m=1\/m=2:=by omega
      rcases this with rfl|rfl|rfl<;>rfl
     have hinr:Fl.inR ([nd.a,nd.b,nd.c].getD m 0)=true:=by
      obtain⟨_,_,ha,hb,hc,_⟩:=HFT.out
      have:m=0\/m=1\/m=2:=by omega
      rcases this with rfl|rfl|rfl<;>assumption
     have hinr2:=Fl.inR_nat hinr;obtain⟨x,hx⟩:∃x:Nat,(x:Int)=[nd.a,nd.b,nd.c].getD m 0:=⟨([nd.a,nd.b,nd.c].getD m 0).toNat,by omega⟩;rw[<-hx]at p2;have hx31:x<2147483648:=(by omega);have HX:Hid ((x:Int)=[nd.a,nd.b,nd.c].getD m 0):=hx;have hmi:(m:Int)<(Ys k:Int):=(by omega)
     have HAX:Hid (Calls prog 98 #[u4,.int .i64 x] wr λe w'=>∃v',e=.returned v'/\w'.ownsRow (TB+1) 5 1 v' (zs++Fl.coded x).length ((zs++Fl.coded x).map Zb)/\Below (TB+1) wr w'/\Yo wr u4 w' v'):=
      Ui x hx31 (TB+1) zs u4 wr (.inl HOZ.out) (by omega) hbase
     clear hinr hinr2 hx hcc hSA hstp
     go_wp2_with fail
     refine(HAX.out).mono ?_;rintro e w10 ⟨v10,rfl,ho10,_,hs10⟩;have HO10:Hid (w10.ownsRow (TB+1) 5 1 v10 (zs++Fl.coded x).length ((zs++Fl.coded x).map Zb)):=ho10;have HS10:Hid (Yo w9 v8 w10 v10):=HSZ.out.trans hs10;clear ho10 hs10 p1 p2 HAX;go_wp2;refine⟨⟨m+1,zs++Fl.coded x,by omega,by go_num,?_,HO10.out,HS10.out⟩,by simp[intOf];omega⟩;rw[Fl.take_snocI _ m (by simp;omega),<-HX.out,Fl.codedAll_snoc,HZS.out];simp[List.append_assoc]
    ·have hmk:m=Ys k:=by omega
     have hR:=hcc.2.1 k h8;have e2:wr.cell? ⟨TB,k*4+2,none⟩=some (.bool (k==7)):=(by have:=hR.2.1;simpa using this);have e5:wr.cell? ⟨N,5,none⟩=some (.slice lao nd.list.length lcap):=hcc.1 5;have HBZ:Hid (Below (TB+1) W4 wr):=hcc.2.2.1;have hmi:¬(m:Int)<(Ys k:Int):=(by omega)
     by_cases h7:k=7
     ·subst h7
      have hwN:Below w.heap.size w wr:=HB4.out.trans (HBZ.out.mono (by omega));have HALL:Hid (Calls prog 97 #[u4,.slice lao nd.list.length lcap] wr λe w'=>∃v',e=.returned v'/\w'.ownsRow (TB+1) 5 1 v' (zs++(Fl.coded nd.list.length++Fl.codedAll nd.list)).length ((zs++(Fl.coded nd.list.length++Fl.codedAll nd.list)).map Zb)/\Below (TB+1) wr w'/\Yo wr u4 w' v'):=by
       obtain⟨_,_,_,_,_,hl16,hlall⟩:=HFT.out;refine zt6 nd.list hlall (by omega) B (TB+1) (by omega) _ zs u4 wr (HLI.out wr HBZ.out) (.inl HOZ.out) (by omega) hbase
      have hb7:((7:Nat)==7)=true:=rfl;rw[hb7]at e2;clear hcc hSA hstp hR
      go_wp2_with fail
      refine(HALL.out).mono ?_;rintro e w10 ⟨v10,rfl,ho10,hb10,hs10⟩;have HO10:Hid (w10.ownsRow (TB+1) 5 1 v10 (zs++(Fl.coded nd.list.length++Fl.codedAll nd.list)).length ((zs++(Fl.coded nd.list.length++Fl.codedAll nd.list)).map Zb)):=ho10;have HB10:Hid (Below (TB+1) W4 w10):=HBZ.out.trans hb10;clear ho10 hb10 hs10 e2 e5 HALL;go_wp2;refine⟨⟨j+1,zs++(Fl.coded nd.list.length++Fl.codedAll nd.list),by omega,by go_num,?_,HO10.out,HB10.out⟩,by simp[intOf];omega⟩;rw[Fl.take_snocN ns j hlt,Fl.allBytes_snoc,<-HND.out,zj7 HK.out HLV.out,HZS.out,HY7.out,HXS.out,hmk];simp[Fl.codedAll,Ys,List.append_assoc]
     ·have hb7:(k==7)=false:=by simpa using h7
      rw[hb7]at e2;have HFIN:Hid (zs=Fl.headBytes ls ns++Fl.allBytes (ns.take (j+1))):=by
       show zs=_;rw[Fl.take_snocN ns j hlt,Fl.allBytes_snoc,<-HND.out,zgz HK.out h8 h7 HLV.out,HZS.out,HY7.out,HXS.out,hmk];simp[List.append_assoc]
      clear hcc hSA hstp hR;go_wp2;exact⟨⟨j+1,zs,by omega,by go_num,HFIN.out,HOZ.out,HBZ.out⟩,by simp[intOf];omega⟩
  ·have hjl:j=ns.length:=by omega
   have HFIN:Hid (xs=Fl.headBytes ls ns++Fl.allBytes ns):=by
    show xs=_;rw[HXS.out,List.take_of_length_le (by omega)]
   go_wp2;go_ret;refine⟨u4,rfl,?_,HB4.out.trans (HBE.out.mono (by omega))⟩;rw[<-HFIN.out];exact zny HOW.out (by omega)
def zax(r:List UInt8×Bool×Int)(w:World)(e:Ending)(w':World):Prop:=
 Below w.heap.size w w'/\
 (r.2.1=true->∃va n c,e=.returned (.tuple #[.slice va n c,.nilIface])/\w'.ownsRow w.heap.size 5 1 (.slice va n c) r.1.length (r.1.map Zb))/\
 (r.2.1=false->(r.2.2<0->e=.returned (.tuple #[.slice none 0 0,.iface 27 (.int .i64 8)]))/\(0<=r.2.2->∃q,e=.returned (.tuple #[.slice none 0 0,.iface 76 (.pointer (some ⟨q,0,none⟩))])/\w'.cell? ⟨q,0,none⟩=some (.int .i64 8)/\w'.cell? ⟨q,1,none⟩=some (.int .i64 r.2.2)))
def zc1{ls:List Int}{ns:List Fl.Node}(h:(decide (ls.length<=4) && (ls.all Fl.inR && (decide (1<=ns.length) && decide (ns.length<=200))))=false):Fl.encode ls ns=([],false,-1):=by
 unfold Fl.encode
 by_cases h1:4<ls.length\/ns.length=0\/200<ns.length
 ·rw[if_pos h1]
 ·rw[if_neg h1]
  have ha:ls.all Fl.inR=false:=by
   have e1:decide (ls.length<=4)=true:=(by simp;omega);have e2:decide (1<=ns.length)=true:=(by simp;omega);have e3:decide (ns.length<=200)=true:=(by simp;omega);rw[e1,e2,e3]at h;simpa using h
  rw[if_pos ha]
def yw2{ls:List Int}{ns:List Fl.Node}(h:(decide (ls.length<=4) && (ls.all Fl.inR && (decide (1<=ns.length) && decide (ns.length<=200))))=true):ls.length<=4/\ls.all Fl.inR=true/\1<=ns.length/\ns.length<=200/\Fl.encode ls ns=if 0<=Fl.shaped ns then([],false,Fl.shaped ns) else(Fl.headBytes ls ns++Fl.allBytes ns,true,-1):=by
 simp only[Bool.and_eq_true,decide_eq_true_eq]at h;refine⟨h.1,h.2.1,h.2.2.1,h.2.2.2,?_⟩;unfold Fl.encode;rw[if_neg (by omega),if_neg (by rw[h.2.1];simp)]
def za0(ls:List Int)(ns:List Fl.Node)(la na:Option Addr)(lc nc:Nat)(w:World)(hl:Zy w.heap.size w (.slice la ls.length lc) ls)(hn:Zo w.heap.size w (.slice na ns.length nc) ns):
  Calls prog 32 #[.agg #[.slice la ls.length lc,.slice na ns.length nc]] w (zax (Fl.encode ls ns) w):=by
 have HL:Hid (Zy w.heap.size w (.slice la ls.length lc) ls):=hl;have HN:Hid (Zo w.heap.size w (.slice na ns.length nc) ns):=hn;clear hl hn
 go_enter func32,ntmps32
 go_wp2_with fail
 obtain⟨W1,hW1⟩:∃W1,W1=w.alloc (.cells #[.slice la ls.length lc,.slice na ns.length nc] 26):=⟨_,rfl⟩;rw[<-hW1]
 have hb1:Below w.heap.size w W1:=by rw[hW1];exact(Below.refl _ _).alloc (Nat.le_refl _) _
 have hz1:W1.heap.size=w.heap.size+1:=by rw[hW1];simp
 have hp:∀i,W1.cell? ⟨w.heap.size,i,none⟩=#[Value.slice la ls.length lc,.slice na ns.length nc][i]?:=λi=>by rw[hW1];exact World.cell?_alloc_new _ _ _ _
 have HP:Hid (∀i,W1.cell? ⟨w.heap.size,i,none⟩=#[Value.slice la ls.length lc,.slice na ns.length nc][i]?):=hp;have HB1:Hid (Below w.heap.size w W1):=hb1
 have HSF:Hid (Calls prog 50 #[.agg #[.slice la ls.length lc,.slice na ns.length nc]] W1 λe w'=>e=.returned (.bool (decide (ls.length<=4) && (ls.all Fl.inR && (decide (1<=ns.length) && decide (ns.length<=200)))))/\Below W1.heap.size W1 w'):=
  zc0 ls ns la na lc nc w.heap.size W1 (HL.out.below hb1) (HN.out.below hb1) (by omega)
 clear hW1 hb1 hp;refine(HSF.out).mono ?_;rintro e w2 ⟨rfl,hb2⟩;have HB2:Hid (Below W1.heap.size W1 w2):=hb2;have HBW2:Hid (Below w.heap.size w w2):=HB1.out.trans (hb2.mono (by omega));have p0:w2.cell? ⟨w.heap.size,0,none⟩=some (.slice la ls.length lc):=(hb2.cell (p:=⟨w.heap.size,0,none⟩) (by simp only;omega)).trans (HP.out 0);have p1:w2.cell? ⟨w.heap.size,1,none⟩=some (.slice na ns.length nc):=(hb2.cell (p:=⟨w.heap.size,1,none⟩) (by simp only;omega)).trans (HP.out 1);clear hb2 HSF
 cases hfit:(decide (ls.length<=4) && (ls.all Fl.inR && (decide (1<=ns.length) && decide (ns.length<=200)))) with
 |false=>
  have HE:Hid (Fl.encode ls ns=([],false,-1)):=zc1 hfit;clear hfit;go_wp2
  go_ret2
  refine⟨HBW2.out,λh=>?_,λ_=>⟨λ_=>rfl,λh=>?_⟩⟩
  ·rw[HE.out]at h;cases h
  ·rw[HE.out]at h;simp at h
 |true=>
  obtain⟨h4,hall,h1,h200,henc⟩:=yw2 hfit;have HE:Hid (Fl.encode ls ns=if 0<=Fl.shaped ns then([],false,Fl.shaped ns) else(Fl.headBytes ls ns++Fl.allBytes ns,true,-1)):=henc;have HA:Hid (ls.all Fl.inR=true):=hall;have HFW:Hid (Calls prog 51 #[.slice na ns.length nc] w2 λe w'=>e=.returned (.int .i64 (Fl.firstBad ns))/\Below w2.heap.size w2 w'):=zj6 ns _ w2 ((HN.out.below HBW2.out).mono HBW2.out.size) (by omega);have hfb:=Fl.firstBad_lt ns;clear hfit henc hall
  go_wp2_with fail
  refine(HFW.out).mono ?_;rintro e w3 ⟨rfl,hb3⟩;have HB3:Hid (Below w.heap.size w w3):=HBW2.out.trans (hb3.mono HBW2.out.size);have hz2:w.heap.size<w2.heap.size:=(by have:=HB2.out.size;omega);have r0:w3.cell? ⟨w.heap.size,0,none⟩=some (.slice la ls.length lc):=(hb3.cell (p:=⟨w.heap.size,0,none⟩) hz2).trans p0;have r1:w3.cell? ⟨w.heap.size,1,none⟩=some (.slice na ns.length nc):=(hb3.cell (p:=⟨w.heap.size,1,none⟩) hz2).trans p1;have hz3:w.heap.size<w3.heap.size:=Nat.lt_of_lt_of_le hz2 hb3.size;clear hb3 HFW p0 p1 HB2 HBW2
  by_cases hbad:0<=Fl.firstBad ns
  ·have HSH:Hid (Fl.encode ls ns=([],false,Fl.firstBad ns)):=by
    show Fl.encode ls ns=_;rw[HE.out,Fl.shaped_bad ns hbad,if_pos hbad]
   obtain⟨x,hx⟩:∃x,x=Fl.firstBad ns:=⟨_,rfl⟩;rw[<-hx]at hbad hfb HSH⊢;clear hx;have hb':¬x<0:=(by omega);go_wp2
   go_ret2
   refine⟨HB3.out.alloc (by omega) _,λh=>?_,λ_=>⟨λh=>?_,λ_=>⟨w3.heap.size,rfl,by simp,?_⟩⟩⟩
   ·rw[HSH.out]at h;cases h
   ·rw[HSH.out]at h;simp only at h;omega
   ·rw[HSH.out];simp
  ·have hbn:Fl.firstBad ns<0:=by omega
   have hgood:=Fl.allGood_bad ns hbn;have HSU:Hid (Fl.shaped ns=Fl.firstUn ns):=Fl.shaped_un ns hbn
   have HFU:Hid (Calls prog 52 #[.slice na ns.length nc] w3 λe w'=>e=.returned (.int .i64 (Fl.firstUn ns))/\Below w3.heap.size w3 w'):=
    zvw ns _ w3 ((HN.out.below HB3.out).mono HB3.out.size) (by omega) (λi hi=>(Fl.sound_fits (hgood i hi).1).2) (λi hi p hp=>by have:=Fl.good_lt (hgood i hi) hp;omega)
   have HGD:Hid (∀k,k<ns.length->Fl.sound (Fl.nth ns k)=true):=λk hk=>(hgood k hk).1;obtain⟨x,hx⟩:∃x,x=Fl.firstBad ns:=⟨_,rfl⟩;rw[<-hx]at hbn hfb⊢;clear hgood hbad hx
   go_wp2_with fail
   refine(HFU.out).mono ?_;rintro e w4 ⟨rfl,hb4⟩;have HB4:Hid (Below w.heap.size w w4):=HB3.out.trans (hb4.mono HB3.out.size);have s0:w4.cell? ⟨w.heap.size,0,none⟩=some (.slice la ls.length lc):=(hb4.cell (p:=⟨w.heap.size,0,none⟩) hz3).trans r0;have s1:w4.cell? ⟨w.heap.size,1,none⟩=some (.slice na ns.length nc):=(hb4.cell (p:=⟨w.heap.size,1,none⟩) hz3).trans r1;have hz4:w.heap.size<w4.heap.size:=Nat.lt_of_lt_of_le hz3 hb4.size;clear hb4 HFU r0 r1;obtain⟨y,hy⟩:∃y,y=Fl.firstUn ns:=⟨_,rfl⟩;rw[<-hy]at HSU⊢;clear hy
   by_cases hy0:0<=y
   ·have HSH:Hid (Fl.encode ls ns=([],false,y)):=by
     show Fl.encode ls ns=_;rw[HE.out,HSU.out,if_pos hy0]
    go_wp2
    go_ret2
    refine⟨HB4.out.alloc (by omega) _,λh=>?_,λ_=>⟨λh=>?_,λ_=>⟨w4.heap.size,rfl,by simp,?_⟩⟩⟩
    ·rw[HSH.out]at h;cases h
    ·rw[HSH.out]at h;simp only at h;omega
    ·rw[HSH.out];simp
   ·have HSH:Hid (Fl.encode ls ns=(Fl.headBytes ls ns++Fl.allBytes ns,true,-1)):=by
     show Fl.encode ls ns=_;rw[HE.out,HSU.out,if_neg hy0]
    have HWR:Hid (Calls prog 53 #[.agg #[.slice la ls.length lc,.slice na ns.length nc]] w4 λe w'=>∃v',e=.returned v'/\w'.ownsRow w4.heap.size 5 1 v' (Fl.headBytes ls ns++Fl.allBytes ns).length ((Fl.headBytes ls ns++Fl.allBytes ns).map Zb)/\Below w4.heap.size w4 w'):=
     ytz ls ns la na lc nc w.heap.size w4 (by omega) (HL.out.below HB4.out) (HN.out.below HB4.out) h4 HA.out h200 HGD.out
    obtain⟨bl,hbl⟩:∃bl,bl=Fl.headBytes ls ns++Fl.allBytes ns:=⟨_,rfl⟩;rw[<-hbl]at HSH HWR;clear hbl
    go_wp2_with fail
    refine(HWR.out).mono ?_;rintro e w5 ⟨v',rfl,ho5,hb5⟩;obtain⟨va,vc,rfl⟩:=Xq ho5;have HO5:Hid (w5.ownsRow w4.heap.size 5 1 (.slice va bl.length vc) bl.length (bl.map Zb)):=ho5;have HB5:Hid (Below w.heap.size w w5):=HB4.out.trans (hb5.mono HB4.out.size);clear ho5 hb5 HWR s0 s1;go_wp2
    go_ret2
    refine⟨HB5.out,λ_=>⟨_,_,_,rfl,?_⟩,λh=>?_⟩
    ·rw[HSH.out];exact zny (base:=w4.heap.size) HO5.out (by omega)
    ·rw[HSH.out]at h;cases h
def yw3(ls:List Int)(ns:List Fl.Node)(h:(Fl.encode ls ns).2.2<0):(Fl.encode ls ns).2.2= -1:=by
 unfold Fl.encode at*
 split at h
 ·rename_i hc;rw[if_pos hc]
 ·rename_i hc
  rw[if_neg hc]
  split at h
  ·rename_i hd;rw[if_pos hd]
  ·rename_i hd
   rw[if_neg hd]
   split at h
   ·rename_i he;simp only at h;omega
   ·rename_i he;rw[if_neg he]
def yty(res:Nat×Int×List UInt8)(w:World)(e:Ending)(w':World):Prop:=
  Below w.heap.size w w'/\
  ((res.1=0/\res.2.1= -1/\∃va n c,e=.returned (.tuple #[.slice va n c,.nilIface])/\w'.ownsRow w.heap.size 5 1 (.slice va n c) res.2.2.length (res.2.2.map Zb))\/
   (res=(8,-1,[])/\e=.returned (.tuple #[.slice none 0 0,.iface 27 (.int .i64 8)]))\/
   (res.1≠0/\res.2.2=[]/\∃a,e=.returned (.tuple #[.slice none 0 0,.iface 76 (.pointer (some ⟨a,0,none⟩))])/\w'.cell? ⟨a,0,none⟩=some (.int .i64 res.1)/\w'.cell? ⟨a,1,none⟩=some (.int .i64 res.2.1)))
def za1{w:World}{l:List UInt8}(hl:l.length<=100000)(hg:2<w.heap.size)(hm:Yx w):
  Calls prog 26 #[.string ⟨l.toArray⟩] w (yty (Fl.inferE (Fl.readProg l)) w):=by
 have HRD:Hid (Calls prog 34 #[.string ⟨l.toArray⟩] w (zv6 (Fl.readProg l) w)):=zh1 hl hg hm;have HOK:Hid ((Fl.readProg l).1=0->(Fl.readProg l).2.2.Ok):=λh=>(Fl.readProg_ok l h).1;have HLV:Hid ((Fl.readProg l).1=0->(Fl.readProg l).2.2.Lv):=Fl.readProg_Lv l;obtain⟨q,hq⟩:∃q,q=Fl.readProg l:=⟨_,rfl⟩;rw[<-hq]at HRD HOK HLV⊢;clear hq hl hg hm
 go_enter func26,ntmps26
 go_wp2_with fail
 refine HRD.out.mono ?_;rintro e w1 ⟨hB1,hcase⟩;have HB1:Hid (Below w.heap.size w w1):=hB1;clear hB1 HRD;rcases hcase with⟨h0,Pb,rfl,hp⟩|⟨h0,a,rfl,a0,a1⟩
 ·have HP:Hid (Ug (λb=>b<w1.heap.size) w1 Pb q.2.2):=hp.kept (λb hb=>hb.2) (λ_ _=>rfl)
  have H0:Hid (q.1=0):=h0;have HIN:Hid (Calls prog 35 #[.pointer (some ⟨Pb,0,none⟩)] w1 (yt2 (Fl.infer q.2.2) w1)):=yx3 HP.out (HOK.out h0) (HLV.out h0);clear hp h0 HOK HLV HP
  go_wp2_with fail
  refine HIN.out.mono ?_;rintro e w2 ⟨hB2,hcase⟩;have HB2:Hid (Below w.heap.size w w2):=HB1.out.trans (hB2.mono HB1.out.size);clear hB2 HIN;rcases hcase with⟨h7,a,rfl,a0,a1⟩|⟨h7,la,n,lc,na,n',nc,rfl,hi,hn⟩
  ·have HE:Hid (Fl.inferE q=(7,((Fl.infer q.2.2).1:Int),[])):=by show _=_;unfold Fl.inferE;rw[if_neg (by rw[H0.out];simp),if_pos h7]
   have ha:a<w2.heap.size:=World.block_lt_of_cell? w2 _ a0;have A0:Hid (w2.cell? ⟨a,0,none⟩=some (.int .i64 7)):=a0;have A1:Hid (w2.cell? ⟨a,1,none⟩=some (.int .i64 (Fl.infer q.2.2).1)):=a1;clear h7 a0 a1;go_wp2
   go_ret2
   refine⟨HB2.out.alloc HB2.out.size _,.inr (.inr ⟨by rw[HE.out];simp,by rw[HE.out],a,rfl,?_,?_⟩)⟩
   ·rw[HE.out];exact(World.cell?_alloc_lt _ _ _ ha).trans A0.out
   ·rw[HE.out];exact(World.cell?_alloc_lt _ _ _ ha).trans A1.out
  ·obtain⟨ls,hls⟩:∃ls,ls=(Fl.infer q.2.2).2.1:=⟨_,rfl⟩
   obtain⟨ns,hns⟩:∃ns,ns=(Fl.infer q.2.2).2.2:=⟨_,rfl⟩;have HE:Hid (Fl.inferE q=if(Fl.encode ls ns).2.1=false then(8,(Fl.encode ls ns).2.2,[]) else(0,-1,(Fl.encode ls ns).1)):=(by show _=_;unfold Fl.inferE;rw[if_neg (by rw[H0.out];simp),if_neg (by omega),<-hls,<-hns]);rw[<-hls]at hi;rw[<-hns]at hn
   obtain rfl:n=ls.length:=by obtain⟨a,c,e⟩:=Jn hi;injection e with e1 e2 e3
   obtain rfl:n'=ns.length:=by obtain⟨a,c,e,-⟩:=hn;injection e with e1 e2 e3
   have HEN:Hid (∀W,Below w2.heap.size w2 W->Calls prog 32 #[.agg #[.slice la ls.length lc,.slice na ns.length nc]] W (zax (Fl.encode ls ns) W)):=λW hW=>za0 ls ns la na lc nc W ((hi.below hW).mono hW.size) ((hn.below hW).mono hW.size);clear h7 hi hn hls hns
   go_wp2_with fail
   refine(HEN.out _ ((Below.refl _ _).alloc (Nat.le_refl _) _)).mono ?_;rintro e w3 ⟨hB3,hgood,hbad⟩;have HB3:Hid (Below w.heap.size w w3):=(HB2.out.alloc HB2.out.size _).trans (hB3.mono (by have:=HB2.out.size;simp;omega));have hsz:w.heap.size<=w2.heap.size:=HB2.out.size;clear hB3 HEN
   cases hr:(Fl.encode ls ns).2.1 with
   |true=>
    obtain⟨va,n,c,rfl,ho⟩:=hgood hr;have HO:Hid (w3.ownsRow w.heap.size 5 1 (.slice va n c) (Fl.encode ls ns).1.length ((Fl.encode ls ns).1.map Zb)):=zny (base':=w.heap.size) ho (by simp;omega);have HZ:Hid (Fl.inferE q=(0,-1,(Fl.encode ls ns).1)):=(by show _=_;rw[HE.out,if_neg (by rw[hr];simp)]);clear hgood hbad hr ho HE;go_wp2
    go_ret2
    refine⟨HB3.out,.inl ⟨by rw[HZ.out],by rw[HZ.out],va,n,c,rfl,?_⟩⟩;rw[HZ.out];exact HO.out
   |false=>
    have HZ:Hid (Fl.inferE q=(8,(Fl.encode ls ns).2.2,[])):=(by show _=_;rw[HE.out,if_pos hr])
    by_cases h0:(Fl.encode ls ns).2.2<0
    ·obtain rfl:=(hbad hr).1 h0
     have H1:Hid ((Fl.encode ls ns).2.2= -1):=yw3 ls ns h0;clear hgood hbad hr h0 HE;go_wp2
     go_ret2
     exact⟨HB3.out,.inr (.inl ⟨by rw[HZ.out,H1.out],rfl⟩)⟩
    ·obtain⟨a,rfl,q0,q1⟩:=(hbad hr).2 (by omega)
     have HQ:Hid (w3.cell? ⟨a,0,none⟩=some (.int .i64 8)/\w3.cell? ⟨a,1,none⟩=some (.int .i64 (Fl.encode ls ns).2.2)):=⟨q0,q1⟩;clear hgood hbad hr h0 q0 q1 HE;go_wp2
     go_ret2
     exact⟨HB3.out,.inr (.inr ⟨by rw[HZ.out];simp,by rw[HZ.out],a,rfl,by rw[HZ.out];exact HQ.out.1,by rw[HZ.out];exact HQ.out.2⟩)⟩
 ·have HE:Hid (Fl.inferE q=(q.1,(q.2.1:Int),[])):=by show _=_;unfold Fl.inferE;rw[if_pos h0]
  have H0:Hid (q.1≠0):=h0;clear h0 HOK HLV;go_wp2
  go_ret2
  refine⟨HB1.out,.inr (.inr ⟨by rw[HE.out];exact H0.out,by rw[HE.out],a,rfl,?_,?_⟩)⟩
  ·rw[HE.out];exact a0
  ·rw[HE.out];exact a1
def zr1(res:Nat×Int×List UInt8)(w:World)(e:Ending)(w':World):Prop:=
 Below w.heap.size w w'/\∃va n c,e=.returned (.tuple #[.slice va n c,.int .i64 res.1,.int .i64 res.2.1])/\w'.ownsRow w.heap.size 5 1 (.slice va n c) res.2.2.length (res.2.2.map Zb)
def zo7{w:World}{l:List UInt8}(hE:Vs w)(hl:l.length<=100000)(hg:2<w.heap.size)(hm:Yx w):
  Calls prog 14 #[.string ⟨l.toArray⟩] w (zr1 (Fl.inferE (Fl.readProg l)) w):=by
 have HC:Hid (Calls prog 26 #[.string ⟨l.toArray⟩] w (yty (Fl.inferE (Fl.readProg l)) w)):=za1 hl hg hm;have HEB:Hid (∀o,Below w.heap.size w o->Vs o):=λo ho=>(ho.cell (p:=⟨0,0,none⟩) (World.block_lt_of_cell? w _ hE)).trans hE;obtain⟨res,hres⟩:∃res,res=Fl.inferE (Fl.readProg l):=⟨_,rfl⟩;rw[<-hres]at HC⊢;clear hl hg hm hE hres
 go_enter func14,ntmps14
 go_wp2_with fail
 refine HC.out.mono ?_;rintro e w1 ⟨hB,hc⟩;have HB:Hid (Below w.heap.size w w1):=hB;clear hB HC;rcases hc with⟨h0,h1,va,n,c,rfl,ho⟩|⟨rfl,rfl⟩|⟨h0,h1,a,rfl,a0,a1⟩
 ·obtain⟨r0,r1,r2⟩:=res
  simp only at h0 h1;subst h0;subst h1;have HO:Hid (w1.ownsRow w.heap.size 5 1 (.slice va n c) r2.length (r2.map Zb)):=ho;clear ho
  go_wp2_with fail
  refine(zn8 _).mono ?_;rintro e w2 ⟨rfl,hB2⟩;have HB2:Hid (Below w.heap.size w w2):=HB.out.trans (hB2.mono HB.out.size);have HO2:Hid (w2.ownsRow w.heap.size 5 1 (.slice va n c) r2.length (r2.map Zb)):=HO.out.kept (row:=none) ⟨hB2.os,hB2.tape,hB2.output,hB2.size,λk hk _=>hB2.block k hk⟩ (by cases (Value.slice va n c).ownBlock<;>simp);clear hB2;go_wp2
  go_ret3
  exact⟨HB2.out,va,n,c,rfl,HO2.out⟩
 ·go_wp2_with fail
  refine(zk1 8 _ (HEB.out _ HB.out)).mono ?_;rintro e w2 ⟨rfl,hB2⟩;have HB2:Hid (Below w.heap.size w w2):=HB.out.trans (hB2.mono HB.out.size);clear hB2;go_wp2
  go_ret3
  exact⟨HB2.out,none,0,0,rfl,World.ownsRow_nil _ _ _ _⟩
 ·obtain⟨n,p,r2⟩:=res
  simp only at h1;subst h1;have A0:Hid (w1.cell? ⟨a,0,none⟩=some (.int .i64 (n:Int))):=a0;have A1:Hid (w1.cell? ⟨a,1,none⟩=some (.int .i64 p)):=a1;clear a0 a1 h0
  go_wp2_with fail
  refine(zj3 a 0 (n:Int) p _ (HEB.out _ HB.out) A0.out A1.out).mono ?_;rintro e w2 ⟨rfl,hB2⟩;have HB2:Hid (Below w.heap.size w w2):=HB.out.trans (hB2.mono HB.out.size);clear hB2;go_wp2
  go_ret3
  exact⟨HB2.out,none,0,0,rfl,World.ownsRow_nil _ _ _ _⟩
def zy4(w:World)(ao:Option Addr)(s:List UInt8):Prop:=s≠[]->∃bb bo,ao=some ⟨bb,bo,none⟩/\bb<w.heap.size/\∀i,i<s.length->w.cell? ⟨bb,bo+i,none⟩=some (.int .u8 (s.getD i 0).toNat)
def zy4.below{w w':World}{ao:Option Addr}{s:List UInt8}(h:zy4 w ao s)(hb:Below w.heap.size w w'):zy4 w' ao s:=λhne=>by
 obtain⟨bb,bo,e,h1,h2⟩:=h hne;exact⟨bb,bo,e,Nat.lt_of_lt_of_le h1 hb.size,λi hi=>(hb.cell (p:=⟨bb,bo+i,none⟩) h1).trans (h2 i hi)⟩
def zy4.of_own{w:World}{base:Nat}{ao:Option Addr}{n c:Nat}{s:List UInt8}(h:w.ownsRow base 5 1 (.slice ao n c) s.length (s.map Zb)):n=s.length/\zy4 w ao s:=by
 rcases h.2 with⟨e,h0⟩|⟨g,cap,cur,e,hb,hg,h3,h4,h5,h6⟩
 ·injection e with e1 e2
  exact⟨by omega,λhne=>absurd (List.eq_nil_of_length_eq_zero h0) hne⟩
 ·injection e with e1 e2
  refine⟨e2,λ_=>⟨g,0,e1,?_,λi hi=>?_⟩⟩
  ·refine Classical.byContradiction λhn=>?_
   rw[Array.getElem?_eq_none (by omega)]at hg;cases hg
  ·rw[Nat.zero_add,cell_of_row _ _ i _ _ (0,0) hg]
   rw[Nat.mul_one]at h6;have h7:(cur.toList.take s.length)[i]?=(s.map Zb)[i]?:=(by rw[h6]);rw[List.getElem?_take_of_lt hi,List.getElem?_map,List.getElem?_eq_getElem hi]at h7;rw[<-Array.getElem?_toList,h7];simp[Zb,List.getD_eq_getElem?_getD,hi]
structure zp1(w:World):Prop where
 er:Vs w
 mg:2<w.heap.size
 ml:Yx w
def zp1.below{w w':World}(h:zp1 w)(hb:Below w.heap.size w w'):zp1 w':=⟨(hb.cell (p:=⟨0,0,none⟩) (World.block_lt_of_cell? w _ h.er)).trans h.er,by have:=hb.size;have:=h.mg;omega,h.ml.below (Nat.le_refl _) hb⟩
def bytes_in(W:World)(l:List UInt8):zy4 (Lib.bytesWorld W 5 ⟨l.toArray⟩) (some ⟨W.heap.size,0,none⟩) l/\Below W.heap.size W (Lib.bytesWorld W 5 ⟨l.toArray⟩)/\W.heap.size<(Lib.bytesWorld W 5 ⟨l.toArray⟩).heap.size:=by
 have hz:(Lib.bytesWorld W 5 ⟨l.toArray⟩).heap.size=W.heap.size+1:=Lib.bytesWorld_size _ _ _;refine⟨λ_=>⟨W.heap.size,0,rfl,by omega,λi hi=>?_⟩,⟨rfl,rfl,rfl,by omega,λk hk=>Lib.bytesWorld_at_old _ _ _ k hk⟩,by omega⟩;have:=Lib.bytesWorld_cell W 5 ⟨l.toArray⟩ i (by show i<l.toArray.size;simpa using hi);rw[Nat.zero_add,this]
def bytes_back{W:World}{ao:Option Addr}{l:List UInt8}(h:zy4 W ao l)(hne:l≠[])(cap:Nat):(convert 30 9 (.slice ao l.length cap)).run prog W=.ok (.string ⟨l.toArray⟩) W:=by
 obtain⟨b,o,rfl,-,hc⟩:=h hne;refine run_convert_bytes_back _ 30 9 5 ⟨b,o,none⟩ cap l underlying30 underlying5 underlying9 (λj hj=>?_)
 have h2:(⟨b,o,none⟩:Addr).add j=⟨b,o+j,none⟩:=by unfold Addr.add;split<;>simp_all
 rw[h2,hc j hj];simp[List.getD_eq_getElem?_getD,hj]
end Go.Proofs.YtminjljgedopkaaGreatDoor
