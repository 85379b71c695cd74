import Derived.Test.YtminjljgedopkaaGreatDoorM44
import Derived.Test.YtminjljgedopkaaGreatDoorM49
set_option linter.all false
set_option maxRecDepth 100000
set_option maxHeartbeats 40000000
namespace Go.Proofs.YtminjljgedopkaaGreatDoor
open Go.RowKit Go.Proofs.Tryz
def toU32(x:Int):Nat:=(x % 4294967296).toNat
def toU32_lt(x:Int):toU32 x<4294967296:=by unfold toU32;omega
def toU32_cast(x:Int):((toU32 x:Nat):Int)=x % 4294967296:=by unfold toU32;omega
def u32_cell_new{w:World}{v:Value}{t:TypeId}:∀i u,([v]:List Value)[i]?=some u->(w.alloc (.cells #[v] t)).cell? ((⟨w.heap.size,0,none⟩:Addr).add i)=some u:=λi u h=>by
 cases i with
 |zero=>
  have e:(⟨w.heap.size,0,none⟩:Addr).add 0=⟨w.heap.size,0,none⟩:=by unfold Addr.add;split<;>simp_all
  rw[e,World.cell?_alloc_new];exact h
 |succ i=>simp at h
def ksteps_any(l:List UInt8)(xs:List Int)(ao:Option Addr)(cap:Nat)(a c:Int)(W:World)(hk:zt8 W)(hi:Zy W.heap.size W (.slice ao xs.length cap) xs)(hl:l.length<=1000000000000000000)(hx:xs.length<=1000000000000000000)(ha: -9223372036854775808<=a/\a<=9223372036854775807)(hc: -9223372036854775808<=c/\c<=9223372036854775807):
  Calls prog 8 #[.string ⟨l.toArray⟩,.slice ao xs.length cap,.int .i64 a,.int .i64 c] W λe w'=>e=.returned (.bool true)/\Below W.heap.size W w':=by
 have HST:Hid (Calls prog 9 #[] W λe w'=>e=.returned (.bool true)/\Below W.heap.size W w'):=zg2 hk.er hk.mg hk.ml;have HK:Hid (∀V,Below W.heap.size W V->zt8 V):=λV hV=>hk.below hV;obtain⟨n,hn⟩:∃n,n=xs.length:=⟨_,rfl⟩;rw[<-hn]at hi hx⊢;obtain⟨s,hsl⟩:∃s:ByteArray,s=⟨l.toArray⟩:=⟨_,rfl⟩
 have hsz:s.size=l.length:=by rw[hsl];rfl
 rw[<-hsl]
 have hlI:(l.length:Int)<=1000000000000000000:=by omega
 have hnI:(n:Int)<=1000000000000000000:=by omega
 clear hk
 by_cases hbig:8192<l.length+n
 ·have hbI:(8192:Int)<(l.length:Int)+(n:Int):=by omega
  clear hi HK hsl
  go_enter func8,ntmps8
  go_wp2_with fail
  refine HST.out.mono ?_;rintro e w1 ⟨rfl,hb1⟩;have HB1:Hid (Below W.heap.size W w1):=hb1;clear HST hb1;go_wp2;go_ret;exact⟨rfl,HB1.out⟩
 have hbI:¬(8192:Int)<(l.length:Int)+(n:Int):=by omega
 have hbI2:(l.length:Int)+(n:Int)<=8192:=by omega
 have hn2:(n:Int)<=8192:=by omega
 have HSL:Hid (s=⟨l.toArray⟩):=hsl;obtain⟨cs,hcs⟩:∃cs,cs=xs.map toU32:=⟨_,rfl⟩
 have HCL:Hid (cs.length=n):=by show _=_;rw[hcs,hn];simp
 have HLT:Hid (∀x∈cs,x<4294967296):=by rw[hcs];intro x hx;obtain⟨y,-,rfl⟩:=List.mem_map.1 hx;exact toU32_lt y
 obtain⟨q,hq⟩:∃q,q=Fl.readProg l:=⟨_,rfl⟩
 have HRUN:Hid (∀(F:Nat) (V:World) (v:Value),F<=2000->Below W.heap.size W V->zl4 V v cs->Calls prog 20 #[.string s,v,.int .i64 F] V (yj8 q cs F V)):=λF V v hF hV hu=>by
  rw[HSL.out,hq];exact plain_run (F:Int) F (by omega) (HK.out V hV).er (by omega) (HK.out V hV).mg (HK.out V hV).ml hu (by rw[HCL.out];omega)
 have HIN:Hid (∀k,(hk:k<n)->∃b off x,ao=some ⟨b,off,none⟩/\(∀W',Below W.heap.size W W'->W'.cell? ⟨b,off+k,none⟩=some (.int .i64 x))/\cs[k]?=some (toU32 x)):=λk hk=>by
  obtain⟨a,c,e,-,-,h6⟩:=hi;simp only[Value.slice.injEq]at e;obtain⟨b,off,h7,h8,h9⟩:=h6 (by intro h;rw[h]at hn;simp at hn;omega);refine⟨b,off,xs.getD k 0,by rw[e.1,h7],λW' hW=>(hW.cell (p:=⟨b,off+k,none⟩) h8).trans (h9 k (by omega)),?_⟩;have hk':k<xs.length:=(by omega);rw[hcs,List.getElem?_map,List.getElem?_eq_getElem hk',List.getD_eq_getElem?_getD,List.getElem?_eq_getElem hk'];rfl
 clear hi hcs hn hx hbig hsl hq;obtain⟨i0,hi0,hz0,hzs,hzb⟩:=info_parts Tryz.infoU32P
 go_enter func8,ntmps8
 go_wp2_with fail
 refine HST.out.mono ?_;rintro e w0 ⟨rfl,hb0⟩;have HB0:Hid (Below W.heap.size W w0):=hb0;clear HST hb0
 go_wp2_with fail
 go_loopw [10,11] (λc i wr=>∃k:Nat,k<=n/\i=.int .i64 k/\Below W.heap.size W wr/\wr.ownsRow W.heap.size 58 1 c k (Uy (cs.take k))) (λ_ i _=>n - (intOf i).toNat)
 case atStart=>exact⟨0,Nat.zero_le _,rfl,HB0.out,World.ownsRow_nil _ _ _ _⟩
 case round=>
  obtain⟨k,hk,rfl,hbr,hown⟩:=hrel;have HOWN:Hid (wr.ownsRow W.heap.size 58 1 u10 k (Uy (cs.take k))):=hown;have HBR:Hid (Below W.heap.size W wr):=hbr;obtain⟨va,vc,rfl⟩:∃a c,u10=.slice a k c:=by
   rcases hown.2 with⟨h1,h2⟩|⟨g,cp,cur,h1,_⟩
   ·exact⟨none,0,by rw[h1,h2]⟩
   ·exact⟨_,cp,h1⟩
  clear hown hbr
  by_cases hlt:k<n
  ·have hkI:(k:Int)<(n:Int):=by omega
   obtain⟨b,off,x,rfl,hcell,hcs⟩:=HIN.out k hlt;have c0:=hcell wr HBR.out;clear hcell;have e1:(x % 4294967296)=((toU32 x:Nat):Int):=(toU32_cast x).symm;obtain⟨Wm,hWm⟩:∃Wm,Wm=wr.alloc (.cells #[.int .u32 (x % 4294967296)] 58):=⟨_,rfl⟩;have HBm:Hid (Below wr.heap.size wr Wm):=(by show Below _ _ _;rw[hWm];exact(Below.refl _ _).alloc (Nat.le_refl _) _);have HO:Hid (Wm.ownsRow W.heap.size 58 1 (.slice va k vc) k (Uy (cs.take k))):=Yu HOWN.out (λb hb=>HBm.out.block b (HOWN.out.lt b hb).2);have t0:∀i u,([.int .u32 (x % 4294967296)]:List Value)[i]?=some u->Wm.cell? ((⟨wr.heap.size,0,none⟩:Addr).add i)=some u:=(by rw[hWm];exact u32_cell_new);have hzm:wr.heap.size<Wm.heap.size:=(by rw[hWm];simp);have hWz:W.heap.size<=wr.heap.size:=HBR.out.size;have HTK:Hid (Uy (cs.take (k+1))=Uy (cs.take k)++[.int .u32 (x % 4294967296)]):=by
    have hkc:k<cs.length:=(by rw[HCL.out];exact hlt);have h1:cs[k]=toU32 x:=(by rw[List.getElem?_eq_getElem hkc]at hcs;exact Option.some.inj hcs);show _=_;rw[List.take_succ_eq_append_getElem hkc,h1];unfold Uy;rw[List.map_append,e1];rfl
   have HWm:Hid (wr.alloc (.cells #[.int .u32 (x % 4294967296)] 58)=Wm):=hWm.symm;clear hWm e1 hcs
   go_wp2_with (at_builtin;rw[HWm.out];refine Zc _ rfl (.tmp 40) (.tmp 46) 50 rfl W.heap.size 58 i0 (.int .u32 0) 1 4 underlying50 hi0 hz0 hzs hzb rfl (by decide) _ _ _ rfl HO.out ⟨wr.heap.size,0,none⟩ 1 1 [.int .u32 (x % 4294967296)] rfl rfl (by decide) t0 ?c2 ?c3 ?c4 ?c5 ?_)
   case c2=>intro u hu;simp at hu;subst hu;rfl
   case c3=>unfold maxLen;omega
   case c4=>omega
   case c5=>omega
   intro v' W4 hown4 hg4 hwh4;have HNX:Hid (Below W.heap.size W W4/\W4.ownsRow W.heap.size 58 1 v' (k+1) (Uy (cs.take (k+1)))):=by
    refine⟨(HBR.out.trans (HBm.out.mono hWz)).grown hg4 (by omega) (λb hb=>(HO.out.lt b hb).1),?_⟩;rw[HTK.out];exact hown4
   clear hown4 hg4 hwh4;go_wp2
   go_roundw
   case rel=>exact⟨k+1,by omega,by go_num,HNX.out.1,HNX.out.2⟩
   case measure=>simp[intOf];omega
  ·have hkI:¬(k:Int)<(n:Int):=by omega
   obtain rfl:k=n:=by omega
   have HU:Hid (zl4 wr (.slice va k vc) cs):=by
    have h1:=HOWN.out;have h2:cs.take k=cs:=List.take_of_length_le (by rw[HCL.out];omega);rw[h2]at h1;refine u32_of_own (base:=W.heap.size) ?_ HLT.out;rw[HCL.out];exact h1
   clear HOWN HIN HB0
   go_wp2_with fail
   refine(kpick_any a 2001 _ ha ⟨by omega,by omega⟩).mono ?_;rintro e W1 ⟨rfl,rfl⟩;have hm:=pickN_lt a (n:=2001) (by omega);obtain⟨m,hme⟩:∃m,m=pickN a 2001:=⟨_,rfl⟩;rw[<-hme]at hm⊢
   have HP2:Hid (∀V,Calls prog 15 #[.int .i64 c,.int .i64 (2001 - (m:Int))] V λe w'=>e=.returned (.int .i64 (pickN c (2001 - m):Nat))/\w'=V):=λV=>by
    have h:=kpick_any c (2001 - m) V hc ⟨by omega,by omega⟩;rw[show ((2001 - m:Nat):Int)=2001 - (m:Int) by omega]at h;exact h
   have hmI:(m:Int)<=2000:=(by omega);clear hme
   go_wp2_with fail
   refine(HP2.out _).mono ?_;rintro e W2 ⟨rfl,rfl⟩;have hk2:=pickN_lt c (n:=2001 - m) (by omega);obtain⟨k2,hke⟩:∃k2,k2=pickN c (2001 - m):=⟨_,rfl⟩;rw[<-hke]at hk2⊢;have hkI2:(m:Int)+(k2:Int)<=2000:=(by omega);clear hke HP2
   go_wp2_with fail
   refine(HRUN.out m _ _ (by omega) HBR.out HU.out).mono ?_;rintro e w1 ⟨hb1,hcase1⟩;have HB1:Hid (Below W2.heap.size W2 w1):=hb1;have HBW1:Hid (Below W.heap.size W w1):=HBR.out.trans (hb1.mono HBR.out.size)
   have HR2:Hid (∀V,Below w1.heap.size w1 V->Calls prog 20 #[.string s,.slice va k vc,.int .i64 ((m:Int)+(k2:Int))] V (yj8 q cs (m+k2) V)):=λV hV=>by
    have h:=HRUN.out (m+k2) V (.slice va k vc) (by omega) (HBW1.out.trans (hV.mono HBW1.out.size)) ((HU.out.below HB1.out).below hV);rw[show ((m+k2:Nat):Int)=(m:Int)+(k2:Int) by omega]at h;exact h
   have HMO:Hid (Fl.MoreOk k2 (q.2.2.run cs m) (q.2.2.run cs (m+k2))):=Fl.prog_more _ _ _ _;have hcl:=HCL.out;rw[hcl]at hcase1;clear hb1 HRUN HU hcl;rcases hcase1 with⟨h0,rfl⟩|⟨h0,h1,rfl⟩|⟨h0,h1,Lb,sa,sn,sc,rfl,hE1⟩
   ·have hg1:((q.1:Int) !=0)=true:=by rw[bne_iff_ne];omega
    have HQ0:Hid (q.1≠0):=h0;clear h0
    go_wp2_with fail
    obtain⟨W3,hW3⟩:∃W3,W3=w1.alloc (.cells #[.slice none 0 0,.slice none 0 0,.bool false] 53):=⟨_,rfl⟩;have HB3:Hid (Below w1.heap.size w1 W3):=(by show Below _ _ _;rw[hW3];exact bA);rw[<-hW3];clear hW3;refine(HR2.out _ HB3.out).mono ?_;rintro e w4 ⟨hb4,hcase⟩;have HB4:Hid (Below W.heap.size W w4):=HBW1.out.trans ((HB3.out.trans (hb4.mono HB3.out.size)).mono HBW1.out.size);rcases hcase with⟨-,rfl⟩|⟨h9,-⟩|⟨h9,-⟩
    ·clear hb4
     go_wp2;go_ret;exact⟨rfl,HB4.out.alloc HB4.out.size _⟩
    ·exact absurd h9 HQ0.out
    ·exact absurd h9 HQ0.out
   ·have HQ0:Hid (q.1=0):=h0
    have HQL:Hid (cs.length≠q.2.2.cells.length):=(by rw[HCL.out];exact h1);clear h0 h1
    go_wp2_with fail
    obtain⟨W3,hW3⟩:∃W3,W3=w1.alloc (.cells #[.slice none 0 0,.slice none 0 0,.bool false] 53):=⟨_,rfl⟩;have HB3:Hid (Below w1.heap.size w1 W3):=(by show Below _ _ _;rw[hW3];exact bA);rw[<-hW3];clear hW3;refine(HR2.out _ HB3.out).mono ?_;rintro e w4 ⟨hb4,hcase⟩;have HB4:Hid (Below W.heap.size W w4):=HBW1.out.trans ((HB3.out.trans (hb4.mono HB3.out.size)).mono HBW1.out.size);rcases hcase with⟨h9,-⟩|⟨-,-,rfl⟩|⟨-,h9,-⟩
    ·exact absurd HQ0.out h9
    ·clear hb4
     go_wp2;go_ret;exact⟨rfl,HB4.out.alloc HB4.out.size _⟩
    ·exact absurd h9 HQL.out
   ·have HQ0:Hid (q.1=0):=h0
    have HQL:Hid (cs.length=q.2.2.cells.length):=(by rw[HCL.out];exact h1);obtain⟨R,hR⟩:∃R,R=q.2.2.run cs m:=⟨_,rfl⟩;obtain⟨R2,hR2⟩:∃R2,R2=q.2.2.run cs (m+k2):=⟨_,rfl⟩;rw[<-hR]at hE1 HMO⊢;rw[<-hR2]at HMO;have HR2E:Hid (R2=q.2.2.run cs (m+k2)):=hR2;have HE1:Hid (zxz W2.heap.size w1 k R Lb (.slice sa sn sc)):=hE1;obtain⟨xb,hxb⟩:∃xb,xb=w1.heap.size:=⟨_,rfl⟩;have hLb:Lb<xb:=(by rw[hxb];exact hE1.lt);clear h0 h1 hE1 hR hR2
    go_wp2_with fail
    obtain⟨W3,hW3⟩:∃W3,W3=w1.alloc (.cells #[.slice (some ⟨Lb,0,none⟩) k k,.slice sa sn sc,.bool R.1] 53):=⟨_,rfl⟩;have HB3:Hid (Below w1.heap.size w1 W3):=(by show Below _ _ _;rw[hW3];exact bA);have HX3:Hid (W3.heap[xb]?=some (.cells #[.slice (some ⟨Lb,0,none⟩) k k,.slice sa sn sc,.bool R.1] 53 (0,0))):=(by show _=_;rw[hW3,hxb];exact heap_alloc_last _ _);have hx3:xb<W3.heap.size:=(by rw[hW3,hxb];simp);have HXB:Hid (xb=w1.heap.size):=hxb;rw[<-hW3,<-hxb];clear hW3 hxb;refine(HR2.out _ HB3.out).mono ?_;rintro e w4 ⟨hb4,hcase⟩;rw[HCL.out,<-HR2E.out]at hcase;have HB34:Hid (Below W3.heap.size W3 w4):=hb4;have HB14:Hid (Below w1.heap.size w1 w4):=HB3.out.trans (hb4.mono HB3.out.size);have HB4:Hid (Below W.heap.size W w4):=HBW1.out.trans (HB14.out.mono HBW1.out.size);rcases hcase with⟨h9,-⟩|⟨-,h9,-⟩|⟨-,-,Lb2,sa2,sn2,sc2,rfl,hE2⟩
    ·exact absurd HQ0.out h9
    ·exact absurd (HCL.out.symm.trans HQL.out) h9
    ·have HE2:Hid (zxz W3.heap.size w4 k R2 Lb2 (.slice sa2 sn2 sc2)):=hE2
     have hx4:xb<w4.heap.size:=(by have:=hb4.size;omega);have hLb2:Lb2<w4.heap.size:=hE2.lt;have hsn:sn=R.2.sent.length:=sent_len HE1.out.os;have hsn2:sn2=R2.2.sent.length:=sent_len hE2.os;have hsl1:sn<=sn2:=(by rw[hsn,hsn2];exact HMO.out.2.length_le);have hsm:sn2<=2000:=(by rw[hsn2];exact hE2.sl);have HSN:Hid (sn=R.2.sent.length/\sn2=R2.2.sent.length):=⟨hsn,hsn2⟩;have HX4:Hid (w4.heap[xb]?=some (.cells #[.slice (some ⟨Lb,0,none⟩) k k,.slice sa sn sc,.bool R.1] 53 (0,0))):=(hb4.block xb hx3).trans HX3.out;have a0:w4.cell? ⟨xb,0,none⟩=some (.slice (some ⟨Lb,0,none⟩) k k):=cell_of_row _ _ 0 _ _ (0,0) HX4.out;have a1:w4.cell? ⟨xb,1,none⟩=some (.slice sa sn sc):=cell_of_row _ _ 1 _ _ (0,0) HX4.out;have hslI:(sn:Int)<=(sn2:Int):=(by omega);have hsmI:(sn2:Int)<=2000:=(by omega);clear hsn hsn2 hb4 hE2 HR2 HX3
     go_wp2_with fail
     obtain⟨yb,hyb⟩:∃yb,yb=w4.heap.size:=⟨_,rfl⟩;obtain⟨W5,hW5⟩:∃W5,W5=w4.alloc (.cells #[.slice (some ⟨Lb2,0,none⟩) k k,.slice sa2 sn2 sc2,.bool R2.1] 53):=⟨_,rfl⟩;have HB45:Hid (Below w4.heap.size w4 W5):=(by show Below _ _ _;rw[hW5];exact bA);have HX5:Hid (W5.heap[xb]?=some (.cells #[.slice (some ⟨Lb,0,none⟩) k k,.slice sa sn sc,.bool R.1] 53 (0,0))):=(HB45.out.block xb hx4).trans HX4.out;have HY5:Hid (W5.heap[yb]?=some (.cells #[.slice (some ⟨Lb2,0,none⟩) k k,.slice sa2 sn2 sc2,.bool R2.1] 53 (0,0))):=(by show _=_;rw[hW5,hyb];exact heap_alloc_last _ _);have hy5:yb<W5.heap.size:=(by rw[hW5,hyb];simp);have hx5:xb<W5.heap.size:=(by omega);have HB15:Hid (Below w1.heap.size w1 W5):=HB14.out.trans (HB45.out.mono HB14.out.size);have HBW5:Hid (Below W.heap.size W W5):=HB4.out.trans (HB45.out.mono HB4.out.size);have HO1:Hid (∀V,Below W5.heap.size W5 V->V.ownsRow W2.heap.size 60 2 (.slice sa sn sc) R.2.sent.length (zv5 R.2.sent)):=λV hV=>Yu HE1.out.os (λb hb=>(HB15.out.trans (hV.mono HB15.out.size)).block b (HE1.out.os.lt b hb).2);have HO2:Hid (∀V,Below W5.heap.size W5 V->V.ownsRow W3.heap.size 60 2 (.slice sa2 sn2 sc2) R2.2.sent.length (zv5 R2.2.sent)):=λV hV=>Yu HE2.out.os (λb hb=>(HB45.out.trans (hV.mono HB45.out.size)).block b (HE2.out.os.lt b hb).2);have HL1:Hid (∀V,Below W5.heap.size W5 V->∀j,j<k->V.cell? ⟨Lb,j,none⟩=some (.int .u32 ((R.2.vars.take k).getD j 0))):=λV hV j hj=>row_u32 (((HB15.out.trans (hV.mono HB15.out.size)).block Lb HE1.out.lt).trans HE1.out.row) HE1.out.len hj;have HL2:Hid (∀V,Below W5.heap.size W5 V->∀j,j<k->V.cell? ⟨Lb2,j,none⟩=some (.int .u32 ((R2.2.vars.take k).getD j 0))):=λV hV j hj=>row_u32 (((HB45.out.trans (hV.mono HB45.out.size)).block Lb2 HE2.out.lt).trans HE2.out.row) HE2.out.len hj
     have HXV:Hid (∀V,Below W5.heap.size W5 V->(V.cell? ⟨xb,0,none⟩=some (.slice (some ⟨Lb,0,none⟩) k k)/\V.cell? ⟨xb,1,none⟩=some (.slice sa sn sc)/\V.cell? ⟨xb,2,none⟩=some (.bool R.1))/\V.cell? ⟨yb,0,none⟩=some (.slice (some ⟨Lb2,0,none⟩) k k)/\V.cell? ⟨yb,1,none⟩=some (.slice sa2 sn2 sc2)/\V.cell? ⟨yb,2,none⟩=some (.bool R2.1)):=λV hV=>by
      have h1:=(hV.block xb hx5).trans HX5.out;have h2:=(hV.block yb hy5).trans HY5.out;exact⟨⟨cell_of_row _ _ 0 _ _ (0,0) h1,cell_of_row _ _ 1 _ _ (0,0) h1,cell_of_row _ _ 2 _ _ (0,0) h1⟩,cell_of_row _ _ 0 _ _ (0,0) h2,cell_of_row _ _ 1 _ _ (0,0) h2,cell_of_row _ _ 2 _ _ (0,0) h2⟩
     rw[<-hW5,<-hyb];have hdc:decide (sn2<sn)=false:=decide_eq_false (by omega);rw[hdc];clear hdc hW5 hyb a0 a1 HX4 HX5 HY5 hx4 hLb2
     go_loopw [20] (λi wr=>Below W5.heap.size W5 wr/\∃j:Nat,j<=sn/\i=.int .i64 j) (λi _=>sn - (intOf i).toNat)
     case atStart=>exact⟨Below.refl _ _,0,Nat.zero_le _,rfl⟩
     case round=>
      obtain⟨hbv,j,hj,rfl⟩:=hrel;have HBV:Hid (Below W5.heap.size W5 wr):=hbv;clear hbv;obtain⟨⟨x0,x1,x2⟩,y0,y1,y2⟩:=HXV.out wr HBV.out;have hzv:W5.heap.size<=wr.heap.size:=HBV.out.size
      by_cases hlt:j<sn
      ·have hjI:(j:Int)<(sn:Int):=by omega
       have hjI2:(j:Int)<(sn2:Int):=(by omega);have hj1:j<R.2.sent.length:=(by rw[<-HSN.out.1];exact hlt);have hj2:j<R2.2.sent.length:=(by rw[<-HSN.out.2];omega);have hpe:=Fl.pre_getD HMO.out.2 ((0,0):Nat×Nat) hj1;obtain⟨g,rfl,hgz,r1,r2⟩:=sent_cells (HO1.out wr HBV.out) hj1;obtain⟨g2,rfl,hgz2,r3,r4⟩:=sent_cells (HO2.out wr HBV.out) hj2;rw[hpe]at r3 r4;obtain⟨p1,hp1⟩:∃p1,p1=(R.2.sent.getD j (0,0)).1:=⟨_,rfl⟩;obtain⟨p2,hp2⟩:∃p2,p2=(R.2.sent.getD j (0,0)).2:=⟨_,rfl⟩;rw[<-hp1]at r1 r3;rw[<-hp2]at r2 r4
       have HS:Hid (∀V,Below wr.heap.size wr V->V.cell? ⟨xb,1,none⟩=some (.slice (some ⟨g,0,none⟩) sn sc)/\V.cell? ⟨yb,1,none⟩=some (.slice (some ⟨g2,0,none⟩) sn2 sc2)/\V.cell? ⟨g,j*2,none⟩=some (.int .i64 p1)/\V.cell? ⟨g,j*2+1,none⟩=some (.int .u32 p2)/\V.cell? ⟨g2,j*2,none⟩=some (.int .i64 p1)/\V.cell? ⟨g2,j*2+1,none⟩=some (.int .u32 p2)):=λV hV=>
        ⟨(hV.cell (p:=⟨xb,1,none⟩) (by show xb<_;omega)).trans x1,(hV.cell (p:=⟨yb,1,none⟩) (by show yb<_;omega)).trans y1,(hV.cell (p:=⟨g,j*2,none⟩) hgz).trans r1,(hV.cell (p:=⟨g,j*2+1,none⟩) hgz).trans r2,(hV.cell (p:=⟨g2,j*2,none⟩) hgz2).trans r3,(hV.cell (p:=⟨g2,j*2+1,none⟩) hgz2).trans r4⟩
       clear r1 r2 r3 r4 hp1 hp2 hpe hj1 hj2 x0 x2 y0 y1 y2
       go_wp2_with fail
       clear x1;refine Zv HS (Below.refl _ _).drew [] [] [] (by kernel_rfl) (λc a d v w h=>by cases d<;>exact h) (λops _=>?_)
       iterate 11 refine Zx rfl (by rintro _ ⟨_,_,_,_,_,_⟩;go_simp<;>rfl) (by go_simp<;>rfl) ?_
       refine Zs ?_;go_wp2
       go_roundw
       case rel=>
        exact⟨HBV.out.drew,j+1,by omega,by go_num⟩
       case measure=>simp[intOf];omega
      ·have hjI:¬(j:Int)<(sn:Int):=by omega
       cases hd:R.1 with
       |false=>
        rw[hd]at x2;clear x0 y0 y1 y2 hd;go_wp2;go_ret;exact⟨rfl,HBW5.out.trans (HBV.out.mono HBW5.out.size)⟩
       |true=>
        have hR2:=HMO.out.1 hd;have HVS:Hid (R2.2.vars=R.2.vars):=(by show _=_;rw[hR2]);have hd2:R2.1=true:=(by rw[hR2]);have hsq:sn2=sn:=(by rw[HSN.out.1,HSN.out.2,hR2]);rw[hd]at x2;rw[hd2]at y2;obtain⟨V0,hV0⟩:∃V0,V0=wr:=⟨_,rfl⟩;subst hV0;have HD2:Hid (R2.1=true):=hd2;clear hR2 hd hd2
        go_wp2_with fail
        go_loopw [21] (λi wr=>Below V0.heap.size V0 wr/\∃j:Nat,j<=k/\i=.int .i64 j) (λi _=>k - (intOf i).toNat)
        case atStart=>exact⟨Below.refl _ _,0,Nat.zero_le _,rfl⟩
        case round=>
         obtain⟨hbv2,i,hi2,rfl⟩:=hrel;have HBV2:Hid (Below V0.heap.size V0 wr):=hbv2;clear hbv2;have hzw:V0.heap.size<=wr.heap.size:=HBV2.out.size;have HBX:Hid (Below W5.heap.size W5 wr):=HBV.out.trans (HBV2.out.mono hzv);obtain⟨⟨x0,x1,x2⟩,y0,y1,y2⟩:=HXV.out wr HBX.out
         by_cases hlt2:i<k
         ·have hiI:(i:Int)<(k:Int):=by omega
          have r1:=HL1.out wr HBX.out i hlt2;have r2:=HL2.out wr HBX.out i hlt2;rw[HVS.out]at r2;obtain⟨p1,hp1⟩:∃p1,p1=(R.2.vars.take k).getD i 0:=⟨_,rfl⟩;rw[<-hp1]at r1 r2
          have HS:Hid (∀V,Below wr.heap.size wr V->V.cell? ⟨xb,0,none⟩=some (.slice (some ⟨Lb,0,none⟩) k k)/\V.cell? ⟨yb,0,none⟩=some (.slice (some ⟨Lb2,0,none⟩) k k)/\V.cell? ⟨Lb,i,none⟩=some (.int .u32 p1)/\V.cell? ⟨Lb2,i,none⟩=some (.int .u32 p1)):=λV hV=>
           ⟨(hV.cell (p:=⟨xb,0,none⟩) (by show xb<_;omega)).trans x0,(hV.cell (p:=⟨yb,0,none⟩) (by show yb<_;omega)).trans y0,(hV.cell (p:=⟨Lb,i,none⟩) (World.block_lt_of_cell? wr _ r1)).trans r1,(hV.cell (p:=⟨Lb2,i,none⟩) (World.block_lt_of_cell? wr _ r2)).trans r2⟩
          clear r1 r2 hp1 x0 x1 x2 y0 y1 y2
          go_wp2_with fail
          refine Zv HS (Below.refl _ _).drew [] [] [] (by kernel_rfl) (λc a d v w h=>by cases d<;>exact h) (λops _=>?_)
          iterate 11 refine Zx rfl (by rintro _ ⟨_,_,_,_⟩;go_simp<;>rfl) (by go_simp<;>rfl) ?_
          refine Zs ?_;go_wp2
          go_roundw
          case rel=>
           exact⟨HBV2.out.drew,i+1,by omega,by go_num⟩
          case measure=>simp[intOf];omega
         ·have hiI:¬(i:Int)<(k:Int):=by omega
          rw[hsq]at y1;rw[HD2.out]at y2;go_wp2;go_ret;exact⟨rfl,HBW5.out.trans (HBX.out.mono HBW5.out.size)⟩
end Go.Proofs.YtminjljgedopkaaGreatDoor
