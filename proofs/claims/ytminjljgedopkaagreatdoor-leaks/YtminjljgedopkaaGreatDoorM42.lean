import Derived.Test.YtminjljgedopkaaGreatDoorM28
import Derived.Test.YtminjljgedopkaaGreatDoorM41
set_option linter.all false
set_option maxRecDepth 100000
set_option maxHeartbeats 40000000
namespace Go.Proofs.YtminjljgedopkaaGreatDoor
open Go.RowKit Go.Proofs.Tryz
def kdigit_at(k:Nat)(h:k<10):(⟨#[48,49,50,51,52,53,54,55,56,57]⟩:ByteArray).extract k (k+1)=⟨#[UInt8.ofNat (48+k)]⟩:=by
 have:k=0\/k=1\/k=2\/k=3\/k=4\/k=5\/k=6\/k=7\/k=8\/k=9:=by omega
 rcases this with rfl|rfl|rfl|rfl|rfl|rfl|rfl|rfl|rfl|rfl<;>rfl
def kdec_low(v:Nat)(w:World)(hv:v<10):
  Calls prog 17 #[.int .i64 v] w λe w'=>e=.returned (.string ⟨[UInt8.ofNat (48+v)].toArray⟩)/\w'=w:=by
 have a0:(v:Int)<10:=by omega
 go_enter func17,ntmps17
 go_wp2;go_ret;exact⟨ret_string (by rw[Nat.mod_eq_of_lt hv];exact kdigit_at v hv),rfl⟩
def kdec_bytes(v:Nat)(t:List UInt8):(⟨t.toArray⟩:ByteArray)++(⟨#[48,49,50,51,52,53,54,55,56,57]⟩:ByteArray).extract (v % 10) (v % 10+1)=⟨(t++[UInt8.ofNat (48+v % 10)]).toArray⟩:=by
 rw[kdigit_at (v % 10) (by omega)];exact ByteArray.mk_append_mk t [UInt8.ofNat (48+v % 10)]
def kdec_high(v:Nat)(t:List UInt8)(w:World)(hv:v<1000000000000000000)(a0:¬v<10)(ht:t.length<=100)
  (H:Hid (Calls prog 17 #[.int .i64 ((v:Int) / 10)] w λe w'=>e=.returned (.string ⟨t.toArray⟩)/\w'=w)):
  Calls prog 17 #[.int .i64 v] w λe w'=>e=.returned (.string ⟨(t++[UInt8.ofNat (48+v % 10)]).toArray⟩)/\w'=w:=by
 have HB:Hid ((⟨t.toArray⟩:ByteArray)++(⟨#[48,49,50,51,52,53,54,55,56,57]⟩:ByteArray).extract (v % 10) (v % 10+1)=⟨(t++[UInt8.ofNat (48+v % 10)]).toArray⟩):=kdec_bytes v t
 go_enter func17,ntmps17
 go_wp2_with fail
 refine H.out.mono ?_;rintro e w1 ⟨rfl,rfl⟩
 have b0:((⟨t.toArray⟩:ByteArray).size:Int)<=100:=by show ((t.toArray.size:Nat):Int)<=100;simp;omega
 go_wp2;go_ret;exact⟨ret_string HB.out,rfl⟩
def kdec_walk(f:Nat)(hf:f<=20):∀(v:Nat) (w:World),v<10 ^ (f+1)->v<1000000000000000000->Calls prog 17 #[.int .i64 v] w λe w'=>e=.returned (.string ⟨(Fl.decF f v).toArray⟩)/\w'=w:=by
 induction f with
 |zero=>intro v w hv _;have:=kdec_low v w (by simpa using hv);rw[Fl.decF,Nat.mod_eq_of_lt (by simpa using hv)];exact this
 |succ f ih=>
  intro v w hv hm
  by_cases a0:v<10
  ·have:=kdec_low v w a0
   simp only[Fl.decF,if_pos a0];exact this
  simp only[Fl.decF,if_neg a0];have hd:((v:Int) / 10)=((v / 10:Nat):Int):=(by omega);refine kdec_high v _ w hm a0 (by have:=znx f (v / 10);omega) ?_;show Calls _ _ _ _ _;rw[hd];exact ih (by omega) (v / 10) w (by rw[Nat.pow_succ]at hv;omega) (by omega)
def kdecimal_any(v:Nat)(w:World)(hm:v<1000000000):Calls prog 17 #[.int .i64 v] w λe w'=>e=.returned (.string ⟨(Lib.decDigits v).toArray⟩)/\w'=w:=by
 have:=kdec_walk 8 (by decide) v w (Nat.lt_of_lt_of_le hm (by decide)) (by omega);rw[Fl.decF_digits 8 v (Nat.lt_of_lt_of_le hm (by decide))]at this;exact this
def badB(D:ByteArray):List ByteArray:=[⟨#[111,117,116,32,112,117,98,32,115,10]⟩,⟨#[115,101,116,32,97,32,115,10]⟩,⟨#[115,101,116,32,120,32,115,10,111,117,116,32,112,117,98,32,120,10]⟩,⟨#[115,101,116,32,120,32,115,32,43,32]⟩++D++⟨#[10,115,101,116,32,97,32,120,10]⟩,⟨#[105,102,32,115,10,111,117,116,32,112,117,98,32]⟩++D++⟨#[10,101,110,100,10]⟩,⟨#[105,102,32,97,10,115,101,116,32,120,32,115,10,101,110,100,10,111,117,116,32,112,117,98,32,120,10]⟩,⟨#[119,104,105,108,101,32,115,10,115,101,116,32,97,32]⟩++D++⟨#[10,101,110,100,10]⟩,⟨#[115,101,116,32,120,32,49,10,119,104,105,108,101,32,120,10,115,101,116,32,121,32,120,10,115,101,116,32,120,32,122,10,101,110,100,10]⟩,⟨#[115,101,116,32,120,32,48,10,115,101,116,32,121,32,48,10,119,104,105,108,101,32,97,10,115,101,116,32,121,32,120,10,115,101,116,32,120,32,115,10,101,110,100,10,111,117,116,32,112,117,98,32,121,10]⟩,⟨#[105,102,32,115,10,115,101,116,32,120,32]⟩++D++⟨#[10,101,108,115,101,10,101,110,100,10,111,117,116,32,112,117,98,32,120,10]⟩]
def goodB(D:ByteArray):List ByteArray:=[⟨#[111,117,116,32,115,101,99,32,115,10]⟩,⟨#[115,101,116,32,115,32,97,10]⟩,⟨#[115,101,116,32,120,32,115,10,111,117,116,32,115,101,99,32,120,10]⟩,⟨#[115,101,116,32,120,32,97,32,43,32]⟩++D++⟨#[10,111,117,116,32,112,117,98,32,120,10,115,101,116,32,120,32,97,10]⟩,⟨#[105,102,32,97,10,111,117,116,32,112,117,98,32]⟩++D++⟨#[10,101,110,100,10]⟩,⟨#[105,102,32,115,10,115,101,116,32,120,32,97,10,101,110,100,10,111,117,116,32,115,101,99,32,120,10]⟩,⟨#[119,104,105,108,101,32,115,10,115,101,116,32,115,32,115,32,45,32,49,10,101,110,100,10,111,117,116,32,112,117,98,32,97,10]⟩]
def ba_con(b:List UInt8):(⟨Fl.leakH.toArray⟩:ByteArray)++⟨b.toArray⟩=⟨(Fl.leakH++b).toArray⟩:=ByteArray.mk_append_mk _ _
def ba_num(a d q:List UInt8):(⟨Fl.leakH.toArray⟩:ByteArray)++(⟨a.toArray⟩++⟨d.toArray⟩++⟨(10::q).toArray⟩)=⟨(Fl.leakH++(a++(d++10::q))).toArray⟩:=by
 rw[ByteArray.mk_append_mk,ByteArray.mk_append_mk,ByteArray.mk_append_mk,List.append_assoc a]
def len_num(a q:List UInt8){n:Nat}(hn:n<1000000000)(h:Fl.leakH.length+a.length+q.length<=1000):(Fl.leakH++(a++(Lib.decDigits n++10::q))).length<=1100:=by
 have:=Fl.dig_len hn;simp only[List.length_append,List.length_cons];omega
def bad_known{n:Nat}(hn:n<1000000000){k:Nat}(hk:k<10):∃l a,(⟨Fl.leakH.toArray⟩:ByteArray)++(badB ⟨(Lib.decDigits n).toArray⟩).getD k ⟨#[]⟩=⟨l.toArray⟩/\l.length<=1100/\Fl.inferE (Fl.readProg l)=(if k=7 then 4 else 7,a,[]):=by
 have h:k=0\/k=1\/k=2\/k=3\/k=4\/k=5\/k=6\/k=7\/k=8\/k=9:=by omega
 rcases h with rfl|rfl|rfl|rfl|rfl|rfl|rfl|rfl|rfl|rfl
 ·exact⟨Fl.leakH++[111,117,116,32,112,117,98,32,115,10],9,ba_con _,of_decide_eq_true (by kernel_rfl),by kernel_rfl⟩
 ·exact⟨Fl.leakH++[115,101,116,32,97,32,115,10],9,ba_con _,of_decide_eq_true (by kernel_rfl),by kernel_rfl⟩
 ·exact⟨Fl.leakH++[115,101,116,32,120,32,115,10,111,117,116,32,112,117,98,32,120,10],10,ba_con _,of_decide_eq_true (by kernel_rfl),by kernel_rfl⟩
 ·exact⟨_,10,ba_num [115,101,116,32,120,32,115,32,43,32] _ [115,101,116,32,97,32,120,10],len_num _ _ hn (of_decide_eq_true (by kernel_rfl)),Fl.leakB3 hn⟩
 ·exact⟨_,10,ba_num [105,102,32,115,10,111,117,116,32,112,117,98,32] _ [101,110,100,10],len_num _ _ hn (of_decide_eq_true (by kernel_rfl)),Fl.leakB4 hn⟩
 ·exact⟨Fl.leakH++[105,102,32,97,10,115,101,116,32,120,32,115,10,101,110,100,10,111,117,116,32,112,117,98,32,120,10],12,ba_con _,of_decide_eq_true (by kernel_rfl),by kernel_rfl⟩
 ·exact⟨_,10,ba_num [119,104,105,108,101,32,115,10,115,101,116,32,97,32] _ [101,110,100,10],len_num _ _ hn (of_decide_eq_true (by kernel_rfl)),Fl.leakB6 hn⟩
 ·exact⟨Fl.leakH++[115,101,116,32,120,32,49,10,119,104,105,108,101,32,120,10,115,101,116,32,121,32,120,10,115,101,116,32,120,32,122,10,101,110,100,10],12,ba_con _,of_decide_eq_true (by kernel_rfl),by kernel_rfl⟩
 ·exact⟨Fl.leakH++[115,101,116,32,120,32,48,10,115,101,116,32,121,32,48,10,119,104,105,108,101,32,97,10,115,101,116,32,121,32,120,10,115,101,116,32,120,32,115,10,101,110,100,10,111,117,116,32,112,117,98,32,121,10],15,ba_con _,of_decide_eq_true (by kernel_rfl),by kernel_rfl⟩
 exact⟨_,13,ba_num [105,102,32,115,10,115,101,116,32,120,32] _ [101,108,115,101,10,101,110,100,10,111,117,116,32,112,117,98,32,120,10],len_num _ _ hn (of_decide_eq_true (by kernel_rfl)),Fl.leakB9 hn⟩
def good_known{n:Nat}(hn:n<1000000000){k:Nat}(hk:k<7):∃l,(⟨Fl.leakH.toArray⟩:ByteArray)++(goodB ⟨(Lib.decDigits n).toArray⟩).getD k ⟨#[]⟩=⟨l.toArray⟩/\l.length<=1100/\(Fl.inferE (Fl.readProg l)).1=0:=by
 have h:k=0\/k=1\/k=2\/k=3\/k=4\/k=5\/k=6:=by omega
 rcases h with rfl|rfl|rfl|rfl|rfl|rfl|rfl
 ·exact⟨Fl.leakH++[111,117,116,32,115,101,99,32,115,10],ba_con _,of_decide_eq_true (by kernel_rfl),by kernel_rfl⟩
 ·exact⟨Fl.leakH++[115,101,116,32,115,32,97,10],ba_con _,of_decide_eq_true (by kernel_rfl),by kernel_rfl⟩
 ·exact⟨Fl.leakH++[115,101,116,32,120,32,115,10,111,117,116,32,115,101,99,32,120,10],ba_con _,of_decide_eq_true (by kernel_rfl),by kernel_rfl⟩
 ·exact⟨_,ba_num [115,101,116,32,120,32,97,32,43,32] _ [111,117,116,32,112,117,98,32,120,10,115,101,116,32,120,32,97,10],len_num _ _ hn (of_decide_eq_true (by kernel_rfl)),Fl.leakG3 hn⟩
 ·exact⟨_,ba_num [105,102,32,97,10,111,117,116,32,112,117,98,32] _ [101,110,100,10],len_num _ _ hn (of_decide_eq_true (by kernel_rfl)),Fl.leakG4 hn⟩
 ·exact⟨Fl.leakH++[105,102,32,115,10,115,101,116,32,120,32,97,10,101,110,100,10,111,117,116,32,115,101,99,32,120,10],ba_con _,of_decide_eq_true (by kernel_rfl),by kernel_rfl⟩
 exact⟨Fl.leakH++[119,104,105,108,101,32,115,10,115,101,116,32,115,32,115,32,45,32,49,10,101,110,100,10,111,117,116,32,112,117,98,32,97,10],ba_con _,of_decide_eq_true (by kernel_rfl),by kernel_rfl⟩
def strRow(l:List ByteArray):Array Value:=(l.map Value.string).toArray
def strRow_at{l:List ByteArray}{k:Nat}(h:k<l.length):(strRow l)[k]?=some (.string (l.getD k ⟨#[]⟩)):=by
 unfold strRow;rw[List.getElem?_toArray,List.getElem?_map,Qa,Qb h];rfl
def leaks_any(a v:Int)(w:World)(ha: -9223372036854775808<=a/\a<=9223372036854775807)(hv: -9223372036854775808<=v/\v<=9223372036854775807)(hk:zp1 w):
  Calls prog 6 #[.int .i64 a,.int .i64 v] w λe w'=>e=.returned (.bool true)/\Below w.heap.size w w':=by
 obtain⟨n,k0⟩:=nmE (zr4 v 1000000000)
 have hn:n<1000000000:=by rw[k0];exact yqw v (by omega)
 have q0:Hid (Calls prog 15 #[.int .i64 v,.int .i64 1000000000] w λe w'=>e=.returned (.int .i64 (n:Nat))/\w'=w):=by rw[k0];exact ys5 v 1000000000 w hv ⟨by omega,by omega⟩
 have l0:Hid (Calls prog 17 #[.int .i64 n] w λe w'=>e=.returned (.string ⟨(Lib.decDigits n).toArray⟩)/\w'=w):=kdecimal_any n w hn;obtain⟨sH,f0⟩:=nmE (α:=ByteArray) (⟨Fl.leakH.toArray⟩);obtain⟨D,hD⟩:=nmE (α:=ByteArray) (⟨(Lib.decDigits n).toArray⟩)
 have B0:D.size<=9:=by rw[hD];show (Lib.decDigits n).toArray.size<=9;simpa using Fl.dig_len hn
 have C0:sH.size<=100:=by rw[f0];exact of_decide_eq_true (by kernel_rfl)
 have d0:Hid (∀k,k<10->∃l a,sH++(badB D).getD k ⟨#[]⟩=⟨l.toArray⟩/\l.length<=1100/\Fl.inferE (Fl.readProg l)=(if k=7 then 4 else 7,a,[])):=λk hk=>by rw[f0,hD];exact bad_known hn hk
 have a0:Hid (∀k,k<7->∃l,sH++(goodB D).getD k ⟨#[]⟩=⟨l.toArray⟩/\l.length<=1100/\(Fl.inferE (Fl.readProg l)).1=0):=λk hk=>by rw[f0,hD];exact good_known hn hk
 rw[<-hD]at l0;have HK:Hid (∀V,Below w.heap.size w V->zp1 V):=λV hV=>hk.below hV;have eH:(⟨(([108,101,118,101,108,32,108,111,119,10,108,101,118,101,108,32,104,105,103,104,10,98,101,108,111,119,32,108,111,119,32,104,105,103,104,10,99,101,108,108,32,97,32,108,111,119,10,99,101].append [108,108,32,115,32,104,105,103,104,10,99,104,97,110,110,101,108,32,112,117,98,32,108,111,119,10,99,104,97,110,110,101,108,32,115,101,99,32,104,105,103,104,10,98,101,103,105,110,10]):List UInt8).toArray⟩:ByteArray)=sH:=f0.symm;clear hk f0 hD k0 hn
 go_enter func6,ntmps6
 rw[eH];clear eH
 go_wp2_with fail
 refine q0.out.mono ?_;rintro e w1 ⟨rfl,rfl⟩
 go_wp2_with fail
 refine l0.out.mono ?_;rintro e w1 ⟨rfl,rfl⟩;clear q0 l0
 go_wp2_with fail
 refine(ys5 a 17 _ ha ⟨by omega,by omega⟩).mono ?_;rintro e W3 ⟨rfl,hW⟩;obtain⟨W2,g0⟩:=nmE (w1.alloc (.cells (strRow (badB D)) 9))
 have r0:W2.heap.size=w1.heap.size+1:=by rw[g0];simp
 have i0:W3=W2.alloc (.cells (strRow (goodB D)) 9):=hW.trans (by rw[g0];kernel_rfl)
 have c0:Hid (Below w1.heap.size w1 W3):=by show Below _ _ _;rw[i0];exact Below.alloc (by rw[g0];exact bA) (by omega) _
 have m0:Hid (W3.heap[w1.heap.size]?=some (.cells (strRow (badB D)) 9 (0,0))):=by
  show _=_;rw[i0,Below.heap_alloc _ _ _ (by omega),g0];exact heap_alloc_last _ _
 have n0:Hid (W3.heap[w1.heap.size+1]?=some (.cells (strRow (goodB D)) 9 (0,0))):=by
  show _=_;rw[i0,<-r0];exact heap_alloc_last _ _
 have D0:w1.heap.size+1<W3.heap.size:=by rw[i0];simp;omega
 have hz3':w1.heap.size<W3.heap.size:=by omega
 clear i0 g0 r0;clear hW;have o0:=yqw a (n:=17) (by omega);obtain⟨k,s0⟩:=nmE (zr4 a 17);rw[<-s0]at o0⊢;clear s0
 by_cases p0:k<10
 ·have x0:(k:Int)<10:=by omega
  have c1:W3.cell? ⟨w1.heap.size,k,none⟩=some (.string ((badB D).getD k ⟨#[]⟩)):=(cell_of_row _ _ k _ _ (0,0) m0.out).trans (strRow_at p0);obtain⟨l,at_,el,hl,hr⟩:=d0.out k p0;obtain⟨s,hs⟩:=nmE ((badB D).getD k ⟨#[]⟩);rw[<-hs]at c1 el;have y0:s.size<=1100:=by
   have h1:(sH++s).size=l.length:=(by rw[el];rfl);rw[ByteArray.size_append]at h1;omega
  have HI:Hid (Calls prog 14 #[.string (sH++s)] W3 (zr1 (if k=7 then 4 else 7,at_,[]) W3)):=by
   show Calls _ _ _ _ _;have h:=zo7 (w:=W3) (l:=l) (HK.out _ c0.out).er (by omega) (HK.out _ c0.out).mg (HK.out _ c0.out).ml;rw[hr]at h;rw[el];exact h
  clear hs el hl hr d0 a0 m0 n0 HK
  go_wp2_with fail
  refine HI.out.mono ?_;rintro e W4 ⟨j0,va,m,c,rfl,ho⟩;obtain rfl:m=0:=(zy4.of_own ho).1;have e0:Hid (Below w1.heap.size w1 W4):=c0.out.trans (j0.mono c0.out.size);clear j0 ho HI c1
  by_cases h7:k=7
  ·have E0:((k:Int)==7)=true:=by rw[h7];rfl
   rw[if_pos h7];go_wp2;go_ret;exact⟨rfl,e0.out⟩
  rw[if_neg h7];go_wp2;go_ret;exact⟨rfl,e0.out⟩
 have x0:¬(k:Int)<10:=by omega
 obtain⟨j,hj⟩:∃j,k=10+j:=⟨k - 10,by omega⟩
 have t0:j<7:=by omega
 have F0:(j:Int)<7:=by omega
 have G0:(k:Int) - 10=(j:Int):=by omega
 have c1:W3.cell? ⟨w1.heap.size+1,j,none⟩=some (.string ((goodB D).getD j ⟨#[]⟩)):=(cell_of_row _ _ j _ _ (0,0) n0.out).trans (strRow_at t0);obtain⟨l,el,hl,hr⟩:=a0.out j t0;obtain⟨s,hs⟩:=nmE ((goodB D).getD j ⟨#[]⟩);rw[<-hs]at c1 el;have y0:s.size<=1100:=by
  have h1:(sH++s).size=l.length:=(by rw[el];rfl);rw[ByteArray.size_append]at h1;omega
 have HI:Hid (Calls prog 14 #[.string (sH++s)] W3 (zr1 (Fl.inferE (Fl.readProg l)) W3)):=by
  show Calls _ _ _ _ _;rw[el];exact zo7 (w:=W3) (l:=l) (HK.out _ c0.out).er (by omega) (HK.out _ c0.out).mg (HK.out _ c0.out).ml
 obtain⟨res,b0⟩:=nmE (Fl.inferE (Fl.readProg l));rw[<-b0]at HI
 have e1:Fl.checked (Fl.readProg l) (Fl.decode res.2.2)=(0,-1):=by rw[b0];exact Fl.found_chk hr
 have H0:res.2.2.length<=100000:=by rw[b0];exact Fl.found_len hr
 have h0:res.1=0:=by rw[b0];exact hr
 have HC:Hid (∀V va c,Below w1.heap.size w1 V->zy4 V va res.2.2->Calls prog 16 #[.string (sH++s),.slice va res.2.2.length c] V λe w'=>e=.returned (.tuple #[.int .i64 0,.int .i64 (-1)])/\Below V.heap.size V w'):=λV va c hV hb=>by
  have h:=plain_check_at (l:=l) (s:=res.2.2) (ao:=va) (cap:=c) (HK.out V hV).er (by omega) (HK.out V hV).mg (HK.out V hV).ml (by omega) hb;rw[e1]at h;rw[el];exact h
 clear hs el hl hr d0 a0 m0 n0 HK b0 e1 hj p0
 go_wp2_with fail
 refine HI.out.mono ?_;rintro e W4 ⟨j0,va,m,c,rfl,ho⟩;have z0:Hid (zy4 W4 va res.2.2):=(zy4.of_own ho).2;obtain rfl:m=res.2.2.length:=(zy4.of_own ho).1;have e0:Hid (Below w1.heap.size w1 W4):=c0.out.trans (j0.mono c0.out.size);have u0:Hid (Calls prog 16 #[.string (sH++s),.slice va res.2.2.length c] W4 λe w'=>e=.returned (.tuple #[.int .i64 0,.int .i64 (-1)])/\Below W4.heap.size W4 w'):=HC.out W4 va c e0.out z0.out;rw[h0];clear j0 ho HI c1 h0 HC;generalize res.2.2.length=bl at*
 go_wp2_with fail
 refine u0.out.mono ?_;rintro e W5 ⟨rfl,v0⟩;have A0:Hid (Below w1.heap.size w1 W5):=e0.out.trans (v0.mono e0.out.size);clear v0 u0;go_wp2;go_ret;exact⟨rfl,A0.out⟩
end Go.Proofs.YtminjljgedopkaaGreatDoor
