import Derived.Test.YtminjljgedopkaaGreatDoorM18
set_option linter.all false
set_option maxRecDepth 100000
set_option maxHeartbeats 40000000
namespace Go.Proofs.YtminjljgedopkaaGreatDoor
open Go.RowKit Go.Proofs.Tryz
def zwx(a b:Nat)(ha:a<2147483648)(hb:b<2147483648):bits .or .i64 (a:Int) (b:Int)=((a|||b:Nat):Int):=by
 have hx:a|||b<2 ^ 31:=Nat.or_lt_two_pow (by omega) (by omega)
 have o:∀x:Nat,x<2147483648->(BitVec.ofInt 64 (x:Int)).toNat=x:=λx hx=>by rw[BitVec.ofInt_natCast,BitVec.toNat_ofNat];exact Nat.mod_eq_of_lt (by omega)
 show IntKind.i64.wrap ((BitVec.ofInt 64 (a:Int)|||BitVec.ofInt 64 (b:Int)).toNat:Int)=_;rw[BitVec.toNat_or,o a ha,o b hb];generalize a|||b=x at*;simp[IntKind.wrap,IntKind.bits,IntKind.signed];omega
def Jh(n:Nat)(a b c:Int):Int:=if n=0 then bits .or .i64 (bits .or .i64 (bits .or .i64 0 a) b) c else if n=1 then bits .or .i64 (bits .or .i64 0 b) c else if n=2 then bits .or .i64 0 c else 0
def zux(a b:Nat):a|||b=0 ↔ a=0/\b=0:=by
 constructor
 ·intro h
  have h1:a<=a|||b:=Nat.left_le_or;have h2:b<=a|||b:=Nat.right_le_or;omega
 ·rintro⟨rfl,rfl⟩;rfl
def yxv(n:Nat)(a b c:Int)(ha:Fl.inR a=true)(hb:Fl.inR b=true)(hc:Fl.inR c=true):Jh n a b c=0 ↔ (n=0->a=0)/\(n<=1->b=0)/\(n<=2->c=0):=by
 simp only[Fl.inR,Bool.and_eq_true,decide_eq_true_eq]at ha hb hc;obtain⟨A,rfl⟩:=Int.eq_ofNat_of_zero_le ha.1;obtain⟨B,rfl⟩:=Int.eq_ofNat_of_zero_le hb.1;obtain⟨C,rfl⟩:=Int.eq_ofNat_of_zero_le hc.1
 have e0:∀x:Nat,x<2147483648->bits .or .i64 0 (x:Int)=(x:Int):=λx hx=>by have:=zwx 0 x (by omega) hx;simpa using this
 have hAB:A|||B<2 ^ 31:=Nat.or_lt_two_pow (by omega) (by omega);unfold Jh;rw[e0 A (by omega),e0 B (by omega),e0 C (by omega),zwx A B (by omega) (by omega),zwx (A|||B) C (by omega) (by omega),zwx B C (by omega) (by omega)];have h1:=zux A B;have h2:=zux (A|||B) C;have h3:=zux B C;generalize (A|||B)|||C=X at*;generalize A|||B=Y at*;generalize B|||C=Z at*
 split
 ·omega
 ·split
  ·omega
  ·split<;>omega
def yq6(rb ro nb no n:Nat)(hn:n<=3)(l:Bool)(nd:Fl.Node)(lv:Value)(w:World)(h:Xu w nb no nd lv)(h1:w.cell? ⟨rb,ro+1,none⟩=some (.int .i64 n))(h2:w.cell? ⟨rb,ro+2,none⟩=some (.bool l)):
  Calls prog 138 #[.pointer (some ⟨rb,ro,none⟩),.pointer (some ⟨nb,no,none⟩)] w λe w'=>e=.returned (.bool (decide (Jh n nd.a nd.b nd.c=0) && (l||decide (nd.list=[]))))/\Below w.heap.size w w':=by
 have c2:=h.c2;have c3:=h.c3;have c4:=h.c4;have c5:=h.c5;obtain⟨ao,cap,rfl,_,hm,_⟩:=h.hl;have hle:decide (nd.list=[])=((nd.list.length:Int)==0):=by
  cases nd.list with
  |nil=>rfl
  |cons x y=>simp;omega
 unfold maxLen at hm;have HLE:Hid (decide (nd.list=[])=((nd.list.length:Int)==0)):=hle
 have hcase:n=0\/n=1\/n=2\/n=3:=by omega
 clear h hn hle;generalize nd.list.length=len at*;rcases hcase with rfl|rfl|rfl|rfl
 ·have HR:Hid (decide (Jh 0 nd.a nd.b nd.c=0)=(bits .or .i64 (bits .or .i64 (bits .or .i64 0 nd.a) nd.b) nd.c==0)):=rfl
  cases hz:(bits .or .i64 (bits .or .i64 (bits .or .i64 0 nd.a) nd.b) nd.c==0) with
  |true=>
   have HZ:Hid ((bits .or .i64 (bits .or .i64 (bits .or .i64 0 nd.a) nd.b) nd.c==0)=true):=hz
   cases l with
   |true=>
    go_enter func138,ntmps138
    go_wp2_with fail
    go_ret;exact⟨Zg (by rw[HR.out,HZ.out];rfl),Below.refl _ _⟩
   |false=>
    go_enter func138,ntmps138
    go_wp2_with fail
    go_ret;exact⟨Zg (by rw[HR.out,HZ.out,HLE.out];simp),Below.refl _ _⟩
  |false=>
   have HZ:Hid ((bits .or .i64 (bits .or .i64 (bits .or .i64 0 nd.a) nd.b) nd.c==0)=false):=hz
   go_enter func138,ntmps138
   go_wp2_with fail
   go_ret;exact⟨Zg (by rw[HR.out,HZ.out];simp),Below.refl _ _⟩
 ·have HR:Hid (decide (Jh 1 nd.a nd.b nd.c=0)=(bits .or .i64 (bits .or .i64 0 nd.b) nd.c==0)):=rfl
  cases hz:(bits .or .i64 (bits .or .i64 0 nd.b) nd.c==0) with
  |true=>
   have HZ:Hid ((bits .or .i64 (bits .or .i64 0 nd.b) nd.c==0)=true):=hz
   cases l with
   |true=>
    go_enter func138,ntmps138
    go_wp2_with fail
    go_ret;exact⟨Zg (by rw[HR.out,HZ.out];rfl),Below.refl _ _⟩
   |false=>
    go_enter func138,ntmps138
    go_wp2_with fail
    go_ret;exact⟨Zg (by rw[HR.out,HZ.out,HLE.out];simp),Below.refl _ _⟩
  |false=>
   have HZ:Hid ((bits .or .i64 (bits .or .i64 0 nd.b) nd.c==0)=false):=hz
   go_enter func138,ntmps138
   go_wp2_with fail
   go_ret;exact⟨Zg (by rw[HR.out,HZ.out];simp),Below.refl _ _⟩
 ·have HR:Hid (decide (Jh 2 nd.a nd.b nd.c=0)=(bits .or .i64 0 nd.c==0)):=rfl
  cases hz:(bits .or .i64 0 nd.c==0) with
  |true=>
   have HZ:Hid ((bits .or .i64 0 nd.c==0)=true):=hz
   cases l with
   |true=>
    go_enter func138,ntmps138
    go_wp2_with fail
    go_ret;exact⟨Zg (by rw[HR.out,HZ.out];rfl),Below.refl _ _⟩
   |false=>
    go_enter func138,ntmps138
    go_wp2_with fail
    go_ret;exact⟨Zg (by rw[HR.out,HZ.out,HLE.out];simp),Below.refl _ _⟩
  |false=>
   have HZ:Hid ((bits .or .i64 0 nd.c==0)=false):=hz
   go_enter func138,ntmps138
   go_wp2_with fail
   go_ret;exact⟨Zg (by rw[HR.out,HZ.out];simp),Below.refl _ _⟩
 ·have HR:Hid (decide (Jh 3 nd.a nd.b nd.c=0)=true):=rfl
  cases l with
  |true=>
   go_enter func138,ntmps138
   go_wp2_with fail
   go_ret;exact⟨Zg (by rw[HR.out];rfl),Below.refl _ _⟩
  |false=>
   go_enter func138,ntmps138
   go_wp2_with fail
   go_ret;exact⟨Zg (by rw[HR.out,HLE.out];simp),Below.refl _ _⟩
def yw0{nd:Fl.Node}{k:Nat}(hk:nd.kind=(k:Int))(h8:k<8):
  Fl.sound nd=((Fl.inR nd.level && (Fl.inR nd.a && (Fl.inR nd.b && Fl.inR nd.c))) && ((decide (Jh (Ys k) nd.a nd.b nd.c=0) && ((k==7)||decide (nd.list=[]))) && (decide (nd.list.length<=16) && nd.list.all Fl.inR))):=by
 have hcase:k=0\/k=1\/k=2\/k=3\/k=4\/k=5\/k=6\/k=7:=by omega
 cases ha:Fl.inR nd.a with
 |false=>simp[Fl.sound,Fl.okV,ha]
 |true=>
  cases hb:Fl.inR nd.b with
  |false=>simp[Fl.sound,Fl.okV,hb]
  |true=>
   cases hc:Fl.inR nd.c with
   |false=>simp[Fl.sound,Fl.okV,hc]
   |true=>
    have hr:=yxv (Ys k) nd.a nd.b nd.c ha hb hc;have hr':decide (Jh (Ys k) nd.a nd.b nd.c=0)=decide ((Ys k=0->nd.a=0)/\(Ys k<=1->nd.b=0)/\(Ys k<=2->nd.c=0)):=decide_eq_decide.2 hr;rw[hr',Bool.eq_iff_iff];rcases hcase with rfl|rfl|rfl|rfl|rfl|rfl|rfl|rfl<;>simp[Fl.sound,Fl.okV,hk,ha,hb,hc,Ys,Fl.fields]<;>grind
def yt8{nd:Fl.Node}(h:nd.kind<0\/8<=nd.kind):Fl.sound nd=false:=by
 have:Fl.fields nd.kind= -2:=by unfold Fl.fields;(repeat' split)<;>omega
 simp[Fl.sound,this]
def Yo(w:World)(v:Value)(w':World)(v':Value):Prop:=w.grownBy w' v.ownBlock/\(v'.ownBlock=v.ownBlock\/∃b,v'.ownBlock=some b/\w.heap.size<=b)
def Yo.refl(w:World)(v:Value):Yo w v w v:=⟨⟨rfl,rfl,rfl,Nat.le_refl _,λ_ _ _=>rfl⟩,.inl rfl⟩
def Yo.trans{w w1 w2:World}{v v1 v2:Value}(h:Yo w v w1 v1)(k:Yo w1 v1 w2 v2):Yo w v w2 v2:=by
 refine⟨⟨k.1.os.trans h.1.os,k.1.tape.trans h.1.tape,k.1.output.trans h.1.output,Nat.le_trans h.1.size k.1.size,λg hg hne=>?_⟩,?_⟩
 ·refine(k.1.block g (Nat.lt_of_lt_of_le hg h.1.size) (λhh=>?_)).trans (h.1.block g hg hne)
  rcases h.2 with h2|⟨b,hb,hlt⟩
  ·rw[h2]at hh;exact hne hh
  ·rw[hb]at hh;simp only[Option.some.injEq]at hh;omega
 ·rcases k.2 with k2|⟨b,hb,hlt⟩
  ·rcases h.2 with h2|⟨b,hb,hlt⟩
   ·exact .inl (k2.trans h2)
   ·exact .inr ⟨b,k2.trans hb,hlt⟩
  ·exact .inr ⟨b,hb,Nat.le_trans h.1.size hlt⟩
def Yo.below{w w1 w2:World}{v v1:Value}(h:Yo w v w1 v1)(hb:Below w1.heap.size w1 w2):Yo w v w2 v1:=
 h.trans ⟨⟨hb.os,hb.tape,hb.output,hb.size,λk hk _=>hb.block k hk⟩,.inl rfl⟩
def Yo.alloc{w w1:World}{v v1:Value}(h:Yo w v w1 v1)(o:Obj):Yo w v (w1.alloc o) v1:=h.below ((Below.refl _ _).alloc (Nat.le_refl _) _)
def Yo.append{w w1 w2:World}{v v1 v2:Value}(h:Yo w v w1 v1)(hg:w1.grownBy w2 v1.ownBlock)(hw:v2.ownBlock=v1.ownBlock\/v2.ownBlock=some w1.heap.size):Yo w v w2 v2:=
 h.trans ⟨hg,hw.imp id (λhh=>⟨_,hh,Nat.le_refl _⟩)⟩
def Yo.cell{w w':World}{v v':Value}(h:Yo w v w' v'){b o:Nat}(hlt:b<w.heap.size)(hne:some b≠v.ownBlock):w'.cell? ⟨b,o,none⟩=w.cell? ⟨b,o,none⟩:=World.cell?_of_block (w:=w) (h.1.block b hlt hne)
def Vy(w:World)(base:Nat)(v:Value)(n:Nat)(xs:List Value):Prop:=
 w.ownsRow base 5 1 v n xs\/∃g,base<=g/\g<w.heap.size/\v=.slice (some ⟨g,0,none⟩) n n/\xs.length=n/\∀j u,xs[j]?=some u->w.cell? ((⟨g,0,none⟩:Addr).add j)=some u
def Vy.lt{w:World}{base:Nat}{v:Value}{n:Nat}{xs:List Value}(h:Vy w base v n xs):∀k,v.ownBlock=some k->base<=k/\k<w.heap.size:=by
 rcases h with h|⟨g,h1,h2,rfl,_⟩
 ·exact h.lt
 ·intro k hk;simp only[Value.ownBlock,Option.some.injEq]at hk;subst hk;exact⟨h1,h2⟩
def Vy.below{w w':World}{base:Nat}{v:Value}{n:Nat}{xs:List Value}(h:Vy w base v n xs)(hb:Below w.heap.size w w'):Vy w' base v n xs:=by
 rcases h with h|⟨g,h1,h2,h3,h4,h5⟩
 ·exact .inl (h.kept (row:=none) ⟨hb.os,hb.tape,hb.output,hb.size,λk hk _=>hb.block k hk⟩ (by cases v.ownBlock<;>simp))
 ·refine .inr ⟨g,h1,Nat.lt_of_lt_of_le h2 hb.size,h3,h4,λj u hj=>?_⟩
  have:=h5 j u hj
  have h6:((⟨g,0,none⟩:Addr).add j).block=g:=by unfold Addr.add;split<;>rfl
  rw[hb.cell (by rw[h6];exact h2)];exact this
def Vy.alloc{w:World}{base:Nat}{v:Value}{n:Nat}{xs:List Value}(h:Vy w base v n xs)(o:Obj):Vy (w.alloc o) base v n xs:=h.below ((Below.refl _ _).alloc (Nat.le_refl _) _)
section
variable{P:Program}(w:World)
def zdv(base:Nat)(t ty:TypeId)(i:TypeInfo)(z:Value)(ht:P.underlying t=some (.slice 5))(hi:P.info? 5=some i)(hz:i.zero=some z)
  (hsize:i.size=1) (hby:i.bytes=1) (hzs:z.cells.size=1)
  (v:Value) (n:Nat) (xs:List Value) (hown:Vy w base v n xs)
  (a:Addr) (m c:Nat) (news:List Value) (hl:news.length=m*1) (hnews:∀j u,news[j]?=some u->w.cell? (a.add j)=some u) (h1:∀u∈news,u.oneCell'=true)
  (h63:n+m<=maxLen) (hbytes:(n+m)*1<=140737488355328) (hbase:base<=w.heap.size) (hm:0<m):
  ∃v' w',(Builtin.append_ #[t,t] ty #[v,.slice (some a) m c]).run P w=.ok v' w'/\w'.ownsRow base 5 1 v' (n+m) (xs++news)/\w.grownBy w' v.ownBlock/\(v'.ownBlock=v.ownBlock\/v'.ownBlock=some w.heap.size):=by
 rcases hown with hown|⟨g,hg1,hg2,rfl,hxl,hcells⟩
 ·exact zq2 (P:=P) w base t ty 5 i z 1 1 ht hi hz hsize hby hzs (by decide) v n xs hown a m c news hl hnews h1 h63 hbytes hbase hm
 ·have h63':((n+m:Nat):Int)<=9223372036854775807:=by unfold maxLen at h63;omega
  have hr:=run_append_grow (P:=P) w t ty 5 i z ht hi hz ⟨g,0,none⟩ n n xs (by rw[hsize,hxl];omega) hcells a m c news (by rw[hsize];exact hl) hnews (by omega) h63' (growslice_fits (by omega) (by rw[hby];exact hbytes));have hge:=grownCap_ge w (n+m) n 5;have hcm2:grownCap w (n+m) n 5<=maxLen:=grownCap_le_maxLen w (n+m) n 5 h63;have hlen:(xs++news).length=(n+m)*1:=(by rw[List.length_append,hxl,hl];omega);refine⟨_,_,hr,⟨hlen,.inr ⟨w.heap.size,_,_,rfl,hbase,heap_alloc_new w.drew _,hge,hcm2,?_,?_⟩⟩,⟨rfl,rfl,rfl,by simp,λk hk _=>heap_alloc_old w.drew _ (by exact hk)⟩,.inr rfl⟩
  ·simp only[Array.size_append,List.size_toArray,size_zeroCells,hzs,hxl,hl];omega
  ·simp only[Array.toList_append,List.append_assoc]
   rw[<-List.append_assoc,<-hlen];exact List.take_left
def Ub{ops:Array Oper}{rest:List Oper}{o:Oper}{a:Act}{Q:Exit->Act->World->Prop}(hgd:o.guard=none)(s x:Operand)(t:TypeId)
  (ho:o.op=.call {callee:=.builtin .append,args:=#[s,x],argTypes:=#[t,t]})
  (base:Nat) (i:TypeInfo) (z:Value) (ht:P.underlying t=some (.slice 5)) (hi:P.info? 5=some i) (hz:i.zero=some z)
  (hsize:i.size=1) (hby:i.bytes=1) (hzs:z.cells.size=1)
  (v:Value) (n:Nat) (xs:List Value) (hs:a.eval s=v) (hown:Vy w base v n xs)
  (ad:Addr) (m c:Nat) (news:List Value) (hx:a.eval x=.slice (some ad) m c) (hl:news.length=m*1) (hm:0<m) (hnews:∀j u,news[j]?=some u->w.cell? (ad.add j)=some u) (h1:∀u∈news,u.oneCell'=true)
  (h63:n+m<=maxLen) (hbytes:(n+m)*1<=140737488355328) (hbase:base<=w.heap.size)
  (h:∀v' w',w'.ownsRow base 5 1 v' (n+m) (xs++news)->w.grownBy w' v.ownBlock->(v'.ownBlock=v.ownBlock\/v'.ownBlock=some w.heap.size)->wpList P ops Q rest (a.put o.dst v') w'):wpList P ops Q (o::rest) a w:=
 wpList_plain hgd λ_ hK=>by
  obtain⟨v',w',hr,h2,h3,h4⟩:=zdv (P:=P) w base t o.type i z ht hi hz hsize hby hzs v n xs hown ad m c news hl hnews h1 h63 hbytes hbase hm;have hgo:=hK _ _ (h v' w' h2 h3 h4);unfold Oper.wp execOp;simp only[ho,resolve,invoke,builtin,Sem.run_bind,Sem.run_pure,Result.andThen_ok,List.map_toArray,List.map_cons,List.map_nil,hs,hx,hr];exact hgo
end
def Tryz.infoByte:(Tryz.prog.info? 5).map (λi=>(i.zero,i.size,i.bytes))=some (some (.int .u8 0),1,1):=by kernel_rfl
def Zb(u:UInt8):Value:=.int .u8 (u.toNat:Int)
def or128:∀x,x<256->x|||128=x % 128+128:=by decide
def yw1(x:Nat)(hx:x<256):bits .or .u8 (x:Int) 128=((x % 128+128:Nat):Int):=by
 have:=u8_or_nat x 128 hx (by omega);rw[or128 x hx]at this;simpa using this
def Ui(n:Nat)(hn:n<2147483648)(base:Nat)(bs:List UInt8)(v:Value)(w:World)(hown:Vy w base v bs.length (bs.map Zb))(hlen:bs.length<=1000000)(hbase:base<=w.heap.size):
  Calls prog 98 #[v,.int .i64 n] w λe w'=>∃v',e=.returned v'/\w'.ownsRow base 5 1 v' (bs++Fl.coded n).length ((bs++Fl.coded n).map Zb)/\Below base w w'/\Yo w v w' v':=by
 obtain⟨i0,hi,hz0,hz1,hz2⟩:=info_parts Tryz.infoByte;have HO0:Hid (Vy w base v bs.length (bs.map Zb)):=hown;clear hown
 go_enter func98,ntmps98
 go_wp2_with fail
 go_loopw [0,1] (λvv i wr=>∃(f k:Nat) (xs:List UInt8),f<=9/\k<128 ^ f/\k<2147483648/\i=.int .i64 k/\bs++Fl.coded n=xs++Fl.codedF f k/\xs.length+f<=bs.length+9/\Vy wr base vv xs.length (xs.map Zb)/\Below base w wr/\Yo w v wr vv) (λ_ i _=>(intOf i).toNat)
 case atStart=>exact⟨9,n,bs,by omega,by omega,hn,rfl,rfl,by omega,HO0.out,Below.refl _ _,Yo.refl _ _⟩
 case round=>
  obtain⟨f,k,xs,hf,hkf,hk,rfl,hspec,hxl,hown,hbel,hstp⟩:=hrel;have HST:Hid (Yo w v wr u0):=hstp;have HSP:Hid (bs++Fl.coded n=xs++Fl.codedF f k):=hspec;have HB:Hid (Below base w wr):=hbel;have HKF:Hid (k<128 ^ f):=hkf;have HO:Hid (Vy wr base u0 xs.length (xs.map Zb)):=hown;clear hspec hbel hkf hown hstp
  by_cases hge:128<=k
  ·have hge':(128:Int)<=(k:Int):=by omega
   have hor:=yw1 (k % 256) (by omega)
   go_wp2_with (at_builtin;refine Ub _ rfl _ _ 30 rfl base i0 (.int .u8 0) underlying30 hi hz0 hz1 hz2 rfl _ _ _ rfl (HO.out.alloc _) ⟨_,0,none⟩ 1 1 [.int .u8 (bits .or .u8 ((k:Int) % 256) 128)] rfl rfl (by decide) Uw ?c2 ?c3 ?c4 ?c5 ?_)
   case c2=>intro u hu;simp at hu;subst hu;rfl
   case c3=>unfold maxLen;omega
   case c4=>omega
   case c5=>have:=HB.out.size;simp;omega
   ·intro v' w2 hown' hgrow hwhere
    have HS2:Hid (Yo w v w2 v'):=(HST.out.alloc _).append hgrow (by simp only[World.size_alloc]at hwhere⊢;exact hwhere)
    have hb2:Below base w w2:=HB.out.trans ⟨hgrow.os,hgrow.tape,hgrow.output,Nat.le_trans (by simp) hgrow.size,λg hg=>by
     have hsz:=HB.out.size;refine(hgrow.block g (by simp;omega) (λhh=>?_)).trans (Below.heap_alloc _ _ _ (by omega))
     have:=(HO.out.lt g hh.symm).1;omega⟩
    have HB2:Hid (Below base w w2):=hb2
    obtain⟨f',rfl⟩:∃f',f=f'+1:=⟨f - 1,by
     cases f with
     |zero=>have:=HKF.out;simp at this;omega
     |succ g=>omega⟩
    have hbv:(.int .u8 (bits .or .u8 ((k:Int) % 256) 128):Value)=Zb (UInt8.ofNat (k % 128+128)):=by
     have h1:((k:Int) % 256)=((k % 256:Nat):Int):=(by omega);rw[h1,hor];have h2:(UInt8.ofNat (k % 128+128)).toNat=k % 128+128:=(by simp;omega);unfold Zb;rw[h2]
     congr 1;omega
    have ho1:w2.ownsRow base 5 1 v' (xs++[UInt8.ofNat (k % 128+128)]).length ((xs++[UInt8.ofNat (k % 128+128)]).map Zb):=(by rw[hbv]at hown';simpa using hown');have HO1:Hid (w2.ownsRow base 5 1 v' (xs++[UInt8.ofNat (k % 128+128)]).length ((xs++[UInt8.ofNat (k % 128+128)]).map Zb)):=ho1;have HSP2:Hid (bs++Fl.coded n=(xs++[UInt8.ofNat (k % 128+128)])++Fl.codedF f' (k / 128)):=by
     show bs++Fl.coded n=_;rw[HSP.out];simp[Fl.codedF,show ¬k<128 by omega]
    have HK2:Hid (k / 128<128 ^ f'):=by
     have:=HKF.out;rw[Nat.pow_succ]at this;exact Nat.div_lt_of_lt_mul (by rw[Nat.mul_comm];exact this)
    clear hown' hgrow hwhere hb2 hbv ho1 hor;go_wp2;exact⟨⟨f',k / 128,xs++[UInt8.ofNat (k % 128+128)],by omega,HK2.out,by omega,by go_num,HSP2.out,by simp;omega,.inl HO1.out,HB2.out,HS2.out⟩,by simp[intOf];omega⟩
  ·have hge':(k:Int)<128:=by omega
   have hc:Fl.codedF f k=[UInt8.ofNat k]:=by
    cases f with
    |zero=>rfl
    |succ g=>simp[Fl.codedF,show k<128 by omega]
   have HC:Hid (Fl.codedF f k=[UInt8.ofNat k]):=hc;clear hc
   go_wp2_with (at_builtin;refine Ub _ rfl _ _ 30 rfl base i0 (.int .u8 0) underlying30 hi hz0 hz1 hz2 rfl _ _ _ rfl (HO.out.alloc _) ⟨_,0,none⟩ 1 1 [.int .u8 (k:Int)] rfl rfl (by decide) Uw ?d2 ?d3 ?d4 ?d5 ?_)
   case d2=>intro u hu;simp at hu;subst hu;rfl
   case d3=>unfold maxLen;omega
   case d4=>omega
   case d5=>have:=HB.out.size;simp;omega
   ·intro v' w2 hown' hgrow hwhere
    have HS2:Hid (Yo w v w2 v'):=(HST.out.alloc _).append hgrow (by simp only[World.size_alloc]at hwhere⊢;exact hwhere)
    have hb2:Below base w w2:=HB.out.trans ⟨hgrow.os,hgrow.tape,hgrow.output,Nat.le_trans (by simp) hgrow.size,λg hg=>by
     have hsz:=HB.out.size;refine(hgrow.block g (by simp;omega) (λhh=>?_)).trans (Below.heap_alloc _ _ _ (by omega))
     have:=(HO.out.lt g hh.symm).1;omega⟩
    have HB2:Hid (Below base w w2):=hb2;have hbv:(.int .u8 (k:Int):Value)=Zb (UInt8.ofNat k):=by
     have h2:(UInt8.ofNat k).toNat=k:=(by simp;omega);unfold Zb;rw[h2]
    have ho1:w2.ownsRow base 5 1 v' (bs++Fl.coded n).length ((bs++Fl.coded n).map Zb):=by
     rw[hbv]at hown';rw[HSP.out,HC.out];simpa using hown'
    have HO1:Hid (w2.ownsRow base 5 1 v' (bs++Fl.coded n).length ((bs++Fl.coded n).map Zb)):=ho1;clear hown' hgrow hwhere hb2 hbv ho1;go_wp2;go_ret;exact⟨v',rfl,HO1.out,HB2.out,HS2.out⟩
def zt6(l:List Int)(hl:l.all Fl.inR=true)(hll:l.length<=200)(B base:Nat)(hBb:B<=base)(lv:Value)(bs:List UInt8)(v:Value)(w:World)(hi:Zy B w lv l)(hown:Vy w base v bs.length (bs.map Zb))(hlen:bs.length<=900000)(hbase:base<=w.heap.size):
  Calls prog 97 #[v,lv] w λe w'=>∃v',e=.returned v'/\w'.ownsRow base 5 1 v' (bs++(Fl.coded l.length++Fl.codedAll l)).length ((bs++(Fl.coded l.length++Fl.codedAll l)).map Zb)/\Below base w w'/\Yo w v w' v':=by
 have HA:Hid (∀(k:Nat) (ys:List UInt8) (u:Value) (W:World),k<2147483648->Vy W base u ys.length (ys.map Zb)->ys.length<=1000000->base<=W.heap.size->Calls prog 98 #[u,.int .i64 k] W λe w'=>∃v',e=.returned v'/\w'.ownsRow base 5 1 v' (ys++Fl.coded k).length ((ys++Fl.coded k).map Zb)/\Below base W w'/\Yo W u w' v'):=λk ys u W h1 h2 h3 h4=>Ui k h1 base ys u W h2 h3 h4;obtain⟨ao,cap,rfl,_,hm,_⟩:=id hi;have HI:Hid (Zy B w (.slice ao l.length cap) l):=hi;have HL:Hid (l.all Fl.inR=true):=hl;have HO:Hid (Vy w base v bs.length (bs.map Zb)):=hown;clear hi hl hown hm
 go_enter func97,ntmps97
 go_wp2_with (go_at_call 98;refine(HA.out l.length bs v w (by omega) HO.out (by omega) hbase).mono ?_;rintro e w1 ⟨v1,rfl,ho1,hb1,hs1⟩)
 have HO1:Hid (w1.ownsRow base 5 1 v1 (bs++Fl.coded l.length).length ((bs++Fl.coded l.length).map Zb)):=ho1;have HB1:Hid (Below base w w1):=hb1;have HS1:Hid (Yo w v w1 v1):=hs1;clear ho1 hb1 hs1
 go_wp2_with fail
 go_loopw [0,13] (λvv i wr=>∃(j:Nat) (xs:List UInt8),j<=l.length/\i=.int .i64 j/\xs=bs++(Fl.coded l.length++Fl.codedAll (l.take j))/\wr.ownsRow base 5 1 vv xs.length (xs.map Zb)/\Below base w wr/\Yo w v wr vv) (λ_ i _=>l.length - (intOf i).toNat)
 case atStart=>exact⟨0,bs++Fl.coded l.length,by omega,rfl,by simp[Fl.codedAll],HO1.out,HB1.out,HS1.out⟩
 case round=>
  clear HO1 HB1 HS1;obtain⟨j,xs,hj,rfl,hxs,hown,hbel,hstp⟩:=hrel;have HST:Hid (Yo w v wr u0):=hstp;have HXS:Hid (xs=bs++(Fl.coded l.length++Fl.codedAll (l.take j))):=hxs;have HOW:Hid (wr.ownsRow base 5 1 u0 xs.length (xs.map Zb)):=hown;have HBE:Hid (Below base w wr):=hbel;have hxl:xs.length<=1000000:=by
   have h1:=Fl.codedAll_len (l.take j);have h2:=Fl.coded_len l.length;have h3:(l.take j).length<=200:=(by simp;omega);rw[hxs];simp only[List.length_append];omega
  clear hxs hown hbel hstp
  by_cases hlt:j<l.length
  ·obtain⟨b,off,rfl,hbB,hcj⟩:=((HI.out).below (HBE.out.mono hBb)).at hlt
   have hji:(j:Int)<(l.length:Int):=(by omega);have hin:Fl.inR (l.getD j 0)=true:=by
    have:=HL.out;rw[List.all_eq_true]at this;exact this _ (by rw[List.getD_eq_getElem?_getD,List.getElem?_eq_getElem hlt];exact List.getElem_mem hlt)
   simp only[Fl.inR,Bool.and_eq_true,decide_eq_true_eq]at hin;obtain⟨x,hx⟩:∃x:Nat,(x:Int)=l.getD j 0:=⟨(l.getD j 0).toNat,by omega⟩;have hx31:x<2147483648:=(by omega);rw[<-hx]at hcj;have HX:Hid ((x:Int)=l.getD j 0):=hx;have hbw:base<=wr.heap.size:=Nat.le_trans hbase HBE.out.size;clear hin hx
   go_wp2_with (go_at_call 98;refine(HA.out x xs u0 wr hx31 (.inl HOW.out) hxl hbw).mono ?_;rintro e w2 ⟨v2,rfl,ho2,hb2,hs2⟩)
   have HO2:Hid (w2.ownsRow base 5 1 v2 (xs++Fl.coded x).length ((xs++Fl.coded x).map Zb)):=ho2;have HB2:Hid (Below base w w2):=HBE.out.trans hb2;have HS2:Hid (Yo w v w2 v2):=HST.out.trans hs2;clear ho2 hb2 hs2;go_wp2;refine⟨⟨j+1,xs++Fl.coded x,by omega,by go_num,?_,HO2.out,HB2.out,HS2.out⟩,by simp[intOf];omega⟩;have hg:l.take (j+1)=l.take j++[(x:Int)]:=by
    rw[HX.out,List.take_succ_eq_append_getElem hlt,List.getD_eq_getElem?_getD,List.getElem?_eq_getElem hlt];rfl
   rw[hg,HXS.out];simp[Fl.codedAll]
  ·have hji:(l.length:Int)<=(j:Int):=by omega
   have hjl:j=l.length:=(by omega);have HF:Hid (xs=bs++(Fl.coded l.length++Fl.codedAll l)):=by
    show xs=_;rw[HXS.out,hjl,List.take_length]
   clear hjl;go_wp2;go_ret;exact⟨u0,rfl,by rw[<-HF.out];exact HOW.out,HBE.out,HST.out⟩
def zc0(ls:List Int)(ns:List Fl.Node)(la na:Option Addr)(lc nc B:Nat)(w:World)(hl:Zy B w (.slice la ls.length lc) ls)(hn:Zo B w (.slice na ns.length nc) ns)(hB:B<=w.heap.size):
  Calls prog 50 #[.agg #[.slice la ls.length lc,.slice na ns.length nc]] w λe w'=>e=.returned (.bool (decide (ls.length<=4) && (ls.all Fl.inR && (decide (1<=ns.length) && decide (ns.length<=200)))))/\Below w.heap.size w w':=by
 have HA:Hid (∀W,Below B w W->Calls prog 91 #[.slice la ls.length lc] W λe w'=>e=.returned (.bool (ls.all Fl.inR))/\Below W.heap.size W w'):=λW hW=>zx1 ls _ B W (hl.below hW);obtain⟨r,hr⟩:∃r,r=(decide (ls.length<=4) && (ls.all Fl.inR && (decide (1<=ns.length) && decide (ns.length<=200)))):=⟨_,rfl⟩;rw[<-hr];have HR:Hid (r=(decide (ls.length<=4) && (ls.all Fl.inR && (decide (1<=ns.length) && decide (ns.length<=200))))):=hr;clear hl hr hn
 by_cases h4:ls.length<=4
 ·have h4':(ls.length:Int)<=4:=by omega
  go_enter func50,ntmps50
  go_wp2_with fail
  have hBa:Below B w (w.alloc (.cells #[.slice la ls.length lc,.slice na ns.length nc] 26)):=(Below.refl _ w).alloc hB _;refine(HA.out _ hBa).mono ?_;rintro e w1 ⟨rfl,hb1⟩;have p1:w1.cell? ⟨w.heap.size,1,none⟩=some (.slice na ns.length nc):=(hb1.cell (p:=⟨w.heap.size,1,none⟩) (by simp)).trans (by simp);have HB1:Hid (Below w.heap.size w w1):=((Below.refl _ w).alloc (Nat.le_refl _) _).trans (hb1.mono (by simp));clear hb1 hBa HA
  cases ha:ls.all Fl.inR with
  |false=>
   have HS:Hid (r=false):=(by show r=false;rw[HR.out,ha];simp);clear ha;go_wp2;go_ret;exact⟨Zg HS.out.symm,HB1.out⟩
  |true=>
   have HA1:Hid (ls.all Fl.inR=true):=ha;clear ha
   by_cases h1:1<=ns.length
   ·have h1':(1:Int)<=(ns.length:Int):=by omega
    by_cases h2:ns.length<=200
    ·have h2':(ns.length:Int)<=200:=by omega
     have HS:Hid (r=true):=(by show r=true;rw[HR.out,HA1.out];simp[h4,h1,h2]);go_wp2;go_ret;exact⟨Zg HS.out.symm,HB1.out⟩
    ·have h2':(200:Int)<(ns.length:Int):=by omega
     have HS:Hid (r=false):=(by show r=false;rw[HR.out,HA1.out];simp[h2]);go_wp2;go_ret;exact⟨Zg (by rw[HS.out];simp;omega),HB1.out⟩
   ·have h1':(ns.length:Int)<1:=by omega
    have HS:Hid (r=false):=(by show r=false;rw[HR.out,HA1.out];simp[h1]);go_wp2;go_ret;exact⟨Zg HS.out.symm,HB1.out⟩
 ·have h4':(4:Int)<(ls.length:Int):=by omega
  have HS:Hid (r=false):=(by show r=false;rw[HR.out];simp[h4])
  go_enter func50,ntmps50
  go_wp2_with fail
  go_ret;exact⟨Zg HS.out.symm,(Below.refl _ w).alloc (Nat.le_refl _) _⟩
def its_out(tp:Value)(nb no:Nat)(K:Int)(w:World)(c0:w.cell? ⟨nb,no,none⟩=some (.int .i64 K))(hk:K<0\/8<=K):
  Calls prog 93 #[tp,.pointer (some ⟨nb,no,none⟩)] w λe w'=>e=.returned (.bool false)/\Below w.heap.size w w':=by
 by_cases hk0:K<0
 ·clear hk
  go_enter func93,ntmps93
  go_wp2_with fail
  refine Yf 29 5 _ 12 _ (by kernel_rfl) (by kernel_rfl) rfl rfl (λops hY hY2=>?_);simp only[List.take_succ_cons,List.take_zero,List.drop_succ_cons,List.drop_zero]
  iterate 29 still_step
  refine wpStill_nil ?_
  go_wp2_with fail
  go_ret;exact⟨rfl,(Below.refl _ _).drew⟩
 ·have hk8:8<=K:=by omega
  clear hk
  go_enter func93,ntmps93
  go_wp2_with fail
  refine Yf 29 5 _ 12 _ (by kernel_rfl) (by kernel_rfl) rfl rfl (λops hY hY2=>?_);simp only[List.take_succ_cons,List.take_zero,List.drop_succ_cons,List.drop_zero]
  iterate 29 still_step
  refine wpStill_nil ?_
  go_wp2_with fail
  go_ret;exact⟨rfl,(Below.refl _ _).drew⟩
def its_in{tb nb no k:Nat}{nd:Fl.Node}{lv:Value}{w:World}(h:Xu w nb no nd lv)(hr:Yq w tb 0)(hk:nd.kind=(k:Int))(h8:k<8):
  Calls prog 93 #[.pointer (some ⟨tb,0,none⟩),.pointer (some ⟨nb,no,none⟩)] w λe w'=>e=.returned (.bool (Fl.sound nd))/\Below w.heap.size w w':=by
 have HSD:Hid (Fl.sound nd=((Fl.inR nd.level && (Fl.inR nd.a && (Fl.inR nd.b && Fl.inR nd.c))) && ((decide (Jh (Ys k) nd.a nd.b nd.c=0) && ((k==7)||decide (nd.list=[]))) && (decide (nd.list.length<=16) && nd.list.all Fl.inR)))):=yw0 hk h8;have HN:Hid (Xu w nb no nd lv):=h;have HR:Hid (Yq w tb 0):=hr
 have c0:w.cell? ⟨nb,no,none⟩=some (.int .i64 (k:Int)):=by rw[<-hk];exact h.c0
 have c1:=h.c1;have c2:=h.c2;have c3:=h.c3;have c4:=h.c4;obtain⟨r,hres⟩:∃r,r=Fl.sound nd:=⟨_,rfl⟩;rw[<-hres];have HRS:Hid (r=Fl.sound nd):=hres
 have h8':(k:Int)<8:=by omega
 have h0':(0:Int)<=(k:Int):=by omega
 have HK:Hid (nd.kind=(k:Int)):=hk;clear h hr hk hres
 go_enter func93,ntmps93
 go_wp2_with fail
 refine Yf 29 5 _ 12 _ (by kernel_rfl) (by kernel_rfl) rfl rfl (λops hY hY2=>?_);simp only[List.take_succ_cons,List.take_zero,List.drop_succ_cons,List.drop_zero]
 iterate 29 still_step
 refine wpStill_nil ?_;clear c0 c1 c2 c3 c4
 go_wp2_with fail
 have hfr:Zy (w.heap.size+1) (w.drew.alloc (.cells #[.int .i64 nd.level,.int .i64 nd.a,.int .i64 nd.b,.int .i64 nd.c] 3)) (.slice (some ⟨w.heap.size,0,none⟩) 4 4) [nd.level,nd.a,nd.b,nd.c]:=Zy.fresh (w:=w.drew) [nd.level,nd.a,nd.b,nd.c] 3 (by simp[maxLen]) _ (by simp);refine(zx1 [nd.level,nd.a,nd.b,nd.c] _ _ _ hfr).mono ?_;clear hfr;rintro e w1 ⟨rfl,hb1⟩;have HB1:Hid (Below w.heap.size w w1):=(((Below.refl _ w).drew).alloc (Nat.le_refl _) _).trans (hb1.mono (by simp[World.size_alloc]));clear hb1
 have hAll:[nd.level,nd.a,nd.b,nd.c].all Fl.inR=(Fl.inR nd.level && (Fl.inR nd.a && (Fl.inR nd.b && Fl.inR nd.c))):=by simp[Bool.and_assoc]
 obtain⟨t,ht⟩:∃t,t=[nd.level,nd.a,nd.b,nd.c].all Fl.inR:=⟨_,rfl⟩;rw[<-ht];rw[hAll]at ht;clear hAll
 cases t with
 |false=>
  have HS:Hid (r=false):=(by show r=false;rw[HRS.out,HSD.out,<-ht];rfl);clear ht;go_wp2;go_ret;exact⟨Zg HS.out.symm,HB1.out⟩
 |true=>
  have HS:Hid (r=((decide (Jh (Ys k) nd.a nd.b nd.c=0) && ((k==7)||decide (nd.list=[]))) && (decide (nd.list.length<=16) && nd.list.all Fl.inR))):=(by show r=_;rw[HRS.out,HSD.out,<-ht];rfl);have HBD:Hid (Below w.heap.size w w1.drew):=HB1.out.drew;have hN1:=HN.out.below HBD.out;have hR1:=HR.out.below HBD.out k h8;have d0:w1.cell? ⟨nb,no,none⟩=some (.int .i64 (k:Int)):=(HB1.out.cell (p:=⟨nb,no,none⟩) (World.block_lt_of_cell? w _ HN.out.c0)).trans (by rw[HN.out.c0,HK.out]);have e1:w1.drew.cell? ⟨tb,k*4+1,none⟩=some (.int .i64 (Ys k:Nat)):=(by have:=hR1.1;simpa using this);have e2:w1.drew.cell? ⟨tb,k*4+2,none⟩=some (.bool (k==7)):=(by have:=hR1.2.1;simpa using this);have hnf:Ys k<=3:=(by unfold Ys;(repeat' split)<;>omega);have HC:Hid (Calls prog 138 #[.pointer (some ⟨tb,k*4,none⟩),.pointer (some ⟨nb,no,none⟩)] w1.drew λe w'=>e=.returned (.bool (decide (Jh (Ys k) nd.a nd.b nd.c=0) && ((k==7)||decide (nd.list=[]))))/\Below w1.drew.heap.size w1.drew w'):=yq6 tb (k*4) nb no (Ys k) hnf (k==7) nd lv w1.drew hN1 e1 e2;obtain⟨u,hu⟩:∃u,u=(decide (Jh (Ys k) nd.a nd.b nd.c=0) && ((k==7)||decide (nd.list=[]))):=⟨_,rfl⟩;rw[<-hu]at HC HS;clear ht hN1 hR1 e1 e2 hu;obtain⟨lao,lcap,hlv,hlc,hlm,hlx⟩:=id HN.out.hl;subst hlv;unfold maxLen at hlm;clear hlx hlc
  go_wp2_with fail
  refine Yf 8 9 _ 17 _ (by kernel_rfl) (by kernel_rfl) rfl rfl (λops hY hY2=>?_);simp only[List.take_succ_cons,List.take_zero,List.drop_succ_cons,List.drop_zero]
  iterate 8 still_step
  refine wpStill_nil ?_
  go_wp2_with fail
  refine(HC.out).mono ?_;rintro e w2 ⟨rfl,hb2⟩;have HB2:Hid (Below w.heap.size w w2):=HBD.out.trans (hb2.mono HBD.out.size);have hN2:=HN.out.below HB2.out;have f5:=hN2.c5;have HL2:Hid (∀W,Below w.heap.size w W->Calls prog 91 #[.slice lao nd.list.length lcap] W λe w'=>e=.returned (.bool (nd.list.all Fl.inR))/\Below W.heap.size W w'):=λW hW=>zx1 nd.list _ w.heap.size W (HN.out.hl.below hW);clear hb2 hN2 HC d0
  cases u with
  |false=>
   have HS2:Hid (r=false):=(by show r=false;rw[HS.out];rfl);go_wp2;go_ret;exact⟨Zg HS2.out.symm,HB2.out⟩
  |true=>
   by_cases h16:nd.list.length<=16
   ·have h16':(nd.list.length:Int)<=16:=by omega
    have HS2:Hid (r=nd.list.all Fl.inR):=(by show r=_;rw[HS.out];simp[h16])
    go_wp2_with fail
    refine(HL2.out _ HB2.out).mono ?_;rintro e w3 ⟨rfl,hb3⟩;have HB3:Hid (Below w.heap.size w w3):=HB2.out.trans (hb3.mono HB2.out.size);clear hb3 f5;obtain⟨v,hv⟩:∃v,v=nd.list.all Fl.inR:=⟨_,rfl⟩;rw[<-hv]at HS2⊢;clear hv;go_wp2;go_ret;exact⟨Zg HS2.out.symm,HB3.out⟩
   ·have h16':(16:Int)<(nd.list.length:Int):=by omega
    have HS2:Hid (r=false):=(by show r=_;rw[HS.out];simp[h16]);go_wp2;go_ret;exact⟨Zg HS2.out.symm,HB2.out⟩
def its_any{tb nb no:Nat}{nd:Fl.Node}{lv:Value}{w:World}(h:Xu w nb no nd lv)(hr:Yq w tb 0):
  Calls prog 93 #[.pointer (some ⟨tb,0,none⟩),.pointer (some ⟨nb,no,none⟩)] w λe w'=>e=.returned (.bool (Fl.sound nd))/\Below w.heap.size w w':=by
 by_cases hk:0<=nd.kind/\nd.kind<8
 ·exact its_in (k:=nd.kind.toNat) h hr (by omega) (by omega)
 ·rw[yt8 (by omega)];exact its_out _ nb no nd.kind w h.c0 (by omega)
namespace Fl
def firstBad(ns:List Node):Int:=match (List.range ns.length).find? (bad ns) with|some k=>(k:Int)|none=> -1
def bad_eq(ns:List Node)(k:Nat):bad ns k=(!sound (nth ns k)||((prem (nth ns k)).any (λp=>decide ((k:Int)<=p))||dupAt ns k)):=rfl
def shaped_bad(ns:List Node)(h:0<=firstBad ns):shaped ns=firstBad ns:=by
 unfold firstBad at*;unfold shaped
 cases hf:(List.range ns.length).find? (bad ns) with
 |some k=>rfl
 |none=>rw[hf]at h;simp at h
def firstBad_lt(ns:List Node):firstBad ns<(ns.length:Int)/\ -1<=firstBad ns:=by
 unfold firstBad
 cases hf:(List.range ns.length).find? (bad ns) with
 |some k=>have:=List.mem_of_find?_eq_some hf;simp at this;simp only;omega
 |none=>simp only;omega
def no_bad(ns:List Node)(h:firstBad ns<0)(k:Nat)(hk:k<ns.length):bad ns k=false:=by
 unfold firstBad at h
 cases hf:(List.range ns.length).find? (bad ns) with
 |some j=>rw[hf]at h;simp only at h;omega
 |none=>
  rw[List.find?_eq_none]at hf;have:=hf k (by simpa using hk);simpa using this
def allGood_bad(ns:List Node)(h:firstBad ns<0):allGood ns:=λk hk=>by
 have:=no_bad ns h k hk;rw[bad_eq]at this;simp only[Bool.or_eq_false_iff,Bool.not_eq_false']at this;exact⟨this.1,this.2.1⟩
def shaped_un(ns:List Node)(h:firstBad ns<0):shaped ns=firstUn ns:=by
 have hd:firstDup ns= -1:=by
  unfold firstDup
  rw[find_none _ _ (λk hk=>by
   have:=no_bad ns h k hk;rw[bad_eq]at this;simp only[Bool.or_eq_false_iff,Bool.not_eq_false']at this
   exact this.2.2)]
 rw[shaped_good (allGood_bad ns h),hd];simp
end Fl
structure Uh(ns:List Fl.Node)(w wr:World)(TB B T:Nat)(j:Nat)(seen:List Fl.Node):Prop where
 hj:j<=ns.length
 hlen:seen.length=j
 hmem:∀x,x∈seen ↔ x∈ns.take j
 hno:∀t,t<j->Fl.bad ns t=false
 hs:zv5 wr T B seen
 hr:Yq wr TB 0
 hb:Below w.heap.size w wr
 hw:w.heap.size<=TB
 hTB:TB<B
 hBT:B<T
 hz:T<wr.heap.size
def Uh.below{ns:List Fl.Node}{w wr w':World}{TB B T:Nat}{j:Nat}{seen:List Fl.Node}(h:Uh ns w wr TB B T j seen)(hb:Below wr.heap.size wr w'):Uh ns w w' TB B T j seen:=
 ⟨h.hj,h.hlen,h.hmem,h.hno,h.hs.kept (row:=none) ⟨hb.os,hb.tape,hb.output,hb.size,λk hk _=>hb.block k hk⟩ (by simp) (by simp),h.hr.below hb,h.hb.trans (hb.mono h.hb.size),h.hw,h.hTB,h.hBT,Nat.lt_of_lt_of_le h.hz hb.size⟩
def zj6(ns:List Fl.Node)(nv:Value)(w:World)(hn:Zo w.heap.size w nv ns)(hlen:ns.length<=1000):
  Calls prog 51 #[nv] w λe w'=>e=.returned (.int .i64 (Fl.firstBad ns))/\Below w.heap.size w w':=by
 obtain⟨na,nc,rfl,_,hm,_⟩:=id hn;have HN:Hid (Zo w.heap.size w (.slice na ns.length nc) ns):=hn;clear hn hm
 go_enter func51,ntmps51
 go_wp2_with (first|(go_at_call 38;refine(zxw _).mono ?_;rintro e w1 ⟨rfl,rfl⟩)|(refine Uz rfl _ _ 98 rfl _ _ _ Zv rfl (by simp) rfl Tryz.infoRules zxx zv3 ?_))
 have hrow:((w.alloc (.cells Zv 98)).alloc (.cells Zv 98)).heap[w.heap.size+1]?=some (.cells Zv 98 (0,0)):=by
  have:=heap_alloc_last (w.alloc (.cells Zv 98)) (.cells Zv 98)
  rwa [World.size_alloc]at this
 have hb0:Below w.heap.size w ((w.alloc (.cells Zv 98)).alloc (.cells Zv 98)):=((Below.refl _ _).alloc (Nat.le_refl _) _).alloc (by simp) _;refine(ze3 _).mono ?_;rintro e w1 ⟨rfl,hs1,hb1,hz1⟩;simp only[World.size_alloc]at hs1 hb1 hz1⊢
 have HG0:Hid (Uh ns w w1 (w.heap.size+1) (w.heap.size+1+1) (w.heap.size+1+1+1) 0 []):=
  ⟨by omega,rfl,by simp,λt ht=>by omega,hs1,zov ((hb1.block _ (by omega)).trans hrow),hb0.trans (hb1.mono (by omega)),by omega,by omega,by omega,by omega⟩
 obtain⟨TB,hTB⟩:∃TB,TB=w.heap.size+1:=⟨_,rfl⟩;rw[<-hTB]at HG0⊢;obtain⟨MB,hMB⟩:∃MB,MB=TB+1:=⟨_,rfl⟩;rw[<-hMB]at HG0⊢;obtain⟨T,hT⟩:∃T,T=MB+1:=⟨_,rfl⟩;rw[<-hT]at HG0⊢;clear hrow hb0 hs1 hb1 hz1 hTB hMB hT
 go_wp2_with fail
 go_loopw [13] (λi wr=>∃(j:Nat) (seen:List Fl.Node),i=.int .i64 j/\Uh ns w wr TB MB T j seen) (λi _=>ns.length - (intOf i).toNat)
 case atStart=>exact⟨0,[],rfl,HG0.out⟩
 case round=>
  clear HG0;obtain⟨j,seen,rfl,hr⟩:=hrel;have hj:=hr.hj;have HR:Hid (Uh ns w wr TB MB T j seen):=hr;clear hr
  by_cases hlt:j<ns.length
  ·obtain⟨b,off,rfl⟩:∃b off,na=some ⟨b,off,none⟩:=by
    obtain⟨ao',cap',hv',_,_,hx'⟩:=HN.out;obtain⟨b,off,ha,_⟩:=hx' (by intro h;rw[h]at hlt;simp at hlt);simp only[Value.slice.injEq]at hv';exact⟨b,off,hv'.1.trans ha⟩
   obtain⟨lv,hnd⟩:=(HN.out.below HR.out.hb).node hlt HR.out.hb.size;have HND:Hid (Xu wr b (off+j*6) (Fl.nth ns j) lv):=hnd;have hjl:(j:Int)<(ns.length:Int):=(by omega);clear hnd
   go_wp2_with fail
   refine(its_any HND.out HR.out.hr).mono ?_;rintro e w2 ⟨rfl,hb2⟩;have HR2:Hid (Uh ns w w2 TB MB T j seen):=HR.out.below hb2;have HN2:Hid (Xu w2 b (off+j*6) (Fl.nth ns j) lv):=HND.out.below hb2;clear hb2;obtain⟨nd,hndq⟩:∃nd,nd=Fl.nth ns j:=⟨_,rfl⟩;rw[<-hndq]at HN2⊢;have HNQ:Hid (nd=Fl.nth ns j):=hndq;clear HND HR hndq
   have HFB:Hid (Fl.bad ns j=true->Fl.firstBad ns=(j:Int)):=λh=>by
    show Fl.firstBad ns=_;unfold Fl.firstBad;rw[Fl.find_first _ _ j HR2.out.hno hlt h]
   cases hsd:Fl.sound nd with
   |false=>
    have HF:Hid (Fl.firstBad ns=(j:Int)):=HFB.out (by rw[Fl.bad_eq,<-HNQ.out,hsd];rfl);clear hsd;go_wp2;go_ret;exact⟨zz7 HF.out.symm,HR2.out.hb⟩
   |true=>
    obtain⟨hfit,hk0,hk8⟩:=Fl.sound_fits hsd;have HSD:Hid (Fl.sound nd=true):=hsd;have HFT:Hid (Fl.fits nd):=hfit;obtain⟨x,hx⟩:∃x:Nat,nd.kind=(x:Int):=⟨nd.kind.toNat,by omega⟩;have hx8:x<8:=(by omega);have c0:=HN2.out.c0;rw[hx]at c0;have h3':w2.cell? ⟨TB,x*4+3,none⟩=some (.func (.func (byF x)) #[] #[]):=(by have:=(HR2.out.hr x hx8).2.2;simpa using this)
    have HC:Hid (Calls prog 94 #[.pointer (some ⟨TB,x*4,none⟩),.pointer (some ⟨b,off+j*6,none⟩),.int .i64 j] w2 λe w'=>e=.returned (.bool (!(prem nd).any (λx=>decide ((j:Int)<=x))))/\Below w2.heap.size w2 w'):=
     zv4 TB (x*4) (byF x) j (.pointer (some ⟨b,off+j*6,none⟩)) (prem nd) w2 h3' (zs4 x _ _) (by rw[<-hx];exact zmy HN2.out)
    have hxi:(x:Int)<8:=(by omega);clear hsd hfit hk0 hk8 hx h3'
    go_wp2_with fail
    refine(HC.out).mono ?_;rintro e w3 ⟨rfl,hb3⟩;have HR3:Hid (Uh ns w w3 TB MB T j seen):=HR2.out.below hb3;have HN3:Hid (Xu w3 b (off+j*6) nd lv):=HN2.out.below hb3;clear hb3 HC c0
    cases hbh:(prem nd).any (λx=>decide ((j:Int)<=x)) with
    |true=>
     have HF:Hid (Fl.firstBad ns=(j:Int)):=HFB.out (by rw[Fl.bad_eq,<-HNQ.out,hbh];simp);clear hbh;go_wp2;go_ret;exact⟨zz7 HF.out.symm,HR3.out.hb⟩
    |false=>
     have HBH:Hid ((prem nd).any (λx=>decide ((j:Int)<=x))=false):=hbh;have HC:Hid (Calls prog 96 #[.pointer (some ⟨b,off+j*6,none⟩)] w3 λe w'=>e=.returned (.agg (Zc nd).toArray)/\Below w3.heap.size w3 w'):=zw1 HN3.out HFT.out.2.2.2.2.2.1;clear hbh
     go_wp2_with (go_at_call 96;refine(HC.out).mono ?_;rintro e w4 ⟨rfl,hb4⟩)
     have HR4:Hid (Uh ns w w4 TB MB T j seen):=HR3.out.below hb4;have hs4:=HR4.out.hs;clear hb4 HC;refine(ze4 hs4 HFT.out (by have:=HR4.out.hlen;omega)).mono ?_;rintro e w5 ⟨c,t,rfl,ht,hs5,hg5⟩;have hR4:=HR4.out;have HR5:Hid (Below w.heap.size w w5/\Yq w5 TB 0/\T<w5.heap.size):=by
      refine⟨hR4.hb.grown hg5 hR4.hb.size (λk hk=>by simp only[Option.some.injEq]at hk;have:=hR4.hw;have:=hR4.hTB;omega),λk hk=>?_,Nat.lt_of_lt_of_le hR4.hz hg5.size⟩;have hne:some TB≠some MB:=(by have:=hR4.hTB;simp;omega);obtain⟨g1,g2,g3⟩:=hR4.hr k hk;exact⟨hg5.cell g1 hne,hg5.cell g2 hne,hg5.cell g3 hne⟩
     have HS5:Hid (zv5 w5 T MB (nd::seen)):=hs5;have HT:Hid (t=true ↔ nd∈seen):=ht;clear hs4 hs5 hg5 ht hR4;have HDI:Hid (nd∈seen ↔ Fl.dupAt ns j=true):=by
      show _ ↔ _;rw[Fl.dupAt_iff ns j hlt,HR4.out.hmem,HNQ.out]
     cases t with
     |true=>
      have HF:Hid (Fl.firstBad ns=(j:Int)):=HFB.out (by rw[Fl.bad_eq,HDI.out.1 (HT.out.1 rfl)];simp);go_wp2;go_ret;exact⟨zz7 HF.out.symm,HR5.out.1⟩
     |false=>
      have HD:Hid (Fl.bad ns j=false):=by
       show Fl.bad ns j=false;have h1:Fl.dupAt ns j=false:=by
        rw[Bool.eq_false_iff];intro h
        have:=HT.out.2 (HDI.out.2 h);cases this
       rw[Fl.bad_eq,<-HNQ.out,HSD.out,HBH.out,h1];rfl
      go_wp2
      go_roundw
      case rel=>
       refine⟨j+1,nd::seen,by go_num,⟨by omega,by simp[HR4.out.hlen],λx=>?_,λt ht=>?_,HS5.out,HR5.out.2.1,HR5.out.1,HR4.out.hw,HR4.out.hTB,HR4.out.hBT,HR5.out.2.2⟩⟩
       ·rw[Fl.take_snocN ns j hlt,List.mem_cons,List.mem_append,List.mem_singleton,HR4.out.hmem x,HNQ.out];exact or_comm
       ·by_cases h:t<j
        ·exact HR4.out.hno t h
        ·have:t=j:=by omega
         subst this;exact HD.out
      case measure=>simp[intOf];omega
  ·have HF:Hid (Fl.firstBad ns= -1):=by
    show Fl.firstBad ns= -1;unfold Fl.firstBad;rw[Fl.find_none _ _ (λk hk=>HR.out.hno k (by omega))]
   go_wp2;go_ret;exact⟨zz7 HF.out.symm,HR.out.hb⟩
namespace Fl
def byteNat{x:Nat}(h:x<256):(UInt8.ofNat x).toNat=x:=by simp;omega
def codedF_small{x:Nat}(h:x<128)(f:Nat):codedF f x=[UInt8.ofNat x]:=by
 cases f with
 |zero=>rfl
 |succ f=>simp only[codedF,if_pos h]
def numG_coded(at_ len:Nat)(r:List UInt8)(f:Nat):∀k v unit x,unit=128 ^ k->k<=4->(k=0\/0<x)->v+x*unit<2147483648->x<128 ^ (f+1)->
  numG at_ len k v unit (codedF f x++r)=(((v+x*unit:Nat):Int),((at_+k+(codedF f x).length:Nat):Int),0):=by
 have small:∀f k v unit x,(k=0\/0<x)->v+x*unit<2147483648->x<128->numG at_ len k v unit (codedF f x++r)=(((v+x*unit:Nat):Int),((at_+k+(codedF f x).length:Nat):Int),0):=by
  intro f k v unit x hx a0 hs;rw[codedF_small hs];have e:(UInt8.ofNat x).toNat=x:=byteNat (by omega);have em:x % 128=x:=Nat.mod_eq_of_lt hs;simp only[List.cons_append,List.nil_append,numG,e,em];rw[if_neg (by rintro(⟨h1,h2⟩|h|⟨h1,h2⟩)<;>omega),if_pos hs];simp[Nat.add_assoc]
 induction f with
 |zero=>intro k v unit x hu hk hx a0 hs;exact small 0 k v unit x hx a0 (by simpa using hs)
 |succ f ih=>
  intro k v unit x hu hk hx a0 hs
  by_cases h:x<128
  ·exact small (f+1) k v unit x hx a0 h
  have e:(UInt8.ofNat (x % 128+128)).toNat=x % 128+128:=byteNat (by omega);have em:(x % 128+128) % 128=x % 128:=(by omega);have c0:x=x / 128*128+x % 128:=(by omega);have b0:v+x % 128*unit+x / 128*(unit*128)=v+x*unit:=by
   have:x*unit=x / 128*(unit*128)+x % 128*unit:=by
    conv=>lhs;rw[c0]
    rw[Nat.add_mul,Nat.mul_assoc,Nat.mul_comm 128 unit]
   omega
  have d0:k≠4:=by
   intro h4;subst h4;have h1:unit=268435456:=(by rw[hu]);rw[h1]at a0;omega
  have hc:codedF (f+1) x=UInt8.ofNat (x % 128+128)::codedF f (x / 128):=(by simp only[codedF,if_neg h]);rw[hc];simp only[List.cons_append,numG,e,em];rw[if_neg (by rintro(⟨h1,h2⟩|h|⟨h1,h2⟩)<;>omega),if_neg (by omega)];rw[ih (k+1) _ _ (x / 128) (by rw[hu,Nat.pow_succ]) (by omega) (Or.inr (by omega)) (by omega) (by rw[Nat.pow_succ]at hs;omega),b0];simp only[List.length_cons]
  congr 2;congr 1;omega
def num_coded{s r:List UInt8}{p v:Nat}(h:s.drop p=coded v++r)(hv:v<2147483648):num s p=((v:Int),((p+(coded v).length:Nat):Int),0):=by
 unfold num;rw[h];have:=numG_coded p s.length r 9 0 0 1 v (by rfl) (by omega) (Or.inl rfl) (by omega) (by omega);simpa [coded] using this
def numG_back(at_ len:Nat)(l:List UInt8):∀k v unit f,k<=4->4<=k+f->0<=(numG at_ len k v unit l).2.1->
  ∃x,(k=0\/0<x)/\(numG at_ len k v unit l).1=((v+x*unit:Nat):Int)/\(numG at_ len k v unit l).2.1=((at_+k+(codedF f x).length:Nat):Int)/\l=codedF f x++l.drop (codedF f x).length:=by
 induction l with
 |nil=>intro k v unit f hk hf h;simp[numG]at h
 |cons c r ih=>
  intro k v unit f hk hf h;have hc:=c.toNat_lt;simp only[numG]at h⊢
  by_cases h1:(c.toNat=0/\0<k)\/2147483648<=v+c.toNat % 128*unit\/(k=4/\128<=c.toNat)
  ·rw[if_pos h1]at h;simp at h
  rw[if_neg h1]at h⊢
  by_cases h2:c.toNat<128
  ·rw[if_pos h2]
   refine⟨c.toNat,?_,by rw[Nat.mod_eq_of_lt h2],?_,?_⟩
   ·by_cases b0:k=0
    ·exact Or.inl b0
    right;rcases Nat.eq_zero_or_pos c.toNat with h0|h0
    ·exact absurd (Or.inl ⟨h0,by omega⟩) h1
    exact h0
   ·rw[codedF_small h2];rfl
   rw[codedF_small h2];simp
  rw[if_neg h2]at h⊢;have c0:k≠4:=λh4=>h1 (Or.inr (Or.inr ⟨h4,by omega⟩));obtain⟨f',rfl⟩:∃f',f=f'+1:=⟨f - 1,by omega⟩;obtain⟨y,hy,e1,e2,e3⟩:=ih (k+1) (v+c.toNat % 128*unit) (unit*128) f' (by omega) (by omega) h
  have d0:0<y:=by rcases hy with h|h<;>omega
  have a0:codedF (f'+1) (c.toNat % 128+y*128)=c::codedF f' y:=by
   have hn:¬(c.toNat % 128+y*128)<128:=(by omega);simp only[codedF,if_neg hn];have q1:(c.toNat % 128+y*128) % 128+128=c.toNat:=(by omega);have q2:(c.toNat % 128+y*128) / 128=y:=(by omega);rw[q1,q2];simp
  refine⟨c.toNat % 128+y*128,Or.inr (by omega),?_,?_,?_⟩
  ·rw[e1];congr 1
   rw[Nat.add_mul,Nat.mul_assoc,Nat.mul_comm 128 unit];omega
  ·rw[e2,a0];simp only[List.length_cons];congr 1;omega
  rw[a0];simp only[List.length_cons,List.cons_append,List.drop_succ_cons];rw[<-e3]
def num_back{s:List UInt8}{p:Nat}(hp:p<=s.length)(h:0<=(num s p).2.1):∃v:Nat,(num s p).1=(v:Int)/\v<2147483648/\(num s p).2.1=((p+(coded v).length:Nat):Int)/\s.drop p=coded v++s.drop (p+(coded v).length):=by
 obtain⟨x,_,e1,e2,e3⟩:=numG_back p s.length (s.drop p) 0 0 1 9 (by omega) (by omega) h;have ho:=num_ok s p hp;refine⟨x,by rw[num,e1];simp,?_,by rw[num,e2];simp[coded],by rw[<-List.drop_drop];exact e3⟩
 have:(num s p).1=(x:Int):=by rw[num,e1];simp
 omega
def codedAll_cons(x:Int)(l:List Int):codedAll (x::l)=coded x.toNat++codedAll l:=by simp[codedAll]
def drop_then{s a r:List UInt8}{p:Nat}(h:s.drop p=a++r):s.drop (p+a.length)=r:=by
 rw[<-List.drop_drop,h];simp
def numsA_coded(s r:List UInt8):∀(xs:List Int) (p:Nat) (acc:List Int),s.drop p=codedAll xs++r->xs.all inR=true->
  numsA s xs.length p acc=(acc++xs,((p+(codedAll xs).length:Nat):Int),0):=by
 intro xs
 induction xs with
 |nil=>intro p acc h _;simp[numsA,codedAll]
 |cons x xs ih=>
  intro p acc h ha;simp only[List.all_cons,Bool.and_eq_true]at ha;have hx:=ha.1;simp only[inR,Bool.and_eq_true,decide_eq_true_eq]at hx;rw[codedAll_cons,List.append_assoc]at h;have hn:=num_coded h (by omega);simp only[List.length_cons,numsA,hn];rw[if_neg (by omega),Int.toNat_natCast,ih _ _ (drop_then h) ha.2,codedAll_cons];simp only[List.length_append,Int.toNat_of_nonneg hx.1,List.append_assoc,List.singleton_append,Nat.add_assoc]
def nums_coded{s r:List UInt8}{xs:List Int}{p:Nat}(h:s.drop p=codedAll xs++r)(ha:xs.all inR=true):nums s p xs.length=(xs,((p+(codedAll xs).length:Nat):Int),0):=by
 have:=numsA_coded s r xs p [] h ha;simpa [nums] using this
def numsA_back(s:List UInt8)(n:Nat):∀(p:Nat) (acc:List Int),p<=s.length->0<=(numsA s n p acc).2.1->
  ∃xs:List Int,(numsA s n p acc).1=acc++xs/\xs.length=n/\xs.all inR=true/\(numsA s n p acc).2.1=((p+(codedAll xs).length:Nat):Int)/\s.drop p=codedAll xs++s.drop (p+(codedAll xs).length):=by
 induction n with
 |zero=>intro p acc hp h;exact⟨[],by simp[numsA],rfl,rfl,by simp[numsA,codedAll],by simp[codedAll]⟩
 |succ n ih=>
  intro p acc hp h;simp only[numsA]at h⊢
  by_cases h1:(num s p).2.1<0
  ·rw[if_pos h1]at h;simp at h
  rw[if_neg h1]at h⊢;obtain⟨v,e1,e2,e3,e4⟩:=num_back hp (by omega);have ho:=num_ok s p hp;rw[e1,e3,Int.toNat_natCast]at h⊢;obtain⟨xs,f1,f2,f3,f4,f5⟩:=ih _ _ (by omega) h;refine⟨(v:Int)::xs,by rw[f1];simp,by simp[f2],?_,?_,?_⟩
  ·simp only[List.all_cons,f3,Bool.and_true,inR,Bool.and_eq_true,decide_eq_true_eq];omega
  ·rw[f4,codedAll_cons];simp[Nat.add_assoc]
  rw[codedAll_cons,Int.toNat_natCast,List.append_assoc,List.length_append,<-Nat.add_assoc,<-f5];exact e4
def nums_back{s:List UInt8}{p n:Nat}(hp:p<=s.length)(h:0<=(nums s p n).2.1):
  ∃xs:List Int,(nums s p n).1=xs/\xs.length=n/\xs.all inR=true/\(nums s p n).2.1=((p+(codedAll xs).length:Nat):Int)/\s.drop p=codedAll xs++s.drop (p+(codedAll xs).length):=by
 have:=numsA_back s n p [] hp h;simpa [nums] using this
end Fl
namespace Fl
def inR_nat{x:Int}(h:inR x=true):0<=x/\x<2147483648:=by simpa [inR] using h
def fields_kind{k:Int}(h:fields k≠ -2):0<=k/\k<8:=by unfold fields at h;(repeat' split at h)<;>omega
def drop_lt{s a r:List UInt8}{p:Nat}(h:s.drop p=a++r)(ha:0<a.length):p<s.length:=by
 rcases Nat.lt_or_ge p s.length with h1|h1
 ·exact h1
 rw[List.drop_eq_nil_of_le h1]at h;have:=congrArg List.length h;simp at this;omega
def drop_head{s r:List UInt8}{c:UInt8}{p:Nat}(h:s.drop p=c::r):p<s.length/\s.getD p 0=c/\s.drop (p+1)=r:=by
 have h1:p<s.length:=drop_lt (a:=[c]) (r:=r) (by simpa using h) (by simp);refine⟨h1,?_,by rw[<-List.drop_drop,h];rfl⟩
 have:(s.drop p)[0]?=some c:=by rw[h];rfl
 rw[List.getElem?_drop]at this;rw[Qa];simpa using congrArg (λo=>o.getD 0) this
def one_coded{s r:List UInt8}{p k:Nat}{nd:Node}(h:s.drop p=nodeBytes nd++r)(hs:sound nd=true)(hb:(prem nd).any (λx=>decide ((k:Int)<=x))=false):
  one s p k=(nd,((p+(nodeBytes nd).length:Nat):Int),0):=by
 simp only[sound,Bool.and_eq_true,Bool.or_eq_true,decide_eq_true_eq]at hs;obtain⟨hk,k0,hlen,ha,i0,hc,hall,hz⟩:=hs;obtain⟨l0,m0⟩:=fields_kind hk;obtain⟨j0,n0⟩:=inR_nat k0;unfold nodeBytes at h;rw[List.cons_append]at h;obtain⟨hp,hd,h1⟩:=drop_head h
 have d0:((s.getD p 0).toNat:Int)=nd.kind:=by rw[hd,byteNat (by omega)];omega
 rw[List.append_assoc]at h1;have hn:=num_coded h1 (by omega);have h2:=drop_then h1
 have fin:∀e,oneFin p k nd e=(nd,e,0):=λe=>by unfold oneFin;rw[hb];rfl
 unfold one;rw[if_neg (by omega)];simp only[d0,hn];rw[if_neg hk,if_neg (by omega)];simp only[Int.toNat_natCast]
 by_cases hf:fields nd.kind= -1
 ·rw[if_pos hf]
  have a0:fields nd.kind<0:=(by omega);rw[if_pos a0,List.append_assoc]at h2;have hm:=num_coded h2 (by omega);have h3:=drop_then h2;have b0:nodeNums nd=nd.list:=(by unfold nodeNums;rw[if_pos a0]);rw[b0]at h3;have hl:=nums_coded h3 hall;simp only[hm,Int.toNat_natCast];rw[if_neg (by omega),if_neg (by omega)];simp only[hl];rw[if_neg (by omega)];have e0:(⟨nd.kind,(nd.level.toNat:Int),0,0,0,nd.list⟩:Node)=nd:=by
   have q:∀i x,okV (fields nd.kind) i x=true->0<=i->x=0:=λi x hx hi=>by
    simp only[okV,Bool.and_eq_true,Bool.or_eq_true,decide_eq_true_eq]at hx;omega
   obtain⟨kd,lv,a,b,c,li⟩:=nd;simp only[Node.mk.injEq];exact⟨trivial,Int.toNat_of_nonneg j0,(q 0 _ ha (by omega)).symm,(q 1 _ i0 (by omega)).symm,(q 2 _ hc (by omega)).symm,trivial⟩
  rw[e0,fin]
  congr 2
  unfold nodeBytes;rw[if_pos a0,b0];simp only[List.length_cons,List.length_append];omega
 rw[if_neg hf]
 have a0:¬fields nd.kind<0:=by have:=fields_lt nd.kind;omega
 rw[if_neg a0,List.nil_append]at h2
 have b0:nodeNums nd=[nd.a,nd.b,nd.c].take (fields nd.kind).toNat:=by unfold nodeNums;rw[if_neg a0]
 have o0:=fields_lt nd.kind
 have f0:(nodeNums nd).length=(fields nd.kind).toNat:=by rw[b0];simp;omega
 have okR:∀i x,okV (fields nd.kind) i x=true->inR x=true/\(fields nd.kind<=i->x=0):=λi x hx=>by
  simp only[okV,Bool.and_eq_true,Bool.or_eq_true,decide_eq_true_eq]at hx;exact⟨hx.1,λh=>by omega⟩
 obtain⟨ra,za⟩:=okR 0 _ ha;obtain⟨rb,zb⟩:=okR 1 _ i0;obtain⟨rc,zc⟩:=okR 2 _ hc;have g0:(nodeNums nd).all inR=true:=by
  rw[List.all_eq_true];intro x hx;rw[b0]at hx;have:=List.mem_of_mem_take hx;simp only[List.mem_cons,List.not_mem_nil,or_false]at this;rcases this with rfl|rfl|rfl<;>assumption
 have hl:=nums_coded h2 g0;rw[f0]at hl;simp only[hl];rw[if_neg (by omega)]
 have h0:nd.list=[]:=by rcases hz with h|h;exact absurd h hf;exact h
 have e0:(⟨nd.kind,(nd.level.toNat:Int),(nodeNums nd).getD 0 0,(nodeNums nd).getD 1 0,(nodeNums nd).getD 2 0,[]⟩:Node)=nd:=by
  rw[b0];have c0:fields nd.kind=0\/fields nd.kind=1\/fields nd.kind=2\/fields nd.kind=3:=(by omega);obtain⟨kd,lv,a,b,c,li⟩:=nd;simp only[Node.mk.injEq]at*;refine⟨trivial,Int.toNat_of_nonneg j0,?_,?_,?_,h0.symm⟩<;>(rcases c0 with c0|c0|c0|c0<;>rw[c0]at za zb zc⊢<;>simp<;>first|done|exact(za (by omega)).symm|exact(zb (by omega)).symm|exact(zc (by omega)).symm)
 rw[e0,fin]
 congr 2
 unfold nodeBytes;rw[if_neg a0];simp only[List.length_cons,List.length_append,List.nil_append,List.length_nil];omega
def one_back{s:List UInt8}{p k:Nat}(hp:p<=s.length)(h:0<=(one s p k).2.1):
  s.drop p=nodeBytes (one s p k).1++s.drop (p+(nodeBytes (one s p k).1).length)/\(one s p k).2.1=((p+(nodeBytes (one s p k).1).length:Nat):Int):=by
 unfold one at h⊢
 by_cases h0:p=s.length
 ·rw[if_pos h0]at h;simp at h
 rw[if_neg h0]at h⊢;simp only at h⊢
 by_cases h1:fields ((s.getD p 0).toNat:Int)= -2
 ·rw[if_pos h1]at h;simp at h
 rw[if_neg h1]at h⊢;have d0:s.drop p=s.getD p 0::s.drop (p+1):=by
  rw[List.drop_eq_getElem_cons (show p<s.length by omega),Qa,Qb (show p<s.length by omega)];rfl
 generalize hc:s.getD p 0=c at*
 have g0:UInt8.ofNat ((c.toNat:Int)).toNat=c:=by simp
 have c0:∀(nd:Node) (e:Int),nd.kind=(c.toNat:Int)->0<=(oneFin p k nd e).2.1->e=((p+(nodeBytes nd).length:Nat):Int)->s.drop p=nodeBytes nd++s.drop (p+(nodeBytes nd).length)->
   s.drop p=nodeBytes (oneFin p k nd e).1++s.drop (p+(nodeBytes (oneFin p k nd e).1).length)/\(oneFin p k nd e).2.1=((p+(nodeBytes (oneFin p k nd e).1).length:Nat):Int):=by
  intro nd e _ hh he hd;unfold oneFin at hh⊢
  by_cases hq:((prem nd).any λx=>decide ((k:Int)<=x))=true
  ·rw[if_pos hq]at hh;simp at hh
  rw[if_neg hq];exact⟨hd,he⟩
 have hno:=num_ok s (p+1) (by omega)
 by_cases h2:(num s (p+1)).2.1<0
 ·rw[if_pos h2]at h;simp at h
 rw[if_neg h2]at h⊢;obtain⟨v,a1,a2,a3,a4⟩:=num_back (s:=s) (p:=p+1) (by omega) (by omega);rw[a1,a3]at h⊢;rw[a3]at hno;simp only[Int.toNat_natCast]at h⊢
 by_cases h3:fields (c.toNat:Int)= -1
 ·rw[if_pos h3]at h⊢
  have a0:fields (c.toNat:Int)<0:=(by omega);have e0:=num_ok s (p+1+(coded v).length) (by omega)
  by_cases h4:(num s (p+1+(coded v).length)).2.1<0
  ·rw[if_pos h4]at h;simp at h
  rw[if_neg h4]at h⊢;obtain⟨m,b1,b2,b3,b4⟩:=num_back (s:=s) (p:=p+1+(coded v).length) (by omega) (by omega);rw[b1,b3]at h⊢;rw[b3]at e0;simp only[Int.toNat_natCast]at h⊢
  by_cases h5:(16:Int)<(m:Int)
  ·rw[if_pos h5]at h;simp at h
  rw[if_neg h5]at h⊢
  by_cases h6:(nums s (p+1+(coded v).length+(coded m).length) m).2.1<0
  ·rw[if_pos h6]at h;simp at h
  rw[if_neg h6]at h⊢;obtain⟨xs,c1,c2,c3,c4,c5⟩:=nums_back (s:=s) (p:=p+1+(coded v).length+(coded m).length) (n:=m) (by omega) (by omega);rw[c1,c4]at h⊢;have hnb:nodeBytes ⟨(c.toNat:Int),(v:Int),0,0,0,xs⟩=c::(coded v++(coded m++codedAll xs)):=by
   unfold nodeBytes nodeNums;simp only[if_pos a0,Int.toNat_natCast,c2];rw[show UInt8.ofNat c.toNat=c by simp]
  refine c0 _ _ rfl h ?_ ?_
  ·rw[hnb];simp only[List.length_cons,List.length_append];congr 1;omega
  rw[hnb];simp only[List.length_cons,List.length_append,List.cons_append,List.append_assoc];rw[d0,a4,b4,c5]
  have:p+((coded v).length+((coded m).length+(codedAll xs).length)+1)=p+1+(coded v).length+(coded m).length+(codedAll xs).length:=by omega
  rw[this]
 rw[if_neg h3]at h⊢;have i0:=fields_lt (c.toNat:Int)
 have a0:¬fields (c.toNat:Int)<0:=by omega
 by_cases h6:(nums s (p+1+(coded v).length) (fields (c.toNat:Int)).toNat).2.1<0
 ·rw[if_pos h6]at h;simp at h
 rw[if_neg h6]at h⊢;obtain⟨xs,c1,c2,c3,c4,c5⟩:=nums_back (s:=s) (p:=p+1+(coded v).length) (n:=(fields (c.toNat:Int)).toNat) (by omega) (by omega);rw[c1,c4]at h⊢;have f0:nodeNums ⟨(c.toNat:Int),(v:Int),xs.getD 0 0,xs.getD 1 0,xs.getD 2 0,[]⟩=xs:=by
  unfold nodeNums;simp only[if_neg a0];have b0:fields (c.toNat:Int)=0\/fields (c.toNat:Int)=1\/fields (c.toNat:Int)=2\/fields (c.toNat:Int)=3:=(by omega);rcases b0 with b0|b0|b0|b0<;>rw[b0]at c2⊢
  ·cases xs with
   |nil=>rfl
   |cons a t=>simp at c2
  ·obtain⟨a,rfl⟩:=List.length_eq_one_iff.1 c2;rfl
  ·match xs,c2 with
   |[a,b],_=>rfl
  match xs,c2 with
  |[a,b,d],_=>rfl
 have hnb:nodeBytes ⟨(c.toNat:Int),(v:Int),xs.getD 0 0,xs.getD 1 0,xs.getD 2 0,[]⟩=c::(coded v++codedAll xs):=by
  unfold nodeBytes;rw[f0];simp only[if_neg a0,Int.toNat_natCast,List.nil_append];rw[show UInt8.ofNat c.toNat=c by simp]
 refine c0 _ _ rfl h ?_ ?_
 ·rw[hnb];simp only[List.length_cons,List.length_append];congr 1;omega
 rw[hnb];simp only[List.length_cons,List.length_append,List.cons_append,List.append_assoc];rw[d0,a4,c5]
 have:p+((coded v).length+(codedAll xs).length+1)=p+1+(coded v).length+(codedAll xs).length:=by omega
 rw[this]
def allBytes_cons(x:Node)(l:List Node):allBytes (x::l)=nodeBytes x++allBytes l:=by simp[allBytes]
def nodesA_coded(s r:List UInt8):∀(ns:List Node) (k p:Nat) (st:List Int) (acc:List Node),s.drop p=allBytes ns++r->(∀i,i<ns.length->sound (nth ns i)=true/\(prem (nth ns i)).any (λx=>decide (((k+i:Nat):Int)<=x))=false)->
  ∃st',nodesA s ns.length k p st acc=(acc++ns,st',((p+(allBytes ns).length:Nat):Int),-1):=by
 intro ns
 induction ns with
 |nil=>intro k p st acc h _;exact⟨st,by simp[nodesA,allBytes]⟩
 |cons x ns ih=>
  intro k p st acc h hg;rw[allBytes_cons,List.append_assoc]at h;have h0:=hg 0 (by simp);have ho:=one_coded h h0.1 h0.2
  obtain⟨st',he⟩:=ih (k+1) (p+(nodeBytes x).length) (st++[(p:Int)]) (acc++[x]) (drop_then h) (λi hi=>by
   have:=hg (i+1) (by simp;omega)
   rw[show k+(i+1)=k+1+i by omega]at this;exact this)
  refine⟨st',?_⟩;simp only[List.length_cons,nodesA];simp only[nth,List.getD_cons_zero,Nat.add_zero]at ho;rw[ho];rw[if_neg (by simp only;omega)];simp only[Int.toNat_natCast];rw[he,allBytes_cons];simp[Nat.add_assoc]
def nodesA_back(s:List UInt8)(m:Nat):∀(k p:Nat) (st:List Int) (acc:List Node),p<=s.length->(nodesA s m k p st acc).2.2.2<0->
  ∃ns,(nodesA s m k p st acc).1=acc++ns/\ns.length=m/\(nodesA s m k p st acc).2.2.1=((p+(allBytes ns).length:Nat):Int)/\s.drop p=allBytes ns++s.drop (p+(allBytes ns).length):=by
 induction m with
 |zero=>intro k p st acc hp h;exact⟨[],by simp[nodesA],rfl,by simp[nodesA,allBytes],by simp[allBytes]⟩
 |succ m ih=>
  intro k p st acc hp h;have a0:=one_ok s p k hp;simp only[nodesA]at h⊢
  by_cases h1:(one s p k).2.1<0
  ·rw[if_pos h1]at h;simp only at h;omega
  rw[if_neg h1]at h⊢;obtain⟨e1,e2⟩:=one_back hp (show 0<=(one s p k).2.1 by omega);rw[e2]at a0;rw[e2,Int.toNat_natCast]at h⊢;obtain⟨ns,f1,f2,f3,f4⟩:=ih _ _ _ _ (by omega) h;refine⟨(one s p k).1::ns,by rw[f1];simp,by simp[f2],?_,?_⟩
  ·rw[f3,allBytes_cons];simp[Nat.add_assoc]
  rw[allBytes_cons,List.append_assoc,List.length_append,<-Nat.add_assoc,<-f4];exact e1
end Fl
end Go.Proofs.YtminjljgedopkaaGreatDoor
