import Derived.Test.YtaaejabalinojaaGreatDoorM00
import Derived.Test.YtaaejabalinojaaGreatDoorProg
import Derived.LaidEql
import Derived.Stop.Asserts
import Derived.RowKitTokens
import Derived.Deep.QuietTactic
import Derived.BigQuiet
import Derived.Test.YtaaejabalinojaaGreatDoorRows
import Derived.ChangeSame
import Derived.ChangeVars
import Derived.JoinedOf
import Derived.RowKit
import Derived.LaidLaws
import Derived.LaidHandle
import Derived.Stop.Joined
import Derived.ChangeMaps5
set_option linter.all false
set_option maxRecDepth 100000
set_option maxHeartbeats 40000000
namespace Go.Proofs.YtaaejabalinojaaGreatDoor
open Go.RowKit Go.Extern.Stop Go.Stop Go.Extern Go.Proofs.Tryz
def zpw(t:Addr)(w:World):(ReflectliteValue.unpack (.iface 67 (.pointer (some t)))).run prog w=.ok (.agg #[.pointer (some ⟨4,67,none⟩),.pointer (some ⟨w.heap.size,0,none⟩),.int .u64 150]) (w.alloc (.cells #[.pointer (some t)] 67)):=by kernel_rfl
def zf1(a:Addr)(w:World):(ReflectliteValue.methodAny (ReflectliteValue.valueError "reflectlite.Value.Type" 0) (λt _ _ _=>ReflectliteType.toType t) #[.agg #[.pointer (some ⟨4,67,none⟩),.pointer (some a),.int .u64 150]]).run prog w=.ok (.iface 150 (.agg #[.pointer (some ⟨4,67,none⟩)])) w:=by kernel_rfl
def zu3(h:Value)(w:World):(Go.method 389 150 (.agg #[h]) "Kind").run prog w=.ok (175,h) w:=by kernel_rfl
def zf2(w:World):((ReflectliteType.abiMethod λt=>Functor.map (λa:Nat=>Value.int IntKind.u8 (a:Int)) (Rtype.kind t)) #[.pointer (some ⟨4,67,none⟩)]).run prog w=.ok (.int .u8 22) w:=by kernel_rfl
def zcv(w:World):((ReflectliteType.abiMethod λt=>Functor.map (λa:Nat=>Value.int IntKind.u8 (a:Int)) (Rtype.kind t)) #[.pointer (some ⟨4,65,none⟩)]).run prog w=.ok (.int .u8 22) w:=by kernel_rfl
def ztv(z:Sem Value)(f:TypeId->Addr->Nat->Nat->Sem Value)(v:Value)(t:TypeId)(a:Addr)(fl:Nat)(w w':World)(h:(ReflectliteValue.parts v).run prog w=.ok (some (t,a,fl)) w'):
  (ReflectliteValue.method z f #[v]).run prog w=(f t a fl (fl % 32)).run prog w':=by
 show (Sem.run prog (ReflectliteValue.parts v>>=_) w)=_;rw[Sem.run_bind,h];rfl
def zkw(a:Addr)(w:World):(ReflectliteValue.parts (.agg #[.pointer (some ⟨4,67,none⟩),.pointer (some a),.int .u64 150])).run prog w=.ok (some (67,a,150)) w:=by kernel_rfl
def zkv(a p:Addr)(W:World)(ha:W.cell? a=some (.pointer (some p))):(ReflectliteValue.method (ReflectliteValue.valueError "reflectlite.Value.IsNil" 0) ReflectliteValue.isNil #[.agg #[.pointer (some ⟨4,67,none⟩),.pointer (some a),.int .u64 150]]).run prog W=.ok (.bool false) W:=by
 rw[ztv _ _ _ _ _ _ _ _ (zkw a W)];simp[ReflectliteValue.isNil,loadVar,isAgg,underlying,underlying67,ha,Result.andThen]
def zu4(h:Value)(w:World):(Go.method 389 150 (.agg #[h]) "Elem").run prog w=.ok (188,.agg #[h]) w:=by kernel_rfl
def zz7(h:Value)(w:World):(Go.method 389 150 (.agg #[h]) "Implements").run prog w=.ok (189,.agg #[h]) w:=by kernel_rfl
def Ub(h:Value)(w:World):(Go.method 389 150 (.agg #[h]) "AssignableTo").run prog w=.ok (186,.agg #[h]) w:=by kernel_rfl
def zf3(w:World):(ReflectliteType.method ReflectliteType.elem #[.agg #[.pointer (some ⟨4,67,none⟩)]]).run prog w=.ok (.iface 150 (.agg #[.pointer (some ⟨4,65,none⟩)])) w:=by kernel_rfl
def zr1(w:World):(ReflectliteType.relation "Implements" ReflectliteType.implements_ #[.agg #[.pointer (some ⟨4,65,none⟩)],.iface 150 (.agg #[.pointer (some ⟨4,39,none⟩)])]).run prog w=.ok (.bool true) w:=by kernel_rfl
def yux(v:Value)(w:World):(ReflectliteType.typeOf #[.iface 65 v]).run prog w=.ok (.iface 150 (.agg #[.pointer (some ⟨4,65,none⟩)])) w:=by kernel_rfl
def ziv(w:World):(ReflectliteType.relation "AssignableTo" ReflectliteType.assignableTo #[.agg #[.pointer (some ⟨4,65,none⟩)],.iface 150 (.agg #[.pointer (some ⟨4,65,none⟩)])]).run prog w=.ok (.bool true) w:=by kernel_rfl
def yx0(e:Addr)(w:World):(ReflectliteValue.unpack (.iface 65 (.pointer (some e)))).run prog w=.ok (.agg #[.pointer (some ⟨4,65,none⟩),.pointer (some ⟨w.heap.size,0,none⟩),.int .u64 150]) (w.alloc (.cells #[.pointer (some e)] 65)):=by kernel_rfl
def yx1(w:World):(Rtype.elem? 67).run prog w=.ok (some 65) w:=by kernel_rfl
def rl_mkP(p:Addr)(w:World):(ReflectliteValue.mk 65 p ReflectliteValue.flagAddr).run prog w=.ok (.agg #[.pointer (some ⟨4,65,none⟩),.pointer (some p),.int .u64 406]) w:=by kernel_rfl
def yuw(a p:Addr)(W:World)(ha:W.cell? a=some (.pointer (some p))):(ReflectliteValue.method (ReflectliteValue.valueError "reflectlite.Value.Elem" 0) ReflectliteValue.elem #[.agg #[.pointer (some ⟨4,67,none⟩),.pointer (some a),.int .u64 150]]).run prog W=.ok (.agg #[.pointer (some ⟨4,65,none⟩),.pointer (some p),.int .u64 406]) W:=by
 rw[ztv _ _ _ _ _ _ _ _ (zkw a W)];simp[ReflectliteValue.elem,loadVar,isAgg,underlying,underlying67,ha,Result.andThen,yx1,rl_mkP]
def yuv(a:Addr)(w:World):(ReflectliteValue.parts (.agg #[.pointer (some ⟨4,65,none⟩),.pointer (some a),.int .u64 406])).run prog w=.ok (some (65,a,406)) w:=by kernel_rfl
def yp4(a:Addr)(w:World):(ReflectliteValue.parts (.agg #[.pointer (some ⟨4,65,none⟩),.pointer (some a),.int .u64 150])).run prog w=.ok (some (65,a,150)) w:=by kernel_rfl
def yt0(w:World):(Rtype.directlyAssignable 65 65).run prog w=.ok true w:=by kernel_rfl
def rl_setP(ta b e:Addr)(old:Value)(W:World)(hb:W.cell? b=some (.pointer (some e)))(ht:W.cell? ta=some old)(hf:W.frozen? ta=false):
  (ReflectliteValue.set #[.agg #[.pointer (some ⟨4,65,none⟩),.pointer (some ta),.int .u64 406],.agg #[.pointer (some ⟨4,65,none⟩),.pointer (some b),.int .u64 150]]).run prog W=.ok (.tuple #[]) (W.setCell ta (.pointer (some e))):=by
 have h1:=yuv ta W;have h2:=yp4 b W;have h3:=yt0 W;show Sem.run prog (ReflectliteValue.parts (.agg #[.pointer (some ⟨4,65,none⟩),.pointer (some ta),.int .u64 406])>>=λo1=>ReflectliteValue.parts (.agg #[.pointer (some ⟨4,65,none⟩),.pointer (some b),.int .u64 150])>>=λo2=>_) W=_;simp only[Sem.run_bind,h1,h2,Result.andThen];simp[ReflectliteValue.flagAddr,loadVar,isAgg,underlying,underlying65,hb,Result.andThen,h3,storeVar,Value.cells,storeCells,Addr.add];rw[run_store prog W ta _ _ (by rfl)];simp[ht,hf]
def as_at(e t:Addr)(old:Value)(w:World)(hg:w.cell? ⟨0,0,none⟩=some (.iface 150 (.agg #[.pointer (some ⟨4,39,none⟩)])))(a0:w.cell? t=some old)(c0:w.frozen? t=false):
  Calls prog 21 #[.iface 65 (.pointer (some e)),.iface 67 (.pointer (some t))] w λev w'=>ev=.returned (.bool true)/\w'=((((w.alloc (.cells #[.pointer (some t)] 67)).alloc (.cells #[.pointer (some ⟨4,67,none⟩),.pointer (some ⟨w.heap.size,0,none⟩),.int .u64 150] 99)).alloc (.cells #[.pointer (some ⟨4,67,none⟩),.pointer (some ⟨w.heap.size,0,none⟩),.int .u64 150] 99)).alloc (.cells #[.pointer (some e)] 65)).setCell t (.pointer (some e)):=by
 have h6:= @run_callFunc_extern prog 38 _ (λargs=>ReflectliteValue.unpack (args.getD 0 (.tuple #[]))) func38 (by kernel_rfl) (by kernel_rfl) (by kernel_rfl) (by kernel_rfl);have h7:= @run_callFunc_extern prog 39 _ (ReflectliteValue.methodAny (ReflectliteValue.valueError "reflectlite.Value.Type" 0) (λt _ _ _=>ReflectliteType.toType t)) func39 (by kernel_rfl) (by kernel_rfl) (by kernel_rfl) (by kernel_rfl);have h8:= @run_callFunc_extern prog 40 _ (ReflectliteValue.method (ReflectliteValue.valueError "reflectlite.Value.IsNil" 0) ReflectliteValue.isNil) func40 (by kernel_rfl) (by kernel_rfl) (by kernel_rfl) (by kernel_rfl);have e0:= @run_callFunc_extern prog 175 _ (ReflectliteType.abiMethod λt=>do pure (.int .u8 (<-Rtype.kind t))) func175 (by kernel_rfl) (by kernel_rfl) (by kernel_rfl) (by kernel_rfl);have f0:= @run_callFunc_extern prog 188 _ (ReflectliteType.method ReflectliteType.elem) func188 (by kernel_rfl) (by kernel_rfl) (by kernel_rfl) (by kernel_rfl);have g0:= @run_callFunc_extern prog 189 _ (ReflectliteType.relation "Implements" ReflectliteType.implements_) func189 (by kernel_rfl) (by kernel_rfl) (by kernel_rfl) (by kernel_rfl);have h0:= @run_callFunc_extern prog 58 _ ReflectliteType.typeOf func58 (by kernel_rfl) (by kernel_rfl) (by kernel_rfl) (by kernel_rfl);have i0:= @run_callFunc_extern prog 186 _ (ReflectliteType.relation "AssignableTo" ReflectliteType.assignableTo) func186 (by kernel_rfl) (by kernel_rfl) (by kernel_rfl) (by kernel_rfl);have j0:= @run_callFunc_extern prog 59 _ (ReflectliteValue.method (ReflectliteValue.valueError "reflectlite.Value.Elem" 0) ReflectliteValue.elem) func59 (by kernel_rfl) (by kernel_rfl) (by kernel_rfl) (by kernel_rfl);have k0:= @run_callFunc_extern prog 60 _ ReflectliteValue.set func60 (by kernel_rfl) (by kernel_rfl) (by kernel_rfl) (by kernel_rfl);have tO:=yux;have mA:=Ub;have a25:=ziv;have v25:=yx0;have f6:=zpw;have f7:=zf1;have mK:=zu3;have mE:=zu4;have mI:=zz7;have k27:=zf2;have k25:=zcv;have e27:=zf3;have i25:=zr1;have d0:0<w.heap.size:=Qe w _ hg;have b0:t.block<w.heap.size:=Qe w _ a0;have n8:=zkv ⟨w.heap.size,0,none⟩ t ((w.alloc (.cells #[.pointer (some t)] 67)).alloc (.cells #[.pointer (some ⟨4,67,none⟩),.pointer (some ⟨w.heap.size,0,none⟩),.int .u64 150] 99)) (by simp)
 have l0:((w.alloc (.cells #[.pointer (some t)] 67)).alloc (.cells #[.pointer (some ⟨4,67,none⟩),.pointer (some ⟨w.heap.size,0,none⟩),.int .u64 150] 99)).cell? ⟨0,0,none⟩=some (.iface 150 (.agg #[.pointer (some ⟨4,39,none⟩)])):=by
  rw[Qf _ _ _ (by simp<;>omega),Qf _ _ _ d0];exact hg
 have el:=yuw ⟨w.heap.size,0,none⟩ t (((w.alloc (.cells #[.pointer (some t)] 67)).alloc (.cells #[.pointer (some ⟨4,67,none⟩),.pointer (some ⟨w.heap.size,0,none⟩),.int .u64 150] 99)).alloc (.cells #[.pointer (some ⟨4,67,none⟩),.pointer (some ⟨w.heap.size,0,none⟩),.int .u64 150] 99)) (by rw[Qf _ _ ⟨w.heap.size,0,none⟩ (by simp;omega)];simp);have st:=rl_setP t ⟨w.heap.size+1+1+1,0,none⟩ e old ((((w.alloc (.cells #[.pointer (some t)] 67)).alloc (.cells #[.pointer (some ⟨4,67,none⟩),.pointer (some ⟨w.heap.size,0,none⟩),.int .u64 150] 99)).alloc (.cells #[.pointer (some ⟨4,67,none⟩),.pointer (some ⟨w.heap.size,0,none⟩),.int .u64 150] 99)).alloc (.cells #[.pointer (some e)] 65))
  (by rw[World.cell?_alloc_at _ _ _ _ (by simp)];rfl)
  (by rw[Qf _ _ t (by simp;omega),Qf _ _ t (by simp;omega),Qf _ _ t (by simp;omega),Qf _ _ t b0];exact a0)
  (by rw[World.frozen?_alloc_old _ _ t (by simp;omega),World.frozen?_alloc_old _ _ t (by simp;omega),World.frozen?_alloc_old _ _ t (by simp;omega),World.frozen?_alloc_old _ _ t (Nat.ne_of_lt b0)];exact c0)
 go_enter func21,ntmps21
 go_wp2;refine wp_loop_rounds 1 ?_;rw[rounds_succ];go_wp2;go_ret;exact⟨rfl,rfl⟩
def zz4(w:World):Prop:=w.cell? ⟨0,0,none⟩=some (.iface 150 (.agg #[.pointer (some ⟨4,39,none⟩)]))
def yl5(w:World):Calls prog 9 #[.nilIface] w λe w'=>e=.returned (.tuple #[.int .i64 0,.int .i64 (-1)])/\Below w.heap.size w w':=by
 go_enter func9,ntmps9
 go_wp2
 go_ret2
 exact⟨rfl,(bA).alloc (by simp) _⟩
def below_drewN{B:Nat}{w w':World}(h:Below B w w')(m:Nat):Below B w (w'.drewN m):=by
 induction m with
 |zero=>exact h
 |succ m ih=>exact ih.drew
def zj0{B:Nat}{w0 w:World}{o1 o2 o3 o4:Obj}(h:Below B w0 w)(hB:B<=w.heap.size):Below B w0 ((((w.alloc o1).alloc o2).alloc o3).alloc o4):=
 (((h.alloc hB _).alloc (by simp;omega) _).alloc (by simp;omega) _).alloc (by simp;omega) _
def tell_at(eb eo:Nat)(n p:Int)(w:World)(hg:zz4 w)(h0:w.cell? ⟨eb,eo,none⟩=some (.int .i64 n))(h1:w.cell? ⟨eb,eo+1,none⟩=some (.int .i64 p)):
  Calls prog 9 #[.iface 65 (.pointer (some ⟨eb,eo,none⟩))] w λe w'=>e=.returned (.tuple #[.int .i64 n,.int .i64 p])/\Below w.heap.size w w':=by
 have d0:0<w.heap.size:=Qe w _ hg;have e0:eb<w.heap.size:=Qe w _ h0;have hg':((w.alloc (.cells #[.pointer none] 65)).alloc (.cells #[.int .i64 0] 24)).cell? ⟨0,0,none⟩=some (.iface 150 (.agg #[.pointer (some ⟨4,39,none⟩)])):=by
  rw[Qf _ _ _ (by simp<;>omega),Qf _ _ _ d0];exact hg
 have b0:Hid (Calls prog 21 #[.iface 65 (.pointer (some ⟨eb,eo,none⟩)),.iface 67 (.pointer (some ⟨w.heap.size,0,none⟩))] ((w.alloc (.cells #[.pointer none] 65)).alloc (.cells #[.int .i64 0] 24)) λev w'=>ev=.returned (.bool true)/\(w'.cell? ⟨w.heap.size,0,none⟩=some (.pointer (some ⟨eb,eo,none⟩))/\w'.cell? ⟨eb,eo,none⟩=some (.int .i64 n)/\w'.cell? ⟨eb,eo+1,none⟩=some (.int .i64 p)/\Below w.heap.size w w')):=by
  refine(as_at ⟨eb,eo,none⟩ ⟨w.heap.size,0,none⟩ (.pointer none) ((w.alloc (.cells #[.pointer none] 65)).alloc (.cells #[.int .i64 0] 24)) hg' (by simp) (by simp)).mono ?_;rintro ev w' ⟨rfl,rfl⟩;have hb:Below w.heap.size w ((w.alloc (.cells #[.pointer none] 65)).alloc (.cells #[.int .i64 0] 24)):=(bA).alloc (by simp) _;have f0:=zj0 (o1:=.cells #[.pointer (some ⟨w.heap.size,0,none⟩)] 67) (o2:=.cells #[.pointer (some ⟨4,67,none⟩),.pointer (some ⟨((w.alloc (.cells #[.pointer none] 65)).alloc (.cells #[.int .i64 0] 24)).heap.size,0,none⟩),.int .u64 150] 99) (o3:=.cells #[.pointer (some ⟨4,67,none⟩),.pointer (some ⟨((w.alloc (.cells #[.pointer none] 65)).alloc (.cells #[.int .i64 0] 24)).heap.size,0,none⟩),.int .u64 150] 99) (o4:=.cells #[.pointer (some ⟨eb,eo,none⟩)] 65) hb (by simp;omega);have q:∀o,(Below w.heap.size w o->∀j v,w.cell? ⟨eb,j,none⟩=some v->o.cell? ⟨eb,j,none⟩=some v):=λo ho j v hv=>(ho.cell (p:=⟨eb,j,none⟩) e0).trans hv;have a0:=f0.setCell (p:=⟨w.heap.size,0,none⟩) (Nat.le_refl _) (.pointer (some ⟨eb,eo,none⟩));refine⟨rfl,World.cell?_setCell_same' _ _ _ ?_,q _ a0 _ _ h0,q _ a0 _ _ h1,a0⟩;rw[Qf _ _ _ (by simp;omega),Qf _ _ _ (by simp;omega),Qf _ _ _ (by simp;omega),Qf _ _ _ (by simp;omega),Qf _ _ _ (by simp)];simp
 clear hg' hg
 go_enter func9,ntmps9
 go_wp2_with fail
 refine(b0.out).mono ?_;rintro e w1 ⟨rfl,ca,c0,c1,hb⟩;have hz:w.heap.size<w1.heap.size:=Qe w1 _ ca;have HB:=Zz hb;clear hb b0 h0 h1
 go_wp2_with fail
 go_quiet (fail)
 go_wp2
 go_ret2
 exact⟨rfl,below_drewN HB.out _⟩
def zj1(v:Value)(w:World):(ReflectliteType.typeOf #[.iface 24 v]).run prog w=.ok (.iface 150 (.agg #[.pointer (some ⟨4,24,none⟩)])) w:=by kernel_rfl
def zmx(w:World):(ReflectliteType.relation "AssignableTo" ReflectliteType.assignableTo #[.agg #[.pointer (some ⟨4,24,none⟩)],.iface 150 (.agg #[.pointer (some ⟨4,65,none⟩)])]).run prog w=.ok (.bool false) w:=by kernel_rfl
def yx2(t:Addr)(w:World):(ReflectliteValue.unpack (.iface 70 (.pointer (some t)))).run prog w=.ok (.agg #[.pointer (some ⟨4,70,none⟩),.pointer (some ⟨w.heap.size,0,none⟩),.int .u64 150]) (w.alloc (.cells #[.pointer (some t)] 70)):=by kernel_rfl
def yl6(a:Addr)(w:World):(ReflectliteValue.methodAny (ReflectliteValue.valueError "reflectlite.Value.Type" 0) (λt _ _ _=>ReflectliteType.toType t) #[.agg #[.pointer (some ⟨4,70,none⟩),.pointer (some a),.int .u64 150]]).run prog w=.ok (.iface 150 (.agg #[.pointer (some ⟨4,70,none⟩)])) w:=by kernel_rfl
def yl7(w:World):((ReflectliteType.abiMethod λt=>Functor.map (λa:Nat=>Value.int IntKind.u8 (a:Int)) (Rtype.kind t)) #[.pointer (some ⟨4,70,none⟩)]).run prog w=.ok (.int .u8 22) w:=by kernel_rfl
def yl8(w:World):((ReflectliteType.abiMethod λt=>Functor.map (λa:Nat=>Value.int IntKind.u8 (a:Int)) (Rtype.kind t)) #[.pointer (some ⟨4,24,none⟩)]).run prog w=.ok (.int .u8 2) w:=by kernel_rfl
def zf4(a:Addr)(w:World):(ReflectliteValue.parts (.agg #[.pointer (some ⟨4,70,none⟩),.pointer (some a),.int .u64 150])).run prog w=.ok (some (70,a,150)) w:=by kernel_rfl
def yp5(a p:Addr)(W:World)(ha:W.cell? a=some (.pointer (some p))):(ReflectliteValue.method (ReflectliteValue.valueError "reflectlite.Value.IsNil" 0) ReflectliteValue.isNil #[.agg #[.pointer (some ⟨4,70,none⟩),.pointer (some a),.int .u64 150]]).run prog W=.ok (.bool false) W:=by
 rw[ztv _ _ _ _ _ _ _ _ (zf4 a W)];simp[ReflectliteValue.isNil,loadVar,isAgg,underlying,underlying70,ha,Result.andThen]
def yl9(w:World):(ReflectliteType.method ReflectliteType.elem #[.agg #[.pointer (some ⟨4,70,none⟩)]]).run prog w=.ok (.iface 150 (.agg #[.pointer (some ⟨4,24,none⟩)])) w:=by kernel_rfl
def zh0(w:World):(ReflectliteType.relation "Implements" ReflectliteType.implements_ #[.agg #[.pointer (some ⟨4,24,none⟩)],.iface 150 (.agg #[.pointer (some ⟨4,39,none⟩)])]).run prog w=.ok (.bool true) w:=by kernel_rfl
def zh1(w:World):(ReflectliteType.relation "AssignableTo" ReflectliteType.assignableTo #[.agg #[.pointer (some ⟨4,24,none⟩)],.iface 150 (.agg #[.pointer (some ⟨4,24,none⟩)])]).run prog w=.ok (.bool true) w:=by kernel_rfl
def yx3(n:Int)(w:World):(ReflectliteValue.unpack (.iface 24 (.int .i64 n))).run prog w=.ok (.agg #[.pointer (some ⟨4,24,none⟩),.pointer (some ⟨w.heap.size,0,none⟩),.int .u64 130]) (w.alloc (.cells #[.int .i64 n] 24)):=by kernel_rfl
def yt1(w:World):(Rtype.elem? 70).run prog w=.ok (some 24) w:=by kernel_rfl
def rl_mkE(p:Addr)(w:World):(ReflectliteValue.mk 24 p ReflectliteValue.flagAddr).run prog w=.ok (.agg #[.pointer (some ⟨4,24,none⟩),.pointer (some p),.int .u64 386]) w:=by kernel_rfl
def yp6(a p:Addr)(W:World)(ha:W.cell? a=some (.pointer (some p))):(ReflectliteValue.method (ReflectliteValue.valueError "reflectlite.Value.Elem" 0) ReflectliteValue.elem #[.agg #[.pointer (some ⟨4,70,none⟩),.pointer (some a),.int .u64 150]]).run prog W=.ok (.agg #[.pointer (some ⟨4,24,none⟩),.pointer (some p),.int .u64 386]) W:=by
 rw[ztv _ _ _ _ _ _ _ _ (zf4 a W)];simp[ReflectliteValue.elem,loadVar,isAgg,underlying,underlying70,ha,Result.andThen,yt1,rl_mkE]
def yt2(a:Addr)(w:World):(ReflectliteValue.parts (.agg #[.pointer (some ⟨4,24,none⟩),.pointer (some a),.int .u64 386])).run prog w=.ok (some (24,a,386)) w:=by kernel_rfl
def yp7(a:Addr)(w:World):(ReflectliteValue.parts (.agg #[.pointer (some ⟨4,24,none⟩),.pointer (some a),.int .u64 130])).run prog w=.ok (some (24,a,130)) w:=by kernel_rfl
def yt3(w:World):(Rtype.directlyAssignable 24 24).run prog w=.ok true w:=by kernel_rfl
def rl_setE(ta b:Addr)(n:Int)(old:Value)(W:World)(hb:W.cell? b=some (.int .i64 n))(ht:W.cell? ta=some old)(hf:W.frozen? ta=false):
  (ReflectliteValue.set #[.agg #[.pointer (some ⟨4,24,none⟩),.pointer (some ta),.int .u64 386],.agg #[.pointer (some ⟨4,24,none⟩),.pointer (some b),.int .u64 130]]).run prog W=.ok (.tuple #[]) (W.setCell ta (.int .i64 n)):=by
 have h1:=yt2 ta W;have h2:=yp7 b W;have h3:=yt3 W;show Sem.run prog (ReflectliteValue.parts (.agg #[.pointer (some ⟨4,24,none⟩),.pointer (some ta),.int .u64 386])>>=λo1=>ReflectliteValue.parts (.agg #[.pointer (some ⟨4,24,none⟩),.pointer (some b),.int .u64 130])>>=λo2=>_) W=_;simp only[Sem.run_bind,h1,h2,Result.andThen];simp[ReflectliteValue.flagAddr,loadVar,isAgg,underlying,underlying24,hb,Result.andThen,h3,storeVar,Value.cells,storeCells,Addr.add];rw[run_store prog W ta _ _ (by rfl)];simp[ht,hf]
def yt4(v:Value)(xT:TypeId)(w:World):(Instr.typeAssert (.iface 24 v) xT 155 true).run prog w=.ok (.tuple #[.nilIface,.bool false]) w:=run_typeAssert_lacksB underlying155 (by kernel_rfl) (by kernel_rfl) v xT w
def yt5(v:Value)(xT:TypeId)(w:World):(Instr.typeAssert (.iface 24 v) xT 158 true).run prog w=.ok (.tuple #[.nilIface,.bool false]) w:=run_typeAssert_lacksB underlying158 (by kernel_rfl) (by kernel_rfl) v xT w
def yt6(v:Value)(xT:TypeId)(w:World):(Instr.typeAssert (.iface 24 v) xT 160 true).run prog w=.ok (.tuple #[.nilIface,.bool false]) w:=run_typeAssert_lacksB underlying160 (by kernel_rfl) (by kernel_rfl) v xT w
def as_miss(n:Int)(t:Addr)(old:Value)(w:World)(hg:w.cell? ⟨0,0,none⟩=some (.iface 150 (.agg #[.pointer (some ⟨4,39,none⟩)])))(b0:w.cell? t=some old):
  Calls prog 21 #[.iface 24 (.int .i64 n),.iface 67 (.pointer (some t))] w λev w'=>ev=.returned (.bool false)/\Below w.heap.size w w':=by
 have h6:= @run_callFunc_extern prog 38 _ (λargs=>ReflectliteValue.unpack (args.getD 0 (.tuple #[]))) func38 (by kernel_rfl) (by kernel_rfl) (by kernel_rfl) (by kernel_rfl);have h7:= @run_callFunc_extern prog 39 _ (ReflectliteValue.methodAny (ReflectliteValue.valueError "reflectlite.Value.Type" 0) (λt _ _ _=>ReflectliteType.toType t)) func39 (by kernel_rfl) (by kernel_rfl) (by kernel_rfl) (by kernel_rfl);have h8:= @run_callFunc_extern prog 40 _ (ReflectliteValue.method (ReflectliteValue.valueError "reflectlite.Value.IsNil" 0) ReflectliteValue.isNil) func40 (by kernel_rfl) (by kernel_rfl) (by kernel_rfl) (by kernel_rfl);have c0:= @run_callFunc_extern prog 175 _ (ReflectliteType.abiMethod λt=>do pure (.int .u8 (<-Rtype.kind t))) func175 (by kernel_rfl) (by kernel_rfl) (by kernel_rfl) (by kernel_rfl);have d0:= @run_callFunc_extern prog 188 _ (ReflectliteType.method ReflectliteType.elem) func188 (by kernel_rfl) (by kernel_rfl) (by kernel_rfl) (by kernel_rfl);have e0:= @run_callFunc_extern prog 189 _ (ReflectliteType.relation "Implements" ReflectliteType.implements_) func189 (by kernel_rfl) (by kernel_rfl) (by kernel_rfl) (by kernel_rfl);have f0:= @run_callFunc_extern prog 58 _ ReflectliteType.typeOf func58 (by kernel_rfl) (by kernel_rfl) (by kernel_rfl) (by kernel_rfl);have g0:= @run_callFunc_extern prog 186 _ (ReflectliteType.relation "AssignableTo" ReflectliteType.assignableTo) func186 (by kernel_rfl) (by kernel_rfl) (by kernel_rfl) (by kernel_rfl);have h0:= @run_callFunc_extern prog 59 _ (ReflectliteValue.method (ReflectliteValue.valueError "reflectlite.Value.Elem" 0) ReflectliteValue.elem) func59 (by kernel_rfl) (by kernel_rfl) (by kernel_rfl) (by kernel_rfl);have i0:= @run_callFunc_extern prog 60 _ ReflectliteValue.set func60 (by kernel_rfl) (by kernel_rfl) (by kernel_rfl) (by kernel_rfl);have tO:=zj1;have mA:=Ub;have aN:=zmx;have l1:=yt4;have l2:=yt5;have l3:=yt6;have f6:=zpw;have f7:=zf1;have mK:=zu3;have mE:=zu4;have mI:=zz7;have k27:=zf2;have k25:=zcv;have e27:=zf3;have i25:=zr1;have a0:0<w.heap.size:=Qe w _ hg;have n8:=zkv ⟨w.heap.size,0,none⟩ t ((w.alloc (.cells #[.pointer (some t)] 67)).alloc (.cells #[.pointer (some ⟨4,67,none⟩),.pointer (some ⟨w.heap.size,0,none⟩),.int .u64 150] 99)) (by simp)
 have j0:((w.alloc (.cells #[.pointer (some t)] 67)).alloc (.cells #[.pointer (some ⟨4,67,none⟩),.pointer (some ⟨w.heap.size,0,none⟩),.int .u64 150] 99)).cell? ⟨0,0,none⟩=some (.iface 150 (.agg #[.pointer (some ⟨4,39,none⟩)])):=by
  rw[Qf _ _ _ (by simp<;>omega),Qf _ _ _ a0];exact hg
 go_enter func21,ntmps21
 go_wp2;refine wp_loop_rounds 1 ?_;rw[rounds_succ];go_wp2;go_ret;exact⟨rfl,((bA).alloc (by simp) _).alloc (by simp;omega) _⟩
def ylz(n:Int)(t:Addr)(old:Value)(w:World)(hg:w.cell? ⟨0,0,none⟩=some (.iface 150 (.agg #[.pointer (some ⟨4,39,none⟩)])))(a0:w.cell? t=some old)(c0:w.frozen? t=false):
  Calls prog 21 #[.iface 24 (.int .i64 n),.iface 70 (.pointer (some t))] w λev w'=>ev=.returned (.bool true)/\w'=((((w.alloc (.cells #[.pointer (some t)] 70)).alloc (.cells #[.pointer (some ⟨4,70,none⟩),.pointer (some ⟨w.heap.size,0,none⟩),.int .u64 150] 99)).alloc (.cells #[.pointer (some ⟨4,70,none⟩),.pointer (some ⟨w.heap.size,0,none⟩),.int .u64 150] 99)).alloc (.cells #[.int .i64 n] 24)).setCell t (.int .i64 n):=by
 have h6:= @run_callFunc_extern prog 38 _ (λargs=>ReflectliteValue.unpack (args.getD 0 (.tuple #[]))) func38 (by kernel_rfl) (by kernel_rfl) (by kernel_rfl) (by kernel_rfl);have h7:= @run_callFunc_extern prog 39 _ (ReflectliteValue.methodAny (ReflectliteValue.valueError "reflectlite.Value.Type" 0) (λt _ _ _=>ReflectliteType.toType t)) func39 (by kernel_rfl) (by kernel_rfl) (by kernel_rfl) (by kernel_rfl);have h8:= @run_callFunc_extern prog 40 _ (ReflectliteValue.method (ReflectliteValue.valueError "reflectlite.Value.IsNil" 0) ReflectliteValue.isNil) func40 (by kernel_rfl) (by kernel_rfl) (by kernel_rfl) (by kernel_rfl);have e0:= @run_callFunc_extern prog 175 _ (ReflectliteType.abiMethod λt=>do pure (.int .u8 (<-Rtype.kind t))) func175 (by kernel_rfl) (by kernel_rfl) (by kernel_rfl) (by kernel_rfl);have f0:= @run_callFunc_extern prog 188 _ (ReflectliteType.method ReflectliteType.elem) func188 (by kernel_rfl) (by kernel_rfl) (by kernel_rfl) (by kernel_rfl);have g0:= @run_callFunc_extern prog 189 _ (ReflectliteType.relation "Implements" ReflectliteType.implements_) func189 (by kernel_rfl) (by kernel_rfl) (by kernel_rfl) (by kernel_rfl);have h0:= @run_callFunc_extern prog 58 _ ReflectliteType.typeOf func58 (by kernel_rfl) (by kernel_rfl) (by kernel_rfl) (by kernel_rfl);have i0:= @run_callFunc_extern prog 186 _ (ReflectliteType.relation "AssignableTo" ReflectliteType.assignableTo) func186 (by kernel_rfl) (by kernel_rfl) (by kernel_rfl) (by kernel_rfl);have j0:= @run_callFunc_extern prog 59 _ (ReflectliteValue.method (ReflectliteValue.valueError "reflectlite.Value.Elem" 0) ReflectliteValue.elem) func59 (by kernel_rfl) (by kernel_rfl) (by kernel_rfl) (by kernel_rfl);have k0:= @run_callFunc_extern prog 60 _ ReflectliteValue.set func60 (by kernel_rfl) (by kernel_rfl) (by kernel_rfl) (by kernel_rfl);have tO:=zj1;have mA:=Ub;have a25:=zh1;have v25:=yx3;have f6:=yx2;have f7:=yl6;have mK:=zu3;have mE:=zu4;have mI:=zz7;have k27:=yl7;have k25:=yl8;have e27:=yl9;have i25:=zh0;have d0:0<w.heap.size:=Qe w _ hg;have b0:t.block<w.heap.size:=Qe w _ a0;have n8:=yp5 ⟨w.heap.size,0,none⟩ t ((w.alloc (.cells #[.pointer (some t)] 70)).alloc (.cells #[.pointer (some ⟨4,70,none⟩),.pointer (some ⟨w.heap.size,0,none⟩),.int .u64 150] 99)) (by simp)
 have l0:((w.alloc (.cells #[.pointer (some t)] 70)).alloc (.cells #[.pointer (some ⟨4,70,none⟩),.pointer (some ⟨w.heap.size,0,none⟩),.int .u64 150] 99)).cell? ⟨0,0,none⟩=some (.iface 150 (.agg #[.pointer (some ⟨4,39,none⟩)])):=by
  rw[Qf _ _ _ (by simp<;>omega),Qf _ _ _ d0];exact hg
 have el:=yp6 ⟨w.heap.size,0,none⟩ t (((w.alloc (.cells #[.pointer (some t)] 70)).alloc (.cells #[.pointer (some ⟨4,70,none⟩),.pointer (some ⟨w.heap.size,0,none⟩),.int .u64 150] 99)).alloc (.cells #[.pointer (some ⟨4,70,none⟩),.pointer (some ⟨w.heap.size,0,none⟩),.int .u64 150] 99)) (by rw[Qf _ _ ⟨w.heap.size,0,none⟩ (by simp;omega)];simp);have st:=rl_setE t ⟨w.heap.size+1+1+1,0,none⟩ n old ((((w.alloc (.cells #[.pointer (some t)] 70)).alloc (.cells #[.pointer (some ⟨4,70,none⟩),.pointer (some ⟨w.heap.size,0,none⟩),.int .u64 150] 99)).alloc (.cells #[.pointer (some ⟨4,70,none⟩),.pointer (some ⟨w.heap.size,0,none⟩),.int .u64 150] 99)).alloc (.cells #[.int .i64 n] 24))
  (by rw[World.cell?_alloc_at _ _ _ _ (by simp)];rfl)
  (by rw[Qf _ _ t (by simp;omega),Qf _ _ t (by simp;omega),Qf _ _ t (by simp;omega),Qf _ _ t b0];exact a0)
  (by rw[World.frozen?_alloc_old _ _ t (by simp;omega),World.frozen?_alloc_old _ _ t (by simp;omega),World.frozen?_alloc_old _ _ t (by simp;omega),World.frozen?_alloc_old _ _ t (Nat.ne_of_lt b0)];exact c0)
 go_enter func21,ntmps21
 go_wp2;refine wp_loop_rounds 1 ?_;rw[rounds_succ];go_wp2;go_ret;exact⟨rfl,rfl⟩
def zd6{B:Nat}{w0 w:World}{o1 o2 o3 o4:Obj}{a:Addr}{u:Value}(h:Below B w0 w)(hB:B<=w.heap.size)(ha:B<=a.block):Below B w0 (((((w.alloc o1).alloc o2).alloc o3).alloc o4).setCell a u):=(zj0 h hB).setCell ha u
def zb0{w:World}{o1 o2 o3 o4:Obj}{a:Addr}{u old:Value}(h:w.cell? a=some old):(((((w.alloc o1).alloc o2).alloc o3).alloc o4).setCell a u).cell? a=some u:=by
 have hl:=Qe w a h;apply World.cell?_setCell_same'
 rw[Qf _ _ _ (by simp;omega),Qf _ _ _ (by simp;omega),Qf _ _ _ (by simp;omega),Qf _ _ _ hl,h];rfl
def yt7(n:Int)(w:World)(hg:zz4 w):
  Calls prog 9 #[.iface 24 (.int .i64 n)] w λe w'=>e=.returned (.tuple #[.int .i64 n,.int .i64 (-1)])/\Below w.heap.size w w':=by
 have g0:0<w.heap.size:=Qe w _ hg;have a0:Below w.heap.size w ((w.alloc (.cells #[.pointer none] 65)).alloc (.cells #[.int .i64 0] 24)):=(bA).alloc (by simp) _;have b0:∀o,Below w.heap.size w o->zz4 o:=λo ho=>(ho.cell (p:=⟨0,0,none⟩) g0).trans hg;have HM:Hid (Calls prog 21 #[.iface 24 (.int .i64 n),.iface 67 (.pointer (some ⟨w.heap.size,0,none⟩))] ((w.alloc (.cells #[.pointer none] 65)).alloc (.cells #[.int .i64 0] 24)) λev w'=>ev=.returned (.bool false)/\(Below w.heap.size w w'/\w'.cell? ⟨w.heap.size+1,0,none⟩=some (.int .i64 0)/\w'.frozen? ⟨w.heap.size+1,0,none⟩=false)):=by
  refine(as_miss n ⟨w.heap.size,0,none⟩ (.pointer none) ((w.alloc (.cells #[.pointer none] 65)).alloc (.cells #[.int .i64 0] 24)) (b0 _ a0) (by simp)).mono ?_;rintro ev w' ⟨rfl,hb⟩;exact⟨rfl,a0.trans (hb.mono (by simp;omega)),by rw[hb.cell (p:=⟨w.heap.size+1,0,none⟩) (by simp)];simp,by rw[hb.frozen (p:=⟨w.heap.size+1,0,none⟩) (by simp)];simp⟩
 have HE:Hid (∀wz,Below w.heap.size w wz->wz.cell? ⟨w.heap.size+1,0,none⟩=some (.int .i64 0)->wz.frozen? ⟨w.heap.size+1,0,none⟩=false->Calls prog 21 #[.iface 24 (.int .i64 n),.iface 70 (.pointer (some ⟨w.heap.size+1,0,none⟩))] wz λev w'=>ev=.returned (.bool true)/\(Below w.heap.size w w'/\w'.cell? ⟨w.heap.size+1,0,none⟩=some (.int .i64 n))):=by
  intro wz hb hc hf;refine(ylz n ⟨w.heap.size+1,0,none⟩ (.int .i64 0) wz (b0 _ hb) hc hf).mono ?_;rintro ev w' ⟨rfl,rfl⟩;exact⟨rfl,zd6 hb hb.size (by simp),zb0 hc⟩
 clear hg b0 a0
 go_enter func9,ntmps9
 go_wp2_with fail
 refine(HM.out).mono ?_;rintro e w1 ⟨rfl,c0,d0,e0⟩;have h0:=Zz c0;clear c0 HM
 go_wp2_with fail
 refine(HE.out _ h0.out d0 e0).mono ?_;rintro e w2 ⟨rfl,f0,j0⟩;have i0:=Zz f0;clear f0 HE d0 e0;go_wp2
 go_ret2
 exact⟨rfl,i0.out⟩
end Go.Proofs.YtaaejabalinojaaGreatDoor
namespace Go.Proofs.YtaaejabalinojaaGreatDoor
open Go.ChangeShapes Go.WideShapes Go.RowKit Go.Proofs.Tryz
def Tryz.own:ownKnob Tryz.prog.godebug=none:=by kernel_rfl
def Tryz.et:Tryz.prog.globalNamed "errors.errorType"=some 0:=by kernel_rfl
def Tryz.rt:(Tryz.prog.cutTypes.find? (·.1== "internal/reflectlite.rtype")).map (·.2)=some 150:=by kernel_rfl
def Tryz.oneRow:((List.range 289).filter λt=>Tryz.prog.rowNamed t [101,114,114,111,114])=[39]:=by kernel_rfl
def Tryz.tsize:Tryz.prog.types.size=289:=by kernel_rfl
def zh2{W:World}(h:laidMetH prog [("errors.errorType",Rows.laid_errors_errorType)] W):zz4 W:=by
 have h':laidMet prog [] W/\handlesMet prog [("errors.errorType",Rows.laid_errors_errorType)] W:=h;obtain⟨name,u,ty,e1,e2,e3,e4,e5⟩:=h'.2 _ (List.mem_singleton.2 rfl);have en:name=[101,114,114,111,114]:=(Option.some.inj e1).symm;subst en;obtain rfl:=Option.some.inj (Tryz.rt.symm.trans e2);have hm:ty∈(List.range 289).filter λt=>prog.rowNamed t [101,114,114,111,114]:=List.mem_filter.2 ⟨List.mem_range.2 (by rw[<-Tryz.tsize];exact e3),e4⟩;rw[Tryz.oneRow]at hm;obtain rfl:=List.mem_singleton.1 hm
 have hh:typeHandle prog 39=.pointer (some ⟨4,39,none⟩):=by kernel_rfl
 rw[hh]at e5;show W.cell? _=_;simpa using World.var?_cell Tryz.et e5 0
end Go.Proofs.YtaaejabalinojaaGreatDoor
