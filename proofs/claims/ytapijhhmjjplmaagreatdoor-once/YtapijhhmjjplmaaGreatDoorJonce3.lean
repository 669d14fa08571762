import Derived.Test.YtapijhhmjjplmaaGreatDoorJonce1
namespace Go.Proofs.YtapijhhmjjplmaaGreatDoor
set_option linter.all false
set_option maxRecDepth 100000
set_option maxHeartbeats 4000000
open Go.Proofs.Tryz
section
open Go.RowKit Go.Extern.Stop Go.Stop Go.Extern
theorem ET(t:Addr)(w:World):(ReflectliteValue.unpack (.iface 164 (.pointer (some t)))).run prog w
  =.ok (.agg #[.pointer (some ⟨18,164,none⟩),yP w.heap.size,.int .u64 150]) (w.alloc (.cells #[.pointer (some t)] 164)):=kR
theorem LP(a:Addr)(w:World):(ReflectliteValue.methodAny (ReflectliteValue.valueError "reflectlite.Value.Type" 0) (λt _ _ _=>ReflectliteType.toType t) #[.agg #[.pointer (some ⟨18,164,none⟩),.pointer (some a),.int .u64 150]]).run prog w
  =.ok (.iface 333 (.agg #[.pointer (some ⟨18,164,none⟩)])) w:=kR
theorem CB(h:Value)(w:World):(Go.method 587 333 (.agg #[h]) "Kind").run prog w=.ok (341,h) w:=kR
theorem Nf(w:World):((ReflectliteType.abiMethod λt=>(λa:Nat=>Value.int IntKind.u8 (a:Int))<$>Rtype.kind t) #[.pointer (some ⟨18,164,none⟩)]).run prog w=.ok (.int .u8 22) w:=kR
theorem OM(w:World):((ReflectliteType.abiMethod λt=>(λa:Nat=>Value.int IntKind.u8 (a:Int))<$>Rtype.kind t) #[.pointer (some ⟨18,162,none⟩)]).run prog w=.ok (.int .u8 22) w:=kR
theorem RK(z:Sem Value)(f:TypeId->Addr->Nat->Nat->Sem Value)(v:Value):
  ReflectliteValue.method z f #[v]=(do match <-ReflectliteValue.parts v with|none=>z|some (t,a,fl)=>f t a fl (fl%32)):=rfl
theorem JF(a:Addr)(w:World):(ReflectliteValue.parts (.agg #[.pointer (some ⟨18,164,none⟩),.pointer (some a),.int .u64 150])).run prog w=.ok (some (164,a,150)) w:=kR
theorem IV(a p:Addr)(W:World)(b:W.cell? a=some (.pointer (some p))):
  (ReflectliteValue.method (ReflectliteValue.valueError "reflectlite.Value.IsNil" 0) ReflectliteValue.isNil #[.agg #[.pointer (some ⟨18,164,none⟩),.pointer (some a),.int .u64 150]]).run prog W=.ok (.bool false) W:=by
 rw[RK];simp only[K7,JF,Result.andThen];simp[ReflectliteValue.isNil,loadVar,isAgg,underlying,underlying164,b,Result.andThen]
theorem Cq(h:Value)(w:World):(Go.method 587 333 (.agg #[h]) "Elem").run prog w=.ok (353,.agg #[h]) w:=kR
theorem rl(h:Value)(w:World):(Go.method 587 333 (.agg #[h]) "Implements").run prog w=.ok (354,.agg #[h]) w:=kR
theorem pn(h:Value)(w:World):(Go.method 587 333 (.agg #[h]) "AssignableTo").run prog w=.ok (351,.agg #[h]) w:=kR
theorem M7(w:World):(ReflectliteType.method ReflectliteType.elem #[.agg #[.pointer (some ⟨18,164,none⟩)]]).run prog w=.ok (.iface 333 (.agg #[.pointer (some ⟨18,162,none⟩)])) w:=kR
theorem Ai(w:World):(ReflectliteType.relation "Implements" ReflectliteType.implements_ #[.agg #[.pointer (some ⟨18,162,none⟩)],.iface 333 (.agg #[.pointer (some ⟨18,92,none⟩)])]).run prog w=.ok (.bool true) w:=kR
theorem JG(v:Value)(w:World):(ReflectliteType.typeOf #[.iface 458 v]).run prog w=.ok (.iface 333 (.agg #[.pointer (some ⟨18,458,none⟩)])) w:=kR
theorem Au(w:World):(ReflectliteType.relation "AssignableTo" ReflectliteType.assignableTo #[.agg #[.pointer (some ⟨18,458,none⟩)],.iface 333 (.agg #[.pointer (some ⟨18,162,none⟩)])]).run prog w=.ok (.bool false) w:=kR
theorem RP(v x:Value):ReflectliteValue.set #[v,x]=(do
  let (some (dst,a,fl),some (src,b,_)):=(<-ReflectliteValue.parts v,<-ReflectliteValue.parts x)
   |unsupported (.noEntry "extern/(internal/reflectlite.Value).Set.zeroValue")
  if fl/ReflectliteValue.flagAddr%2==0 then unsupported (.noEntry "extern/(internal/reflectlite.Value).Set.unaddressable")
  let val <-loadVar src b
  if <-Rtype.directlyAssignable dst src then storeVar dst a val
  else if <-Rtype.implements dst src then
   if(<-Rtype.kind src)==20 then
    match val with
    | .nilIface=>unsupported (.noEntry "extern/reflectlite: a nil value of one interface type handed on as a value of another")
    |_=>storeVar dst a val
   else storeVar dst a (.iface src val)
  else panicString ("reflectlite.Set: value of type "++(<-Rtype.spelt src)++ " is not assignable to type "++(<-Rtype.spelt dst))
  pure (.tuple #[])):=rfl
theorem Ja(a:Addr)(w:World):(ReflectliteValue.parts (.agg #[.pointer (some ⟨18,162,none⟩),.pointer (some a),.int .u64 406])).run prog w=.ok (some (162,a,406)) w:=kR
theorem M4(a:Addr)(w:World):(ReflectliteValue.parts (.agg #[.pointer (some ⟨18,162,none⟩),.pointer (some a),.int .u64 150])).run prog w=.ok (some (162,a,150)) w:=kR
theorem Jg(w:World):(Rtype.directlyAssignable 162 162).run prog w=.ok true w:=kR
theorem setP(a b e:Addr)(old:Value)(W:World)(c:W.cell? b=some (.pointer (some e)))(d:W.cell? a=some old)(f:W.frozen? a=false):
  (ReflectliteValue.set #[.agg #[.pointer (some ⟨18,162,none⟩),.pointer (some a),.int .u64 406],.agg #[.pointer (some ⟨18,162,none⟩),.pointer (some b),.int .u64 150]]).run prog W
   =.ok (.tuple #[]) (W.setCell a (.pointer (some e))):=by
 rw[RP];simp only[K7,Ja,M4,Result.andThen];simp[ReflectliteValue.flagAddr,loadVar,isAgg,underlying,underlying162,c,Result.andThen,Jg,storeVar,Value.cells,storeCells,Addr.add];rw[run_store prog W a _ _ (by rfl)];simp[d,f]
theorem OP(v:Value)(a:TypeId)(w:World):(Instr.typeAssert (.iface 458 v) a 343 true).run prog w=.ok (.tuple #[.nilIface,.bool false]) w:=Nz underlying343 kR kR v a w
theorem zU(v:Value)(a:TypeId)(w:World):(Instr.typeAssert (.iface 458 v) a 338 true).run prog w=.ok (.tuple #[.nilIface,.bool false]) w:=Nz underlying338 kR kR v a w
theorem xD(v:Value)(a:TypeId)(w:World):(Instr.typeAssert (.iface 458 v) a 339 true).run prog w=.ok (.tuple #[.nilIface,.bool false]) w:=Nz underlying339 kR kR v a w
theorem IQ(e t:Addr)(w:World)(p:w.cell? ⟨12,0,none⟩=some (.iface 333 (.agg #[.pointer (some ⟨18,92,none⟩)]))):
  Calls prog 79 #[.iface 458 (.pointer (some e)),.iface 164 (.pointer (some t))] w λev w'=>ev=.returned (.bool false)/\w'=(((w.alloc (.cells #[.pointer (some t)] 164)).alloc (.cells #[.pointer (some ⟨18,164,none⟩),yP w.heap.size,.int .u64 150] 247)).alloc (.cells #[.pointer (some ⟨18,164,none⟩),yP w.heap.size,.int .u64 150] 247)):=by
 have h6:=@DO prog 135 _ (λa=>ReflectliteValue.unpack (a.getD 0 (.tuple #[]))) func135 kR kR kR kR;have h7:=@DO prog 136 _ (ReflectliteValue.methodAny (ReflectliteValue.valueError "reflectlite.Value.Type" 0) (λt _ _ _=>ReflectliteType.toType t)) func136 kR kR kR kR;have h8:=@DO prog 137 _ (ReflectliteValue.method (ReflectliteValue.valueError "reflectlite.Value.IsNil" 0) ReflectliteValue.isNil) func137 kR kR kR kR;have k:=@DO prog 341 _ (ReflectliteType.abiMethod λt=>do pure (.int .u8 (<-Rtype.kind t))) func341 kR kR kR kR;have m:=@DO prog 353 _ (ReflectliteType.method ReflectliteType.elem) func353 kR kR kR kR;have o:=@DO prog 354 _ (ReflectliteType.relation "Implements" ReflectliteType.implements_) func354 kR kR kR kR;have c:=@DO prog 133 _ ReflectliteType.typeOf func133 kR kR kR kR;have i:=@DO prog 351 _ (ReflectliteType.relation "AssignableTo" ReflectliteType.assignableTo) func351 kR kR kR kR;have tO:=JG;have mA:=pn;have j:=Au;have f6:=ET;have f7:=LP;have mK:=CB;have mE:=Cq;have mI:=rl;have n:=Nf;have l:=OM;have f:=M7;have g:=Ai;have nA:=OP;have nU:=zU;have nV:=xD;have n8:=IV (yA w.heap.size 0) t ((w.alloc (.cells #[.pointer (some t)] 164)).alloc (.cells #[.pointer (some ⟨18,164,none⟩),yP w.heap.size,.int .u64 150] 247)) sI
 have b:12<w.heap.size:=by
  rcases Fc 12 w.heap.size with h|h
  .exact h
  simp[World.cell?,Pj h]at p
 have d:((w.alloc (.cells #[.pointer (some t)] 164)).alloc (.cells #[.pointer (some ⟨18,164,none⟩),yP w.heap.size,.int .u64 150] 247)).cell? ⟨12,0,none⟩=some (.iface 333 (.agg #[.pointer (some ⟨18,92,none⟩)])):=by rw[Q6 _ _ ⟨12,0,none⟩ (by simp;omega),Q6 _ _ ⟨12,0,none⟩ b];exact p
 go_enter func79,ntmps79
 go_wp2
 refine Oe 1 ?_;rw[zc]
 go_wp2
 go_ret;exact⟨rfl,rfl⟩
end
end Go.Proofs.YtapijhhmjjplmaaGreatDoor
