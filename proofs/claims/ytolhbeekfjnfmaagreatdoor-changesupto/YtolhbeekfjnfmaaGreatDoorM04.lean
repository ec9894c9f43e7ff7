import Derived.LaidEql
import Derived.Stop.Asserts
import Derived.RowKitTokens
import Derived.Test.YtolhbeekfjnfmaaGreatDoorM03
set_option maxHeartbeats 8000000
namespace Go.Proofs.YtolhbeekfjnfmaaGreatDoor
open Go.RowKit Go.Extern.Stop Go.Stop Go.Extern
abbrev CS:=@run_callFunc_extern
abbrev FU:=@World.cell?_alloc_lt
abbrev GN:=@World.frozen?_alloc_old
abbrev KV:=@Sem.run_bind
variable {w w':World}
theorem Tryz.isTypeOf(v:Value)(w:World):(Extern.ReflectliteType.typeOf #[.iface 345 v]).run Tryz.prog w=.ok (.iface 241 (.agg #[.pointer (some ⟨6,345,none⟩)])) w:=by kernel_rfl
def Na:Array Value->Sem Value:=Extern.ReflectliteType.method fun t=>do Extern.Rtype.noPackHeld "Comparable" t;pure (.bool (←typeInfo t).comparable)
theorem Tryz.isComparable(w:World):(Na #[.agg #[.pointer (some ⟨6,345,none⟩)]]).run Tryz.prog w=.ok (.bool true) w:=by kernel_rfl
theorem Tryz.isMethodComparable(v:Value)(w:World):(Go.method 482 241 v "Comparable").run Tryz.prog w=.ok (265,v) w:=by kernel_rfl
theorem Tryz.isComp:(Tryz.prog.info? 345).map (·.comparable)=some true:=by kernel_rfl
theorem Tryz.isSize:(Tryz.prog.info? 370).map (·.size)=some 1:=by kernel_rfl
theorem Tryz.noIsE(v:Value)(xT:TypeId)(w:World):(Instr.typeAssert (.iface 345 v) xT 243 true).run Tryz.prog w=.ok (.tuple #[.nilIface,.bool false]) w:=run_typeAssert_lacksB Tryz.underlying243 (by kernel_rfl) (by kernel_rfl) v xT w
theorem Tryz.noUnwrapE(v:Value)(xT:TypeId)(w:World):(Instr.typeAssert (.iface 345 v) xT 246 true).run Tryz.prog w=.ok (.tuple #[.nilIface,.bool false]) w:=run_typeAssert_lacksB Tryz.underlying246 (by kernel_rfl) (by kernel_rfl) v xT w
theorem Tryz.noUnwrapsE(v:Value)(xT:TypeId)(w:World):(Instr.typeAssert (.iface 345 v) xT 248 true).run Tryz.prog w=.ok (.tuple #[.nilIface,.bool false]) w:=run_typeAssert_lacksB Tryz.underlying248 (by kernel_rfl) (by kernel_rfl) v xT w
theorem Tryz.noIsW(v:Value)(xT:TypeId)(w:World):(Instr.typeAssert (.iface 112 v) xT 243 true).run Tryz.prog w=.ok (.tuple #[.nilIface,.bool false]) w:=run_typeAssert_lacksB Tryz.underlying243 (by kernel_rfl) (by kernel_rfl) v xT w
theorem Tryz.hasUnwrapW(v:Value)(xT:TypeId)(w:World):(Instr.typeAssert (.iface 112 v) xT 246 true).run Tryz.prog w=.ok (.tuple #[.iface 112 v,.bool true]) w:=run_typeAssert_hasB Tryz.underlying246 (by kernel_rfl) v xT w
theorem Tryz.methodUnwrap(v:Value)(w:World):(Go.method 482 112 v "Unwrap").run Tryz.prog w=.ok (237,v) w:=by kernel_rfl
theorem Q13(pb:Nat)(b:Addr)(w:World)(h1:w.cell? ⟨pb,1,none⟩=some (.iface 345 (.pointer (some b)))) :
  Calls Tryz.prog 64 #[.iface 112 (.pointer (some ⟨pb,0,none⟩)),.iface 345 (.pointer (some b))] w fun e w'=>e=.returned (.bool true)/\w'=w:=by
 obtain⟨i,hi,qC⟩:=EL.1 Tryz.isComp;obtain⟨j,hj,PK⟩:=EL.1 Tryz.isSize;have h8:=@CS Tryz.prog 91 _ Extern.ReflectliteType.typeOf Tryz.func91 (by kernel_rfl) (by kernel_rfl) (by kernel_rfl) (by kernel_rfl);have h32:=@CS Tryz.prog 265 _ Na Tryz.func265 (by kernel_rfl) (by kernel_rfl) (by kernel_rfl) (by kernel_rfl);have tT:=Tryz.isTypeOf;have cT:=Tryz.isComparable;have mR:=Tryz.isMethodComparable;have nE:=Tryz.noIsE;have uE:=Tryz.noUnwrapE;have vE:=Tryz.noUnwrapsE;have nW:=Tryz.noIsW;have uW:=Tryz.hasUnwrapW;have mU:=Tryz.methodUnwrap;have heq:=run_eql_iface_ptr_same (P:=Tryz.prog) w b Tryz.underlying79 Tryz.underlying345 hi qC hj;have iI:=run_eql_iface_types (P:=Tryz.prog) 112 345 (.pointer (some ⟨pb,0,none⟩)) (.pointer (some b)) Tryz.underlying79 (by decide) w;go_enter Tryz.func64,Tryz.ntmps64;go_wp2;refine wp_loop_rounds 2 ?_;rw[rounds_succ];go_wp2;rw[rounds_succ];go_wp2;go_ret;exact⟨rfl,rfl⟩
theorem Zn(pb:Nat)(b a:Addr)(ca cb:Array Value)(ta tb:TypeId)(w:World)(h1:w.cell? ⟨pb,1,none⟩=some (.iface 345 (.pointer (some a))))(hne:a≠b)(ha:w.heap[a.block]?=some (.cells ca ta (0,0)))(hb:w.heap[b.block]?=some (.cells cb tb (0,0))) :
  Calls Tryz.prog 64 #[.iface 112 (.pointer (some ⟨pb,0,none⟩)),.iface 345 (.pointer (some b))] w fun e w'=>e=.returned (.bool false)/\w'=w:=by
 obtain⟨i,hi,qC⟩:=EL.1 Tryz.isComp;obtain⟨j,hj,PK⟩:=EL.1 Tryz.isSize;have h8:=@CS Tryz.prog 91 _ Extern.ReflectliteType.typeOf Tryz.func91 (by kernel_rfl) (by kernel_rfl) (by kernel_rfl) (by kernel_rfl);have h32:=@CS Tryz.prog 265 _ Na Tryz.func265 (by kernel_rfl) (by kernel_rfl) (by kernel_rfl) (by kernel_rfl);have tT:=Tryz.isTypeOf;have cT:=Tryz.isComparable;have mR:=Tryz.isMethodComparable;have nE:=Tryz.noIsE;have uE:=Tryz.noUnwrapE;have vE:=Tryz.noUnwrapsE;have nW:=Tryz.noIsW;have uW:=Tryz.hasUnwrapW;have mU:=Tryz.methodUnwrap;have heq:=run_eql_iface_ptr_other (P:=Tryz.prog) w Tryz.underlying79 Tryz.underlying345 hi qC hj (by rw[PK];decide) hne ha hb;have iI:=run_eql_iface_types (P:=Tryz.prog) 112 345 (.pointer (some ⟨pb,0,none⟩)) (.pointer (some b)) Tryz.underlying79 (by decide) w;go_enter Tryz.func64,Tryz.ntmps64;go_wp2;refine wp_loop_rounds 2 ?_;rw[rounds_succ];go_wp2;rw[rounds_succ];go_wp2;go_ret;exact⟨rfl,rfl⟩
theorem Tryz.valueOfPP(t:Addr)(w:World):(ReflectliteValue.unpack (.iface 121 (.pointer (some t)))).run Tryz.prog w
  = .ok (.agg #[.pointer (some ⟨6,121,none⟩),.pointer (some ⟨w.heap.size,0,none⟩),.int .u64 150]) (w.alloc (.cells #[.pointer (some t)] 121)):=by kernel_rfl
theorem Tryz.typePP(a:Addr)(w:World):(ReflectliteValue.methodAny (ReflectliteValue.valueError "reflectlite.Value.Type" 0) (fun t _ _ _=>ReflectliteType.toType t) #[.agg #[.pointer (some ⟨6,121,none⟩),.pointer (some a),.int .u64 150]]).run Tryz.prog w
  = .ok (.iface 241 (.agg #[.pointer (some ⟨6,121,none⟩)])) w:=by kernel_rfl
theorem Tryz.methodKind(h:Value)(w:World):(Go.method 482 241 (.agg #[h]) "Kind").run Tryz.prog w=.ok (232,h) w:=by kernel_rfl
theorem Tryz.kindPP(w:World):((ReflectliteType.abiMethod fun t=>(fun a:Nat=>Value.int IntKind.u8 (a:Int)) <$> Rtype.kind t) #[.pointer (some ⟨6,121,none⟩)]).run Tryz.prog w=.ok (.int .u8 22) w:=by kernel_rfl
theorem Tryz.kindP(w:World):((ReflectliteType.abiMethod fun t=>(fun a:Nat=>Value.int IntKind.u8 (a:Int)) <$> Rtype.kind t) #[.pointer (some ⟨6,112,none⟩)]).run Tryz.prog w=.ok (.int .u8 22) w:=by kernel_rfl
theorem Tryz.partsPP(a:Addr)(w:World):(ReflectliteValue.parts (.agg #[.pointer (some ⟨6,121,none⟩),.pointer (some a),.int .u64 150])).run Tryz.prog w=.ok (some (121,a,150)) w:=by kernel_rfl
theorem Tryz.isNilPP(a p:Addr)(W:World)(ha:W.cell? a=some (.pointer (some p))) :
  (ReflectliteValue.method (ReflectliteValue.valueError "reflectlite.Value.IsNil" 0) ReflectliteValue.isNil #[.agg #[.pointer (some ⟨6,121,none⟩),.pointer (some a),.int .u64 150]]).run Tryz.prog W=.ok (.bool false) W:=by
 change (Bind.bind (ReflectliteValue.parts (.agg #[.pointer (some ⟨6,121,none⟩),.pointer (some a),.int .u64 150])) (fun x=>_):Sem Value).run _ _=_;simp only[KV,Tryz.partsPP,Result.andThen];simp[ReflectliteValue.isNil,loadVar,isAgg,underlying,Tryz.underlying121,ha,Result.andThen]
theorem Tryz.methodElem(h:Value)(w:World):(Go.method 482 241 (.agg #[h]) "Elem").run Tryz.prog w=.ok (266,.agg #[h]) w:=by kernel_rfl
theorem Tryz.methodImplements(h:Value)(w:World):(Go.method 482 241 (.agg #[h]) "Implements").run Tryz.prog w=.ok (267,.agg #[h]) w:=by kernel_rfl
theorem Tryz.methodAssignableTo(h:Value)(w:World):(Go.method 482 241 (.agg #[h]) "AssignableTo").run Tryz.prog w=.ok (264,.agg #[h]) w:=by kernel_rfl
theorem Tryz.elemPP(w:World):(ReflectliteType.method ReflectliteType.elem #[.agg #[.pointer (some ⟨6,121,none⟩)]]).run Tryz.prog w=.ok (.iface 241 (.agg #[.pointer (some ⟨6,112,none⟩)])) w:=by kernel_rfl
theorem Tryz.implementsP(w:World):(ReflectliteType.relation "Implements" ReflectliteType.implements_ #[.agg #[.pointer (some ⟨6,112,none⟩)],.iface 241 (.agg #[.pointer (some ⟨6,79,none⟩)])]).run Tryz.prog w=.ok (.bool true) w:=by kernel_rfl
theorem Tryz.typeOfP(v:Value)(w:World):(ReflectliteType.typeOf #[.iface 112 v]).run Tryz.prog w=.ok (.iface 241 (.agg #[.pointer (some ⟨6,112,none⟩)])) w:=by kernel_rfl
theorem Tryz.assignableP(w:World):(ReflectliteType.relation "AssignableTo" ReflectliteType.assignableTo #[.agg #[.pointer (some ⟨6,112,none⟩)],.iface 241 (.agg #[.pointer (some ⟨6,112,none⟩)])]).run Tryz.prog w=.ok (.bool true) w:=by kernel_rfl
theorem Tryz.valueOfP(e:Addr)(w:World):(ReflectliteValue.unpack (.iface 112 (.pointer (some e)))).run Tryz.prog w
  = .ok (.agg #[.pointer (some ⟨6,112,none⟩),.pointer (some ⟨w.heap.size,0,none⟩),.int .u64 150]) (w.alloc (.cells #[.pointer (some e)] 112)):=by kernel_rfl
theorem Tryz.elemOfPP(w:World):(Rtype.elem? 121).run Tryz.prog w=.ok (some 112) w:=by kernel_rfl
theorem Tryz.mkP(p:Addr)(w:World):(ReflectliteValue.mk 112 p ReflectliteValue.flagAddr).run Tryz.prog w=.ok (.agg #[.pointer (some ⟨6,112,none⟩),.pointer (some p),.int .u64 406]) w:=by kernel_rfl
theorem Tryz.elemVPP(a p:Addr)(W:World)(ha:W.cell? a=some (.pointer (some p))) :
  (ReflectliteValue.method (ReflectliteValue.valueError "reflectlite.Value.Elem" 0) ReflectliteValue.elem #[.agg #[.pointer (some ⟨6,121,none⟩),.pointer (some a),.int .u64 150]]).run Tryz.prog W
   = .ok (.agg #[.pointer (some ⟨6,112,none⟩),.pointer (some p),.int .u64 406]) W:=by
 change (Bind.bind (ReflectliteValue.parts (.agg #[.pointer (some ⟨6,121,none⟩),.pointer (some a),.int .u64 150])) (fun x=>_):Sem Value).run _ _=_;simp only[KV,Tryz.partsPP,Result.andThen];simp[ReflectliteValue.elem,loadVar,isAgg,underlying,Tryz.underlying121,ha,Result.andThen,Tryz.elemOfPP,Tryz.mkP]
theorem Tryz.partsPa(a:Addr)(w:World):(ReflectliteValue.parts (.agg #[.pointer (some ⟨6,112,none⟩),.pointer (some a),.int .u64 406])).run Tryz.prog w=.ok (some (112,a,406)) w:=by kernel_rfl
theorem Tryz.partsP(a:Addr)(w:World):(ReflectliteValue.parts (.agg #[.pointer (some ⟨6,112,none⟩),.pointer (some a),.int .u64 150])).run Tryz.prog w=.ok (some (112,a,150)) w:=by kernel_rfl
theorem Tryz.directP(w:World):(Rtype.directlyAssignable 112 112).run Tryz.prog w=.ok true w:=by kernel_rfl
theorem Tryz.setP(ta b e:Addr)(old:Value)(W:World)(hb:W.cell? b=some (.pointer (some e)))(ht:W.cell? ta=some old)(hf:W.frozen? ta=false) :
  (ReflectliteValue.set #[.agg #[.pointer (some ⟨6,112,none⟩),.pointer (some ta),.int .u64 406],.agg #[.pointer (some ⟨6,112,none⟩),.pointer (some b),.int .u64 150]]).run Tryz.prog W
   = .ok (.tuple #[]) (W.setCell ta (.pointer (some e))):=by
 change (Bind.bind (ReflectliteValue.parts (.agg #[.pointer (some ⟨6,112,none⟩),.pointer (some ta),.int .u64 406])) (fun x=>Bind.bind (ReflectliteValue.parts (.agg #[.pointer (some ⟨6,112,none⟩),.pointer (some b),.int .u64 150])) (fun y=>_)):Sem Value).run _ _=_;simp only[KV,Tryz.partsPa,Tryz.partsP,Result.andThen];simp[ReflectliteValue.flagAddr,loadVar,isAgg,underlying,Tryz.underlying112,hb,Result.andThen,Tryz.directP,storeVar,Value.cells,storeCells,Addr.add];rw[run_store Tryz.prog W ta _ _ (by rfl)];simp[ht,hf]
def Kn(t e:Addr)(w:World):World:=(((w.alloc (.cells #[.pointer (some t)] 121)).alloc (.cells #[.pointer (some ⟨6,121,none⟩),.pointer (some ⟨w.heap.size,0,none⟩),.int .u64 150] 188)).alloc (.cells #[.pointer (some ⟨6,121,none⟩),.pointer (some ⟨w.heap.size,0,none⟩),.int .u64 150] 188)).alloc (.cells #[.pointer (some e)] 112)
theorem Q29(e t:Addr)(old:Value)(w:World)(hg:w.cell? ⟨1,0,none⟩=some (.iface 241 (.agg #[.pointer (some ⟨6,79,none⟩)])))(nA:w.cell? t=some old)(hf0:w.frozen? t=false) :
  Calls Tryz.prog 65 #[.iface 112 (.pointer (some e)),.iface 121 (.pointer (some t))] w fun ev w'=>ev=.returned (.bool true)/\w'=(Kn t e w).setCell t (.pointer (some e)):=by
 unfold Kn;have h6:=@CS Tryz.prog 93 _ (fun args=>ReflectliteValue.unpack (args.getD 0 (.tuple #[]))) Tryz.func93 (by kernel_rfl) (by kernel_rfl) (by kernel_rfl) (by kernel_rfl);have h7:=@CS Tryz.prog 94 _ (ReflectliteValue.methodAny (ReflectliteValue.valueError "reflectlite.Value.Type" 0) (fun t _ _ _=>ReflectliteType.toType t)) Tryz.func94 (by kernel_rfl) (by kernel_rfl) (by kernel_rfl) (by kernel_rfl);have h8:=@CS Tryz.prog 95 _ (ReflectliteValue.method (ReflectliteValue.valueError "reflectlite.Value.IsNil" 0) ReflectliteValue.isNil) Tryz.func95 (by kernel_rfl) (by kernel_rfl) (by kernel_rfl) (by kernel_rfl);have h27:=@CS Tryz.prog 232 _ (ReflectliteType.abiMethod fun t=>do pure (.int .u8 (←Rtype.kind t))) Tryz.func232 (by kernel_rfl) (by kernel_rfl) (by kernel_rfl) (by kernel_rfl);have h37:=@CS Tryz.prog 266 _ (ReflectliteType.method ReflectliteType.elem) Tryz.func266 (by kernel_rfl) (by kernel_rfl) (by kernel_rfl) (by kernel_rfl);have h38:=@CS Tryz.prog 267 _ (ReflectliteType.relation "Implements" ReflectliteType.implements_) Tryz.func267 (by kernel_rfl) (by kernel_rfl) (by kernel_rfl) (by kernel_rfl);have h10:=@CS Tryz.prog 91 _ ReflectliteType.typeOf Tryz.func91 (by kernel_rfl) (by kernel_rfl) (by kernel_rfl) (by kernel_rfl);have h35:=@CS Tryz.prog 264 _ (ReflectliteType.relation "AssignableTo" ReflectliteType.assignableTo) Tryz.func264 (by kernel_rfl) (by kernel_rfl) (by kernel_rfl) (by kernel_rfl);have h11:=@CS Tryz.prog 128 _ (ReflectliteValue.method (ReflectliteValue.valueError "reflectlite.Value.Elem" 0) ReflectliteValue.elem) Tryz.func128 (by kernel_rfl) (by kernel_rfl) (by kernel_rfl) (by kernel_rfl);have h12:=@CS Tryz.prog 129 _ ReflectliteValue.set Tryz.func129 (by kernel_rfl) (by kernel_rfl) (by kernel_rfl) (by kernel_rfl);have tO:=Tryz.typeOfP;have mA:=Tryz.methodAssignableTo;have a25:=Tryz.assignableP;have v25:=Tryz.valueOfP;have f6:=Tryz.valueOfPP;have f7:=Tryz.typePP;have mK:=Tryz.methodKind;have mE:=Tryz.methodElem;have mI:=Tryz.methodImplements;have k27:=Tryz.kindPP;have k25:=Tryz.kindP;have e27:=Tryz.elemPP;have i25:=Tryz.implementsP;have n8:=Tryz.isNilPP ⟨w.heap.size,0,none⟩ t ((w.alloc (.cells #[.pointer (some t)] 121)).alloc (.cells #[.pointer (some ⟨6,121,none⟩),.pointer (some ⟨w.heap.size,0,none⟩),.int .u64 150] 188)) (by simp);have hlt:1<w.heap.size:=CD w _ hg
 have hg2:((w.alloc (.cells #[.pointer (some t)] 121)).alloc (.cells #[.pointer (some ⟨6,121,none⟩),.pointer (some ⟨w.heap.size,0,none⟩),.int .u64 150] 188)).cell? ⟨1,0,none⟩=some (.iface 241 (.agg #[.pointer (some ⟨6,79,none⟩)])):=by
  rw[Ii _ _ _ _ (by simp;omega),Ii _ _ _ _ hlt];exact hg
 have yV:t.block<w.heap.size:=CD w _ nA;have el:=Tryz.elemVPP ⟨w.heap.size,0,none⟩ t (((w.alloc (.cells #[.pointer (some t)] 121)).alloc (.cells #[.pointer (some ⟨6,121,none⟩),.pointer (some ⟨w.heap.size,0,none⟩),.int .u64 150] 188)).alloc (.cells #[.pointer (some ⟨6,121,none⟩),.pointer (some ⟨w.heap.size,0,none⟩),.int .u64 150] 188)) (by rw[FU _ _ ⟨w.heap.size,0,none⟩ (by simp;omega)];simp)
 have st:=Tryz.setP t ⟨w.heap.size+1+1+1,0,none⟩ e old ((((w.alloc (.cells #[.pointer (some t)] 121)).alloc (.cells #[.pointer (some ⟨6,121,none⟩),.pointer (some ⟨w.heap.size,0,none⟩),.int .u64 150] 188)).alloc (.cells #[.pointer (some ⟨6,121,none⟩),.pointer (some ⟨w.heap.size,0,none⟩),.int .u64 150] 188)).alloc (.cells #[.pointer (some e)] 112))
  (by rw[World.cell?_alloc_at _ _ _ _ (by simp)];rfl)
  (by rw[FU _ _ t (by simp;omega),FU _ _ t (by simp;omega),FU _ _ t (by simp;omega),FU _ _ t yV];exact nA)
  (by rw[GN _ _ t (by simp;omega),GN _ _ t (by simp;omega),GN _ _ t (by simp;omega),GN _ _ t (Nat.ne_of_lt yV)];exact hf0)
 go_enter Tryz.func65,Tryz.ntmps65;go_wp2;refine wp_loop_rounds 1 ?_;rw[rounds_succ];go_wp2;go_ret;exact⟨rfl,rfl⟩
end Go.Proofs.YtolhbeekfjnfmaaGreatDoor
namespace Go.Proofs.YtolhbeekfjnfmaaGreatDoor
open Go.RowKit
variable {w w':World}
structure LD(aT aL:Addr)(w:World):Prop where
 cT:w.cell? ⟨2,0,none⟩=some (.iface 345 (.pointer (some aT)))
 cL:w.cell? ⟨0,0,none⟩=some (.iface 345 (.pointer (some aL)))
 ne:aT≠aL
 bT:∃ca ta,w.heap[aT.block]?=some (.cells ca ta (0,0))
 bL:∃ca ta,w.heap[aL.block]?=some (.cells ca ta (0,0))
 cE:w.cell? ⟨1,0,none⟩=some (.iface 241 (.agg #[.pointer (some ⟨6,79,none⟩)]))
 tab:Lib.TabIs Tryz.prog w "internal/strconv.uint64pow10" .u64 Lib.pow10Tab
theorem Fp(h:w.grownBy w' none):Below w.heap.size w w':=⟨h.os,h.tape,h.output,h.size,fun k hk=>h.block k hk (by simp)⟩
theorem Tryz.powIs:Tryz.prog.globalNamed "internal/strconv.uint64pow10"=some 3:=by kernel_rfl
theorem Ad{b:Nat}{o:Obj}(h:w.heap[b]?=some o):b<w.heap.size:=(CU.1 h).1
theorem LD.kept{aT aL:Addr}(h:LD aT aL w)(g:w.grownBy w' none)(hz:3<w.heap.size):LD aT aL w':=by
 refine⟨g.cell h.cT (by simp),g.cell h.cL (by simp),h.ne,?_,?_,g.cell h.cE (by simp),?_⟩
 ·obtain⟨ca,ta,h1⟩:=h.bT;exact⟨ca,ta,by rw[g.block _ (Ad h1) (by simp)];exact h1⟩
 ·obtain⟨ca,ta,h1⟩:=h.bL;exact⟨ca,ta,by rw[g.block _ (Ad h1) (by simp)];exact h1⟩
 ·exact var?_below (Fp g) Tryz.powIs hz h.tab
theorem Q4n(t e:Addr)(w:World):w.grownBy (Kn t e w) none:=
 Ab (Ab (Ab (AA w _ none) (AA _ _ none)) (AA _ _ none)) (AA _ _ none)
theorem Hy(g i:Nat)(aT aL:Addr)(w:World)(hL:LD aT aL w)(hF:FAt g i (.iface 345 (.pointer (some aL))) w) :
  Calls Tryz.prog 36 #[.iface 112 (.pointer (some ⟨g,0,none⟩))] w fun e w'=>e=.returned (.tuple #[.int .i64 0,.int .i64 2])/\w'=w:=by
 have cL:=hL.cL;go_enter Tryz.func36,Tryz.ntmps36
 go_wp2_with (go_at_call 64;refine(Q13 g aL w hF.c1).mono ?_;rintro e w1⟨rfl,rfl⟩)
 go_ret2
 exact⟨rfl,rfl⟩
theorem I7(g i:Nat)(aT aL:Addr)(w:World)(hL:LD aT aL w)(hF:FAt g i (.iface 345 (.pointer (some aT))) w) :
  Calls Tryz.prog 36 #[.iface 112 (.pointer (some ⟨g,0,none⟩))] w fun e w'=>e=.returned (.tuple #[.int .i64 i,.int .i64 1])/\w.grownBy w' none:=by
 have cL:=hL.cL;obtain⟨ca,ta,hA⟩:=hL.bT;obtain⟨cb,tb,hB⟩:=hL.bL;have hlt:=CD w _ hL.cE;have hE:(w.alloc (.cells #[.pointer none] 112)).cell? ⟨1,0,none⟩=some (.iface 241 (.agg #[.pointer (some ⟨6,79,none⟩)])):=(Ii w _ _ _ hlt).trans hL.cE;go_enter Tryz.func36,Tryz.ntmps36
 go_wp2_with (go_at_call 64;refine(Zn g aL aT ca cb ta tb w hF.c1 hL.ne hA hB).mono ?_;rintro e w1⟨rfl,rfl⟩)
 refine(Q29 ⟨g,0,none⟩ ⟨w1.heap.size,0,none⟩ (.pointer none) (w1.alloc (.cells #[.pointer none] 112)) hE (by simp) (by simp)).mono ?_;rintro e w2⟨rfl,hw2⟩;have hg1:=Q4n ⟨w1.heap.size,0,none⟩ ⟨g,0,none⟩ (w1.alloc (.cells #[.pointer none] 112));have hg2:=Bi (Ab (AA w1 (.cells #[.pointer none] 112) none) hg1) (Aj (Kn ⟨w1.heap.size,0,none⟩ ⟨g,0,none⟩ (w1.alloc (.cells #[.pointer none] 112))) w1.heap.size 0 (.pointer (some ⟨g,0,none⟩))) (AW _)
 have hc:((Kn ⟨w1.heap.size,0,none⟩ ⟨g,0,none⟩ (w1.alloc (.cells #[.pointer none] 112))).setCell ⟨w1.heap.size,0,none⟩ (.pointer (some ⟨g,0,none⟩))).cell? ⟨w1.heap.size,0,none⟩=some (.pointer (some ⟨g,0,none⟩)):=by
  have h1:(w1.alloc (.cells #[.pointer none] 112)).heap[w1.heap.size]?=some (.cells #[.pointer none] 112 (0,0)):=AR _ _;have h2:=hg1.block w1.heap.size (by simp) (by simp);rw[h1] at h2;have h3:=BB _ w1.heap.size 0 _ _ (.pointer (some ⟨g,0,none⟩)) h2;simp[World.cell?,h3]
 rw[<-hw2] at hg2 hc;have hF2:=(hF.kept hg2 (by simp)).c0;clear hw2 hg1 hE;go_wp2
 go_ret2
 exact⟨rfl,hg2⟩
end Go.Proofs.YtolhbeekfjnfmaaGreatDoor
