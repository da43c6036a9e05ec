import Derived.Test.YtjbekgjdempbiaaGreatDoorJSq
import Derived.Test.YtjbekgjdempbiaaGreatDoorProg
import Derived.Test.YtjbekgjdempbiaaGreatDoorJBox
import Derived.WalkKit
import Derived.LaidEql
import Derived.Stop.Asserts
import Derived.RowKitTokens
import Derived.Test.YtjbekgjdempbiaaGreatDoorJLInfo
import Derived.Test.YtjbekgjdempbiaaGreatDoorJRounds
import Derived.Test.YtjbekgjdempbiaaGreatDoorJRecC
import Derived.Laws.OwnMore
import Derived.BigQuiet
import Derived.BigRegion
import Derived.WalkMore
import Derived.Deep.RegionHeld3
set_option maxRecDepth 100000
set_option maxHeartbeats 8000000
namespace Go.Proofs
open Go.RowKit Go.Extern.Stop Go.Stop Go.Extern
theorem Tryz.Xqp (t:Addr) (w:World):(ReflectliteValue.unpack (.iface 139 (.pointer (some t)))).run prog w
  = .ok (.agg #[.pointer (some ⟨9,139,none⟩),.pointer (some ⟨w.heap.size,0,none⟩),.int .u64 150]) (w.alloc (.cells #[.pointer (some t)] 139)):=by kernel_rfl
theorem Tryz.Xuc (a:Addr) (w:World):(ReflectliteValue.methodAny (ReflectliteValue.valueError "reflectlite.Value.Type" 0) (fun t _ _ _=>ReflectliteType.toType t) #[.agg #[.pointer (some ⟨9,139,none⟩),.pointer (some a),.int .u64 150]]).run prog w
  = .ok (.iface 243 (.agg #[.pointer (some ⟨9,139,none⟩)])) w:=by kernel_rfl
theorem Tryz.Xvw (h:Value) (w:World):(Go.method 517 243 (.agg #[h]) "Kind").run prog w=.ok (301,h) w:=by kernel_rfl
theorem Tryz.Xsr (w:World):((ReflectliteType.abiMethod fun t=>Functor.map (fun a:Nat=>Value.int IntKind.u8 (a:Int)) (Rtype.kind t)) #[.pointer (some ⟨9,139,none⟩)]).run prog w=.ok (.int .u8 22) w:=by kernel_rfl
theorem Tryz.Xs4 (w:World):((ReflectliteType.abiMethod fun t=>Functor.map (fun a:Nat=>Value.int IntKind.u8 (a:Int)) (Rtype.kind t)) #[.pointer (some ⟨9,33,none⟩)]).run prog w=.ok (.int .u8 2) w:=by kernel_rfl
theorem Tryz.Xqt (a:Addr) (W:World) :
  (ReflectliteValue.method (ReflectliteValue.valueError "reflectlite.Value.IsNil" 0) ReflectliteValue.isNil #[.agg #[.pointer (some ⟨9,139,none⟩),.pointer (some a),.int .u64 150]]).run prog W=(ReflectliteValue.isNil 139 a 150 22).run prog W:=by kernel_rfl
theorem Tryz.Xsx (a p:Addr) (W:World) (ha:W.cell? a=some (.pointer (some p))) :
  (ReflectliteValue.method (ReflectliteValue.valueError "reflectlite.Value.IsNil" 0) ReflectliteValue.isNil #[.agg #[.pointer (some ⟨9,139,none⟩),.pointer (some a),.int .u64 150]]).run prog W=.ok (.bool false) W:=by
 rw [Xqt];simp [ReflectliteValue.isNil,loadVar,isAgg,underlying,underlying139,ha,Result.andThen]
theorem Tryz.Xsn (h:Value) (w:World):(Go.method 517 243 (.agg #[h]) "Elem").run prog w=.ok (344,.agg #[h]) w:=by kernel_rfl
theorem Tryz.Xs2 (h:Value) (w:World):(Go.method 517 243 (.agg #[h]) "Implements").run prog w=.ok (345,.agg #[h]) w:=by kernel_rfl
theorem Tryz.Xod (h:Value) (w:World):(Go.method 517 243 (.agg #[h]) "AssignableTo").run prog w=.ok (342,.agg #[h]) w:=by kernel_rfl
theorem Tryz.Xnx (h:Value) (w:World):(Go.method 517 243 (.agg #[h]) "Comparable").run prog w=.ok (343,.agg #[h]) w:=by kernel_rfl
theorem Tryz.Xt9 (w:World):(ReflectliteType.method ReflectliteType.elem #[.agg #[.pointer (some ⟨9,139,none⟩)]]).run prog w=.ok (.iface 243 (.agg #[.pointer (some ⟨9,33,none⟩)])) w:=by kernel_rfl
theorem Tryz.Xu9 (w:World):(ReflectliteType.relation "Implements" ReflectliteType.implements_ #[.agg #[.pointer (some ⟨9,33,none⟩)],.iface 243 (.agg #[.pointer (some ⟨9,81,none⟩)])]).run prog w=.ok (.bool true) w:=by kernel_rfl
theorem Tryz.Xka (v:Value) (w:World):(ReflectliteType.typeOf #[.iface 33 v]).run prog w=.ok (.iface 243 (.agg #[.pointer (some ⟨9,33,none⟩)])) w:=by kernel_rfl
theorem Tryz.Xrm (w:World):(ReflectliteType.relation "AssignableTo" ReflectliteType.assignableTo #[.agg #[.pointer (some ⟨9,33,none⟩)],.iface 243 (.agg #[.pointer (some ⟨9,33,none⟩)])]).run prog w=.ok (.bool true) w:=by kernel_rfl
theorem Tryz.Xq2 (k:Int) (w:World):(ReflectliteValue.unpack (.iface 33 (.int .i64 k))).run prog w
  = .ok (.agg #[.pointer (some ⟨9,33,none⟩),.pointer (some ⟨w.heap.size,0,none⟩),.int .u64 130]) (w.alloc (.cells #[.int .i64 k] 33)):=by kernel_rfl
theorem Tryz.Xqw (w:World):(Rtype.elem? 139).run prog w=.ok (some 33) w:=by kernel_rfl
theorem Tryz.rfMk (p:Addr) (w:World):(ReflectliteValue.mk 33 p ReflectliteValue.flagAddr).run prog w=.ok (.agg #[.pointer (some ⟨9,33,none⟩),.pointer (some p),.int .u64 386]) w:=by kernel_rfl
theorem Tryz.Xr0 (a:Addr) (W:World) :
  (ReflectliteValue.method (ReflectliteValue.valueError "reflectlite.Value.Elem" 0) ReflectliteValue.elem #[.agg #[.pointer (some ⟨9,139,none⟩),.pointer (some a),.int .u64 150]]).run prog W=(ReflectliteValue.elem 139 a 150 22).run prog W:=by kernel_rfl
theorem Tryz.Xso (a p:Addr) (W:World) (ha:W.cell? a=some (.pointer (some p))) :
  (ReflectliteValue.method (ReflectliteValue.valueError "reflectlite.Value.Elem" 0) ReflectliteValue.elem #[.agg #[.pointer (some ⟨9,139,none⟩),.pointer (some a),.int .u64 150]]).run prog W
   = .ok (.agg #[.pointer (some ⟨9,33,none⟩),.pointer (some p),.int .u64 386]) W:=by
 rw [Xr0];simp [ReflectliteValue.elem,loadVar,isAgg,underlying,underlying139,ha,Result.andThen,Xqw,rfMk]
theorem Tryz.Xvi (ta b:Addr) (W:World) :
  (ReflectliteValue.set #[.agg #[.pointer (some ⟨9,33,none⟩),.pointer (some ta),.int .u64 386],.agg #[.pointer (some ⟨9,33,none⟩),.pointer (some b),.int .u64 130]]).run prog W
   = (loadVar 33 b >>= fun v=>storeVar 33 ta v >>= fun _=>pure (.tuple #[])).run prog W:=by kernel_rfl
theorem Tryz.rfSet (ta b:Addr) (k:Int) (old:Value) (W:World) (hb:W.cell? b=some (.int .i64 k)) (ht:W.cell? ta=some old) (hf:W.frozen? ta=false) :
  (ReflectliteValue.set #[.agg #[.pointer (some ⟨9,33,none⟩),.pointer (some ta),.int .u64 386],.agg #[.pointer (some ⟨9,33,none⟩),.pointer (some b),.int .u64 130]]).run prog W
   = .ok (.tuple #[]) (W.setCell ta (.int .i64 k)):=by
 rw [Xvi];simp [loadVar,isAgg,underlying,underlying33,hb,Result.andThen,storeVar,Value.cells,storeCells,Addr.add];rw [run_store prog W ta _ _ (by rfl)];simp [ht,hf]
def Ml (k:Int):Prop:=k=1\/k=2\/k=3\/k=4\/k=5\/k=6\/k=7\/k=8
theorem Tryz.rfEql (k:Int) (hk:Ml k) (w:World):(binOp .eql 81 (.iface 33 (.int .i64 k)) (.iface 33 (.int .i64 k))).run prog w=.ok (.bool true) w:=by
 rcases hk with rfl | rfl | rfl | rfl | rfl | rfl | rfl | rfl <;> kernel_rfl
theorem Tryz.asHit (k:Int) (t:Addr) (old:Value) (w:World) (hg:w.cell? ⟨0,0,none⟩=some (.iface 243 (.agg #[.pointer (some ⟨9,81,none⟩)]))) (ht0:w.cell? t=some old) (hf0:w.frozen? t=false) :
  Calls prog 69 #[.iface 33 (.int .i64 k),.iface 139 (.pointer (some t))] w fun ev w'=>ev=.returned (.bool true)/\w'=((((w.alloc (.cells #[.pointer (some t)] 139)).alloc (.cells #[.pointer (some ⟨9,139,none⟩),.pointer (some ⟨w.heap.size,0,none⟩),.int .u64 150] 200)).alloc (.cells #[.pointer (some ⟨9,139,none⟩),.pointer (some ⟨w.heap.size,0,none⟩),.int .u64 150] 200)).alloc (.cells #[.int .i64 k] 33)).setCell t (.int .i64 k):=by
 have h6:=@run_callFunc_extern prog 123 _ (fun args=>ReflectliteValue.unpack (args.getD 0 (.tuple #[]))) func123 (by kernel_rfl) (by kernel_rfl) (by kernel_rfl) (by kernel_rfl);have h7:=@run_callFunc_extern prog 124 _ (ReflectliteValue.methodAny (ReflectliteValue.valueError "reflectlite.Value.Type" 0) (fun t _ _ _=>ReflectliteType.toType t)) func124 (by kernel_rfl) (by kernel_rfl) (by kernel_rfl) (by kernel_rfl);have h8:=@run_callFunc_extern prog 125 _ (ReflectliteValue.method (ReflectliteValue.valueError "reflectlite.Value.IsNil" 0) ReflectliteValue.isNil) func125 (by kernel_rfl) (by kernel_rfl) (by kernel_rfl) (by kernel_rfl);have h27:=@run_callFunc_extern prog 301 _ (ReflectliteType.abiMethod fun t=>do pure (.int .u8 (<- Rtype.kind t))) func301 (by kernel_rfl) (by kernel_rfl) (by kernel_rfl) (by kernel_rfl);have h37:=@run_callFunc_extern prog 344 _ (ReflectliteType.method ReflectliteType.elem) func344 (by kernel_rfl) (by kernel_rfl) (by kernel_rfl) (by kernel_rfl);have h38:=@run_callFunc_extern prog 345 _ (ReflectliteType.relation "Implements" ReflectliteType.implements_) func345 (by kernel_rfl) (by kernel_rfl) (by kernel_rfl) (by kernel_rfl);have h10:=@run_callFunc_extern prog 127 _ ReflectliteType.typeOf func127 (by kernel_rfl) (by kernel_rfl) (by kernel_rfl) (by kernel_rfl);have h35:=@run_callFunc_extern prog 342 _ (ReflectliteType.relation "AssignableTo" ReflectliteType.assignableTo) func342 (by kernel_rfl) (by kernel_rfl) (by kernel_rfl) (by kernel_rfl);have h11:=@run_callFunc_extern prog 165 _ (ReflectliteValue.method (ReflectliteValue.valueError "reflectlite.Value.Elem" 0) ReflectliteValue.elem) func165 (by kernel_rfl) (by kernel_rfl) (by kernel_rfl) (by kernel_rfl);have h12:=@run_callFunc_extern prog 166 _ ReflectliteValue.set func166 (by kernel_rfl) (by kernel_rfl) (by kernel_rfl) (by kernel_rfl);have tO:=Xka;have mA:=Xod;have a25:=Xrm;have v25:=Xq2;have f6:=Xqp;have f7:=Xuc;have mK:=Xvw;have mE:=Xsn;have mI:=Xs2;have k27:=Xsr;have k25:=Xs4;have e27:=Xt9;have i25:=Xu9;have n8:=Xsx ⟨w.heap.size,0,none⟩ t ((w.alloc (.cells #[.pointer (some t)] 139)).alloc (.cells #[.pointer (some ⟨9,139,none⟩),.pointer (some ⟨w.heap.size,0,none⟩),.int .u64 150] 200)) (by simp);have hlt:0<w.heap.size:=World.block_lt_of_cell? _ _ hg
 have hg2:((w.alloc (.cells #[.pointer (some t)] 139)).alloc (.cells #[.pointer (some ⟨9,139,none⟩),.pointer (some ⟨w.heap.size,0,none⟩),.int .u64 150] 200)).cell? ⟨0,0,none⟩=some (.iface 243 (.agg #[.pointer (some ⟨9,81,none⟩)])):=by
  rw [World.cell?_alloc_lt _ _ ⟨0,0,none⟩ (by simp),World.cell?_alloc_lt _ _ ⟨0,0,none⟩ hlt];exact hg
 have htl:t.block<w.heap.size:=World.block_lt_of_cell? _ _ ht0;have el:=Xso ⟨w.heap.size,0,none⟩ t (((w.alloc (.cells #[.pointer (some t)] 139)).alloc (.cells #[.pointer (some ⟨9,139,none⟩),.pointer (some ⟨w.heap.size,0,none⟩),.int .u64 150] 200)).alloc (.cells #[.pointer (some ⟨9,139,none⟩),.pointer (some ⟨w.heap.size,0,none⟩),.int .u64 150] 200)) (by rw [World.cell?_alloc_lt _ _ ⟨w.heap.size,0,none⟩ (by simp;omega)];simp)
 have st:=rfSet t ⟨w.heap.size+1+1+1,0,none⟩ k old ((((w.alloc (.cells #[.pointer (some t)] 139)).alloc (.cells #[.pointer (some ⟨9,139,none⟩),.pointer (some ⟨w.heap.size,0,none⟩),.int .u64 150] 200)).alloc (.cells #[.pointer (some ⟨9,139,none⟩),.pointer (some ⟨w.heap.size,0,none⟩),.int .u64 150] 200)).alloc (.cells #[.int .i64 k] 33))
  (by rw [World.cell?_alloc_at _ _ _ _ (by simp)];rfl)
  (by rw [World.cell?_alloc_lt _ _ t (by simp;omega),World.cell?_alloc_lt _ _ t (by simp;omega),World.cell?_alloc_lt _ _ t (by simp;omega),World.cell?_alloc_lt _ _ t htl];exact ht0)
  (by rw [World.frozen?_alloc_old _ _ t (by simp;omega),World.frozen?_alloc_old _ _ t (by simp;omega),World.frozen?_alloc_old _ _ t (by simp;omega),World.frozen?_alloc_old _ _ t (Nat.ne_of_lt htl)];exact hf0)
 go_enter func69,ntmps69;go_wp2;refine wp_loop_rounds 1 ?_;rw [rounds_succ];go_wp2;go_ret;exact⟨rfl,rfl⟩
theorem Tryz.Xqq (k:Int) (hk:Ml k) (w:World) :
  Calls prog 70 #[.iface 33 (.int .i64 k),.iface 33 (.int .i64 k)] w fun e w'=>e=.returned (.bool true)/\w'=w:=by
 have h10:=@run_callFunc_extern prog 127 _ ReflectliteType.typeOf func127 (by kernel_rfl) (by kernel_rfl) (by kernel_rfl) (by kernel_rfl);have h32:=@run_callFunc_extern prog 343 _ (ReflectliteType.method fun t=>do Rtype.noPackHeld "Comparable" t;pure (.bool (<- typeInfo t).comparable)) func343 (by kernel_rfl) (by kernel_rfl) (by kernel_rfl) (by kernel_rfl);have tT:=Xka
 have cT:∀ W,((ReflectliteType.method fun t=>do Rtype.noPackHeld "Comparable" t;Functor.map (fun a=>Value.bool a.comparable) (typeInfo t)) #[.agg #[.pointer (some ⟨9,33,none⟩)]]).run prog W=.ok (.bool true) W:=fun W=>by kernel_rfl
 have mR:=Xnx;have heq:=rfEql k hk;clear hk;go_enter func70,ntmps70;go_wp2;refine wp_loop_rounds 1 ?_;rw [rounds_succ];go_wp2;go_ret;exact⟨rfl,rfl⟩
theorem Tryz.Xbw (w:World):Calls prog 43 #[.nilIface] w fun e w'=>e=.returned (.int .i64 0)/\Below w.heap.size w w':=by
 go_enter func43,ntmps43;go_wp2;go_ret;exact⟨rfl,(Below.refl _ _).alloc (Nat.le_refl _) _⟩
theorem Tryz.told (k:Int) (hk:Ml k) (w:World) (hg:w.cell? ⟨0,0,none⟩=some (.iface 243 (.agg #[.pointer (some ⟨9,81,none⟩)]))) :
  Calls prog 43 #[.iface 33 (.int .i64 k)] w fun e w'=>e=.returned (.int .i64 k)/\Below w.heap.size w w':=by
 have b0:=BoxN.new w 33 #[.int .i64 0];have hlt:0<w.heap.size:=World.block_lt_of_cell? _ _ hg
 have hg1:(w.alloc (.cells #[.int .i64 0] 33)).cell? ⟨0,0,none⟩=some (.iface 243 (.agg #[.pointer (some ⟨9,81,none⟩)])):=by
  rw [World.cell?_alloc_lt _ _ ⟨0,0,none⟩ hlt];exact hg
 have hA:=asHit k ⟨w.heap.size,0,none⟩ (.int .i64 0) _ hg1 (b0.cell 0 rfl) (b0.frozen 0)
 have hI:=fun W=>Xqq k hk W
 clear hk hg;go_enter func43,ntmps43
 go_wp2_with (first
  | (go_at_call 69;refine hA.mono ?_;rintro e w1 ⟨rfl,rfl⟩)
  | (go_at_call 70;refine(hI _).mono ?_;rintro e w2 ⟨rfl,rfl⟩))
 go_ret;exact⟨rfl,(((((Below.refl _ w).alloc (Nat.le_refl _) _).alloc (by simp) _).alloc (by simp;omega) _).alloc (by simp;omega) _).alloc (by simp;omega) _⟩
end Go.Proofs
namespace Go.Proofs
open Go.RowKit Go.Sort Go.Lib Go.Shelf
def Tryz.Ja (W:World):Prop:=W.cell? ⟨0,0,none⟩=some (.iface 243 (.agg #[.pointer (some ⟨9,81,none⟩)]))/\∃ m,W.cell? ⟨6,0,none⟩=some (.int .i64 m)
theorem Tryz.Ja.below {W W':World} (h:Ja W) (hb:Below 9 W W'):Ja W':=by
 obtain⟨h1,m,h2⟩:=h;exact⟨(hb.cell (p:=⟨0,0,none⟩) (by show 0<9;decide)).trans h1,m,(hb.cell (p:=⟨6,0,none⟩) (by show 6<9;decide)).trans h2⟩
end Go.Proofs
namespace Go.Proofs
open Go.RowKit Go.Sort
structure Xe where
 at_:Int
 k:Int
 n:Int
def Xe.cells (t:Xe):Array Value:=#[.int .u64 t.at_,.int .i64 t.k,.int .u64 t.n]
def cmpT (x y:Xe):Int:=orI (cmpI x.at_ y.at_) (orI (cmpI y.k x.k) (cmpI x.n y.n))
theorem Tryz.Xu3 (a b c:Int) (blk:Nat) (w:World) (h0:w.cell? ⟨blk,0,none⟩=some (.int .i64 a)) (h1:w.cell? ⟨blk,1,none⟩=some (.int .i64 b)) (h2:w.cell? ⟨blk,2,none⟩=some (.int .i64 c)) :
  Calls prog 333 #[.slice (some ⟨blk,0,none⟩) 3 3] w fun e w'=>e=.returned (.int .i64 (orI a (orI b c)))/\w'=w:=by
 obtain⟨r,hr⟩:∃ r,orI a (orI b c)=r:=⟨_,rfl⟩
 rw [hr]
 by_cases ha:a=0
 ·have ha':(a != 0)=false:=by simp [ha]
  by_cases hb:b=0
  ·have hb':(b != 0)=false:=by simp [hb]
   by_cases hc:c=0
   focus
    have hc':(c != 0)=false:=by simp [hc]
    have hfin:Hid (r=0):=Xb (by rw [<- hr];simp [orI,ha,hb,hc]);clear ha hb hc hr;go_enter func333,ntmps333;go_wp2;refine wp_loop_rounds 4 ?_;rw [rounds_succ];go_wp2
   rotate_left
   focus
    have hc':(c != 0)=true:=by simp [hc]
    have hfin:Hid (r=c):=Xb (by rw [<- hr];simp [orI,ha,hb]);clear ha hb hc hr;go_enter func333,ntmps333;go_wp2;refine wp_loop_rounds 4 ?_
   rotate_left
   all_goals
    rw [rounds_succ];go_wp2;rw [rounds_succ];go_wp2;rw [rounds_succ];go_wp2;go_ret;exact⟨Yy (Xa hfin).symm,rfl⟩
  have hb':(b != 0)=true:=by simp [hb]
  have hfin:Hid (r=b):=Xb (by rw [<- hr];simp [orI,ha,hb]);clear ha hb hr;go_enter func333,ntmps333;go_wp2;refine wp_loop_rounds 4 ?_;rw [rounds_succ];go_wp2;rw [rounds_succ];go_wp2;go_ret;exact⟨Yy (Xa hfin).symm,rfl⟩
 have ha':(a != 0)=true:=by simp [ha]
 have hfin:Hid (r=a):=Xb (by rw [<- hr];simp [orI,ha]);clear ha hr;go_enter func333,ntmps333;go_wp2;refine wp_loop_rounds 4 ?_;rw [rounds_succ];go_wp2;go_ret;exact⟨Yy (Xa hfin).symm,rfl⟩
structure Tryz.Xrt (B:Nat) (x1 x2 x3 y1 y2 y3:Int) (W:World):Prop where
 a0:W.cell? ⟨B,0,none⟩=some (.int .u64 x1)
 a1:W.cell? ⟨B,1,none⟩=some (.int .i64 x2)
 a2:W.cell? ⟨B,2,none⟩=some (.int .u64 x3)
 b0:W.cell? ⟨B+1,0,none⟩=some (.int .u64 y1)
 b1:W.cell? ⟨B+1,1,none⟩=some (.int .i64 y2)
 b2:W.cell? ⟨B+1,2,none⟩=some (.int .u64 y3)
theorem Tryz.Xrt.alloc {B:Nat} {x1 x2 x3 y1 y2 y3:Int} {W:World} (h:Xrt B x1 x2 x3 y1 y2 y3 W) (o:Obj):Xrt B x1 x2 x3 y1 y2 y3 (W.alloc o):=
 ⟨(World.cell?_alloc_some _ _ _ (by rw [h.a0];rfl)).trans h.a0,(World.cell?_alloc_some _ _ _ (by rw [h.a1];rfl)).trans h.a1,(World.cell?_alloc_some _ _ _ (by rw [h.a2];rfl)).trans h.a2,
  (World.cell?_alloc_some _ _ _ (by rw [h.b0];rfl)).trans h.b0,(World.cell?_alloc_some _ _ _ (by rw [h.b1];rfl)).trans h.b1,(World.cell?_alloc_some _ _ _ (by rw [h.b2];rfl)).trans h.b2⟩
theorem Tryz.Xss (x y:Xe) (w:World):Calls prog 337 #[.agg x.cells,.agg y.cells] w fun e w'=>e=.returned (.int .i64 (cmpT x y))/\Xp w w':=by
 have hN:Hid (cmpT x y=orI (cmpI x.at_ y.at_) (orI (cmpI y.k x.k) (cmpI x.n y.n))):=Xb rfl
 have ha:=fun W=>Xlh x.at_ y.at_ W
 have hk:=fun W=>Xm4 y.k x.k W
 have hu:=fun W=>Xlh x.n y.n W
 generalize cmpI x.at_ y.at_=a at *;generalize cmpI y.k x.k=b at *;generalize cmpI x.n y.n=c at *;generalize cmpT x y=r at *;obtain⟨x1,x2,x3⟩:=x;obtain⟨y1,y2,y3⟩:=y;simp only [Xe.cells] at *;go_enter func337,ntmps337
 go_wp2_with fail
 have hP:Xrt w.heap.size x1 x2 x3 y1 y2 y3 ((w.alloc (.cells #[.int .u64 x1,.int .i64 x2,.int .u64 x3] 144)).alloc (.cells #[.int .u64 y1,.int .i64 y2,.int .u64 y3] 144)).drew:=by
  have b1:=(BoxN.new w 144 #[.int .u64 x1,.int .i64 x2,.int .u64 x3]).alloc (.cells #[.int .u64 y1,.int .i64 y2,.int .u64 y3] 144);have b2:=BoxN.new (w.alloc (.cells #[.int .u64 x1,.int .i64 x2,.int .u64 x3] 144)) 144 #[.int .u64 y1,.int .i64 y2,.int .u64 y3];rw [World.size_alloc] at b2;exact⟨b1.cell 0 rfl,b1.cell 1 rfl,b1.cell 2 rfl,b2.cell 0 rfl,b2.cell 1 rfl,b2.cell 2 rfl⟩
 refine wp_region_held_drew (S:=Xrt w.heap.size x1 x2 x3 y1 y2 y3) (by kernel_rfl) hP (fun hS0=>?_);refine Xt 0 ?v0 rfl ?y0 hS0 ?_
 case y0=>(rintro w ⟨q0,q1,q2,q3,q4,q5⟩;go_simp;try with_reducible rfl)
 refine Xt 1 ?v1 rfl ?y1 hS0 ?_
 case y1=>(rintro w ⟨q0,q1,q2,q3,q4,q5⟩;go_simp;try with_reducible rfl)
 refine Xt 2 ?v2 rfl ?y2 hS0 ?_
 case y2=>(rintro w ⟨q0,q1,q2,q3,q4,q5⟩;go_simp;try with_reducible rfl)
 refine Xt 3 ?v3 rfl ?y3 hS0 ?_
 case y3=>(rintro w ⟨q0,q1,q2,q3,q4,q5⟩;go_simp;try with_reducible rfl)
 refine Xt 5 ?v5 rfl ?y5 hS0 ?_
 case y5=>(rintro w ⟨q0,q1,q2,q3,q4,q5⟩;go_simp;try with_reducible rfl)
 refine Xt 6 ?v6 rfl ?y6 hS0 ?_
 case y6=>(rintro w ⟨q0,q1,q2,q3,q4,q5⟩;go_simp;try with_reducible rfl)
 refine Xt 7 ?v7 rfl ?y7 hS0 ?_
 case y7=>(rintro w ⟨q0,q1,q2,q3,q4,q5⟩;go_simp;try with_reducible rfl)
 refine Xt 8 ?v8 rfl ?y8 hS0 ?_
 case y8=>(rintro w ⟨q0,q1,q2,q3,q4,q5⟩;go_simp;try with_reducible rfl)
 refine Xt 9 ?v9 rfl ?y9 hS0 ?_
 case y9=>(rintro w ⟨q0,q1,q2,q3,q4,q5⟩;go_simp;try with_reducible rfl)
 refine Xt 10 ?v10 rfl ?y10 hS0 ?_
 case y10=>(rintro w ⟨q0,q1,q2,q3,q4,q5⟩;go_simp;try with_reducible rfl)
 refine Xt 12 ?v12 rfl ?y12 hS0 ?_
 case y12=>(rintro w ⟨q0,q1,q2,q3,q4,q5⟩;go_simp;try with_reducible rfl)
 refine Xt 13 ?v13 rfl ?y13 hS0 ?_
 case y13=>(rintro w ⟨q0,q1,q2,q3,q4,q5⟩;go_simp;try with_reducible rfl)
 refine Xt 14 ?v14 rfl ?y14 hS0 ?_
 case y14=>(rintro w ⟨q0,q1,q2,q3,q4,q5⟩;go_simp;try with_reducible rfl)
 refine Xt 15 ?v15 rfl ?y15 hS0 ?_
 case y15=>(rintro w ⟨q0,q1,q2,q3,q4,q5⟩;go_simp;try with_reducible rfl)
 refine Xt 16 ?v16 rfl ?y16 hS0 ?_
 case y16=>(rintro w ⟨q0,q1,q2,q3,q4,q5⟩;go_simp;try with_reducible rfl)
 refine Xt 17 ?v17 rfl ?y17 hS0 ?_
 case y17=>(rintro w ⟨q0,q1,q2,q3,q4,q5⟩;go_simp;try with_reducible rfl)
 refine Xh 4 rfl fun K hK=>?_;go_simp;refine(ha _).mono ?_;rintro e w5 ⟨rfl,rfl⟩;refine hK.out _ _ hS0 (fun _=>?_);clear hK K;refine Xh 11 rfl fun K hK=>?_;go_simp;refine(hk _).mono ?_;rintro e w5 ⟨rfl,rfl⟩;refine hK.out _ _ hS0 (fun _=>?_);clear hK K;refine Xh 18 rfl fun K hK=>?_;go_simp;refine(hu _).mono ?_;rintro e w5 ⟨rfl,rfl⟩;refine hK.out _ _ hS0 (fun _=>?_);clear hK K;refine Xh 19 rfl fun K hK=>?_;go_simp;refine hK.out _ _ (hS0.alloc _) (fun hS1=>?_);clear hK K;refine Xh 20 rfl fun K hK=>?_;go_simp;refine(Xu3 a b c _ _ ?_ ?_ ?_).mono ?_
 ·go_simp
 ·go_simp
 ·go_simp
 rintro e w5 ⟨rfl,rfl⟩;refine hK.out _ _ hS1 (fun _=>?_);clear hK K;refine Xh 21 rfl fun K hK=>?_;go_simp;refine hK.out _ _ hS1 (fun _=>?_);clear hK K;refine wpAnyH_done (by kernel_rfl) ?_ _;go_wp2;go_ret;exact⟨Yy (Xa hN).symm,((((Xp.refl w).alloc _).alloc _).drew.alloc _)⟩
theorem Tryz.Xit (x:Xe) (w:World):Sem.run prog (method 517 144 (.agg x.cells) "Compare") w=.ok (337,.agg x.cells) w:=by kernel_rfl
def ltT (x y:Xe):Prop:=x.at_<y.at_\/(x.at_=y.at_/\(y.k<x.k\/(x.k=y.k/\x.n<y.n)))
instance (x y:Xe):Decidable (ltT x y):=by unfold ltT;exact inferInstance
theorem Xfm {a b:Int}:cmpI a b<0↔a<b:=by
 unfold cmpI
 split <;> (try split) <;> omega
theorem Xg3 {a b:Int}:cmpI a b=0↔a=b:=by
 unfold cmpI
 split <;> (try split) <;> omega
theorem Xkf (x y:Xe):cmpT x y<0↔ltT x y:=by
 unfold cmpT ltT orI;have h1:=@Xfm x.at_ y.at_;have h2:=@Xg3 x.at_ y.at_;have h3:=@Xfm y.k x.k;have h4:=@Xg3 y.k x.k;have h5:=@Xfm x.n y.n
 split
 ·split
  ·omega
  omega
 omega
theorem Xm6 (x:Xe):¬ ltT x x:=by unfold ltT;omega
theorem Xgj {x y z:Xe} (h:ltT x y) (h':ltT y z):ltT x z:=by unfold ltT at *;omega
theorem Xo3 {x y:Xe} (h:ltT x y):¬ ltT y x:=by unfold ltT at *;omega
def leT (x y:Xe):Prop:=¬ ltT y x
theorem M4 (x:Xe):leT x x:=Xm6 x
theorem Xar {x y z:Xe} (h:leT x y) (h':leT y z):leT x z:=by unfold leT ltT at *;omega
theorem Jh {x y:Xe} (h:ltT x y):leT x y:=Xo3 h
abbrev par (i:Nat):Nat:=(i-1) / 2
def getT (xs:List Xe) (i:Nat):Xe:=xs.getD i ⟨0,0,0⟩
theorem Xab {xs:List Xe} {i:Nat} {t:Xe} (h:xs[i]? = some t):getT xs i=t:=by
 unfold getT;simp [List.getD,h]
theorem Jl {xs:List Xe} {i:Nat} (h:i<xs.length):xs[i]? = some (getT xs i):=by
 unfold getT;simp [List.getD,h]
def swapT (xs:List Xe) (i j:Nat):List Xe:=(xs.set i (getT xs j)).set j (getT xs i)
theorem Y3 (xs:List Xe) (i j:Nat):(swapT xs i j).length=xs.length:=by simp [swapT]
theorem Zb {xs:List Xe} {i j:Nat} (hi:i<xs.length) (hj:j<xs.length) (k:Nat):getT (swapT xs i j) k=if k=j then getT xs i else if k=i then getT xs j else getT xs k:=by
 have key:(swapT xs i j)[k]? = if k=j then some (getT xs i) else if k=i then some (getT xs j) else xs[k]?:=by
  unfold swapT;rw [List.getElem?_set,List.getElem?_set];simp only [List.length_set]
  by_cases e1:j=k
  ·subst e1
   simp [hj]
  by_cases e2:i=k
  ·subst e2
   simp [e1,hi,Ne.symm e1]
  simp [e1,e2,Ne.symm e1,Ne.symm e2]
 unfold getT at key ⊢;rw [List.getD_eq_getElem?_getD,key]
 split
 ·rfl
 split
 ·rfl
 rw [List.getD_eq_getElem?_getD]
theorem Xbg {xs:List Xe} {i j:Nat} (hi:i<xs.length) (hj:j<xs.length):(swapT xs i j).Perm xs:=by
 unfold swapT;have e1:getT xs j=xs[j]:=Xab (by simp [hj]);have e2:getT xs i=xs[i]:=Xab (by simp [hi]);rw [e1,e2];exact List.set_set_perm hi hj
def Xay (xs:List Xe):Prop:=∀ i,0<i->i<xs.length->leT (getT xs (par i)) (getT xs i)
theorem Xay.root {xs:List Xe} (h:Xay xs):∀ i,i<xs.length->leT (getT xs 0) (getT xs i):=by
 intro i
 induction i using Nat.strongRecOn with
 | ind i ih =>
  intro hi
  by_cases h0:i=0
  ·subst h0;exact M4 _
  exact Xar (ih (par i) (by unfold par;omega) (by unfold par;omega)) (h i (by omega) hi)
theorem Xqb:Xay []:=fun i _ h=>by simp at h
structure RiseH (xs:List Xe) (a:Nat):Prop where
 lt:a<xs.length
 h1:∀ i,0<i->i<xs.length->i≠a->leT (getT xs (par i)) (getT xs i)
 h2:∀ i,0<i->i<xs.length->par i=a->0<a->leT (getT xs (par a)) (getT xs i)
theorem RiseH.start {xs:List Xe} (h:Xay xs) (t:Xe):RiseH (xs ++ [t]) xs.length:=by
 have hg:∀ i,i<xs.length->getT (xs ++ [t]) i=getT xs i:=fun i hi=>by
  unfold getT;rw [List.getD_eq_getElem?_getD,List.getD_eq_getElem?_getD,List.getElem?_append_left hi]
 refine⟨by simp,fun i h0 hi hne=>?_,fun i h0 hi hp _=>?_⟩
 ·have:i<xs.length:=by simp at hi;omega
  rw [hg i this,hg (par i) (by unfold par;omega)];exact h i h0 this
 simp at hi;unfold par at hp;omega
theorem RiseH.done {xs:List Xe} {a:Nat} (h:RiseH xs a) (hs:¬ ltT (getT xs a) (getT xs (par a))):Xay xs:=fun i h0 hi=>by
 by_cases e:i=a
 ·subst e;exact hs
 exact h.h1 i h0 hi e
theorem RiseH.step {xs:List Xe} {a:Nat} (h:RiseH xs a) (ha:0<a) (hs:ltT (getT xs a) (getT xs (par a))):RiseH (swapT xs (par a) a) (par a):=by
 have hal:=h.lt
 have hpl:par a<xs.length:=by unfold par;omega
 have hpa:par a≠a:=by unfold par;omega
 refine⟨by rw [Y3];exact hpl,fun i h0 hi hne=>?_,fun i h0 hi hp h0p=>?_⟩
 ·rw [Y3] at hi
  rw [Zb hpl hal,Zb hpl hal]
  by_cases e:i=a
  ·subst e
   rw [if_neg hpa,if_pos rfl,if_pos rfl];exact Jh hs
  rw [if_neg e,if_neg hne]
  by_cases ep:par i=a
  ·rw [if_pos ep]
   exact h.h2 i h0 hi ep ha
  rw [if_neg ep]
  by_cases eq:par i=par a
  ·rw [if_pos eq]
   have:=h.h1 i h0 hi e;rw [eq] at this;exact Xar (Jh hs) this
  rw [if_neg eq];exact h.h1 i h0 hi e
 rw [Y3] at hi;rw [Zb hpl hal,Zb hpl hal]
 have e1:par (par a)≠a:=by unfold par;omega
 have e2:par (par a)≠par a:=by unfold par at *;omega
 rw [if_neg e1,if_neg e2];have hup:=h.h1 (par a) h0p hpl hpa
 by_cases e:i=a
 ·subst e
  rw [if_pos rfl];exact hup
 rw [if_neg e]
 have hip:i≠par a:=by unfold par at *;omega
 rw [if_neg hip];have:=h.h1 i h0 hi e;rw [hp] at this;exact Xar hup this
structure Xbp (xs:List Xe) (a:Nat):Prop where
 h1:∀ i,0<i->i<xs.length->par i≠a->leT (getT xs (par i)) (getT xs i)
 h2:∀ i,0<i->i<xs.length->par i=a->0<a->leT (getT xs (par a)) (getT xs i)
def leastT (xs:List Xe) (f:Nat):List Nat->Nat
 | []=>f
 | p :: ps=>leastT xs (if p<xs.length/\ltT (getT xs p) (getT xs f) then p else f) ps
theorem Xgw {xs:List Xe} {a:Nat}:(leT (getT xs (leastT xs a [2*a+1,2*a+2])) (getT xs a))/\(2*a+1<xs.length->leT (getT xs (leastT xs a [2*a+1,2*a+2])) (getT xs (2*a+1)))/\(2*a+2<xs.length->leT (getT xs (leastT xs a [2*a+1,2*a+2])) (getT xs (2*a+2))):=by
 simp only [leastT]
 by_cases c1:2*a+1<xs.length/\ltT (getT xs (2*a+1)) (getT xs a)
 ·rw [if_pos c1]
  by_cases c2:2*a+2<xs.length/\ltT (getT xs (2*a+2)) (getT xs (2*a+1))
  ·rw [if_pos c2]
   exact⟨Jh (Xgj c2.2 c1.2),fun _=>Jh c2.2,fun _=>M4 _⟩
  rw [if_neg c2];exact⟨Jh c1.2,fun _=>M4 _,fun h h'=>c2 ⟨h,h'⟩⟩
 rw [if_neg c1]
 by_cases c2:2*a+2<xs.length/\ltT (getT xs (2*a+2)) (getT xs a)
 ·rw [if_pos c2]
  exact⟨Jh c2.2,fun h=>Xar (Jh c2.2) (fun h'=>c1 ⟨h,h'⟩),fun _=>M4 _⟩
 rw [if_neg c2];exact⟨M4 _,fun h h'=>c1 ⟨h,h'⟩,fun h h'=>c2 ⟨h,h'⟩⟩
theorem Xlw {xs:List Xe} {a:Nat}:leastT xs a [2*a+1,2*a+2]=a\/((leastT xs a [2*a+1,2*a+2]=2*a+1\/leastT xs a [2*a+1,2*a+2]=2*a+2)/\leastT xs a [2*a+1,2*a+2] < xs.length/\ltT (getT xs (leastT xs a [2*a+1,2*a+2])) (getT xs a)):=by
 simp only [leastT]
 by_cases c1:2*a+1<xs.length/\ltT (getT xs (2*a+1)) (getT xs a)
 ·rw [if_pos c1]
  by_cases c2:2*a+2<xs.length/\ltT (getT xs (2*a+2)) (getT xs (2*a+1))
  ·rw [if_pos c2]
   exact .inr ⟨.inr rfl,c2.1,Xgj c2.2 c1.2⟩
  rw [if_neg c2];exact .inr ⟨.inl rfl,c1⟩
 rw [if_neg c1]
 by_cases c2:2*a+2<xs.length/\ltT (getT xs (2*a+2)) (getT xs a)
 ·rw [if_pos c2]
  exact .inr ⟨.inr rfl,c2⟩
 rw [if_neg c2];exact .inl rfl
theorem Xbp.done {xs:List Xe} {a:Nat} (h:Xbp xs a) (hs:leastT xs a [2*a+1,2*a+2]=a):Xay xs:=fun i h0 hi=>by
 by_cases e:par i=a
 ·obtain⟨-,l1,l2⟩:=@Xgw xs a
  rw [hs] at l1 l2;rw [e]
  have:i=2*a+1\/i=2*a+2:=by unfold par at e;omega
  rcases this with rfl | rfl
  ·exact l1 hi
  exact l2 hi
 exact h.h1 i h0 hi e
theorem Xbp.step {xs:List Xe} {a:Nat} (h:Xbp xs a) (hs:leastT xs a [2*a+1,2*a+2]≠a):a<leastT xs a [2*a+1,2*a+2]/\leastT xs a [2*a+1,2*a+2] < xs.length/\Xbp (swapT xs (leastT xs a [2*a+1,2*a+2]) a) (leastT xs a [2*a+1,2*a+2]):=by
 obtain⟨-,l1,l2⟩:=@Xgw xs a;obtain⟨hm,hl,hlt⟩:=(@Xlw xs a).resolve_left hs;generalize leastT xs a [2*a+1,2*a+2]=c at *
 have hac:a<c:=by omega
 have hal:a<xs.length:=by omega
 have hpc:par c=a:=by unfold par;omega
 refine⟨hac,hl,fun i h0 hi hne=>?_,fun i h0 hi hp h0c=>?_⟩
 ·rw [Y3] at hi
  rw [Zb hl hal,Zb hl hal]
  by_cases e:i=a
  ·subst e
   have e1:par i≠i:=by unfold par;omega
   have e2:par i≠c:=hne;rw [if_neg e1,if_neg e2,if_pos rfl];exact h.h2 c (by omega) hl hpc (by omega)
  rw [if_neg e]
  by_cases ep:par i=a
  ·rw [if_pos ep]
   by_cases ec:i=c
   ·rw [if_pos ec]
    exact Jh hlt
   rw [if_neg ec]
   have:i=2*a+1\/i=2*a+2:=by unfold par at ep;omega
   rcases this with rfl | rfl
   ·exact l1 hi
   exact l2 hi
  rw [if_neg ep,if_neg hne]
  have ec:i≠c:=fun e'=>ep (by rw [e'];exact hpc)
  rw [if_neg ec];exact h.h1 i h0 hi ep
 rw [Y3] at hi;rw [Zb hl hal,Zb hl hal,hpc,if_pos rfl]
 have e1:i≠a:=by unfold par at hp;omega
 have e2:i≠c:=by unfold par at hp;omega
 rw [if_neg e1,if_neg e2];have:=h.h1 i h0 hi (by omega);rw [hp] at this;exact this
theorem Xbp.start {xs:List Xe} (h:Xay xs):Xbp ((swapT xs 0 (xs.length-1)).take (xs.length-1)) 0:=by
 refine⟨fun i h0 hi hne=>?_,fun i h0 hi hp h00=>by omega⟩
 have hi':i<xs.length-1:=by
  rw [List.length_take,Y3] at hi;omega
 have hg:∀ k,k<xs.length-1->getT ((swapT xs 0 (xs.length-1)).take (xs.length-1)) k=getT (swapT xs 0 (xs.length-1)) k:=fun k hk=>by
  unfold getT;rw [List.getD_eq_getElem?_getD,List.getD_eq_getElem?_getD,List.getElem?_take,if_pos hk]
 rw [hg i hi',hg (par i) (by unfold par;omega)];rw [Zb (by omega) (by omega),Zb (by omega) (by omega)]
 have e1:par i≠xs.length-1:=by unfold par;omega
 rw [if_neg e1,if_neg hne,if_neg (by omega),if_neg (by omega)];exact h i h0 (by omega)
theorem Xdb (xs:List Xe) (p:Nat):∀(os:List Nat) (f:Nat),leastT xs f (os ++ [p])=if p<xs.length/\ltT (getT xs p) (getT xs (leastT xs f os)) then p else leastT xs f os
 | [],f=>rfl
 | q :: os,f=>by
  simp only [List.cons_append,leastT];exact Xdb xs p os _
theorem Xcp {xs:List Xe}:∀ {os:List Nat} {f:Nat},f<xs.length->leastT xs f os<xs.length
 | [],f,h=>h
 | q :: os,f,h=>by
  simp only [leastT]
  by_cases c:q<xs.length/\ltT (getT xs q) (getT xs f)
  ·rw [if_pos c];exact Xcp c.1
  rw [if_neg c];exact Xcp h
structure Tryz.QP (vb g cap:Nat) (xs:List Xe) (W:World):Prop where
 c:W.cell? ⟨vb,8,none⟩=some (.slice (some ⟨g,0,none⟩) xs.length cap)
 r:∀ i t,xs[i]? = some t->W.cell? ⟨g,i*3,none⟩=some (.int .u64 t.at_)/\W.cell? ⟨g,i*3+1,none⟩=some (.int .i64 t.k)/\W.cell? ⟨g,i*3+2,none⟩=some (.int .u64 t.n)
theorem M0 {W W':World} (h:Below W.heap.size W W') {a:Addr} {v:Value} (hc:W.cell? a=some v):W'.cell? a=some v:=
 (h.cell (World.block_lt_of_cell? W a hc)).trans hc
theorem Tryz.QP.below {vb g cap:Nat} {xs:List Xe} {W W':World} (h:QP vb g cap xs W) (hb:Below W.heap.size W W'):QP vb g cap xs W':=
 ⟨M0 hb h.c,fun i t ht=>by obtain⟨a,b,c⟩:=h.r i t ht;exact⟨M0 hb a,M0 hb b,M0 hb c⟩⟩
abbrev Tryz.Q2P (vb g cap n i j:Nat) (x y:Xe) (W:World):Prop:=
 W.cell? ⟨vb,8,none⟩=some (.slice (some ⟨g,0,none⟩) n cap)/\(W.cell? ⟨g,i*3,none⟩=some (.int .u64 x.at_)/\W.cell? ⟨g,i*3+1,none⟩=some (.int .i64 x.k)/\W.cell? ⟨g,i*3+2,none⟩=some (.int .u64 x.n))/\(W.cell? ⟨g,j*3,none⟩=some (.int .u64 y.at_)/\W.cell? ⟨g,j*3+1,none⟩=some (.int .i64 y.k)/\W.cell? ⟨g,j*3+2,none⟩=some (.int .u64 y.n))
theorem Tryz.QP.two {vb g cap i j:Nat} {x y:Xe} {xs:List Xe} {W:World} (h:QP vb g cap xs W) (hi:xs[i]? = some x) (hj:xs[j]? = some y):Q2P vb g cap xs.length i j x y W:=⟨h.c,h.r i x hi,h.r j y hj⟩
theorem Tryz.Xrp (vb g cap ob:Nat) (xs:List Xe) (f:Nat) (os:List Nat) (w:World) (hQ:QP vb g cap xs w) (hO:∀ j p:Nat,os[j]? = some p->w.cell? ⟨ob,j,none⟩=some (.int .i64 (p:Int))) (hf:f<xs.length\/∀ p∈os,xs.length<=p) (hol:os.length<=10) (hop:∀ p∈os,p<=3000) :
  Calls prog 133 #[.pointer (some ⟨vb,8,none⟩),.int .i64 f,.slice (some ⟨ob,0,none⟩) os.length os.length] w fun e w'=>e=.returned (.int .i64 (leastT xs f os:Nat))/\Below w.heap.size w w':=by
 obtain⟨len,hlen⟩:∃ len,os.length=len:=⟨_,rfl⟩
 rw [hlen] at hol ⊢;have Hlen:=Xb hlen;clear hlen
 obtain⟨n,hnn⟩:∃ n,xs.length=n:=⟨_,rfl⟩
 have Hn:=Xb hnn;clear hnn;go_enter func133,ntmps133;go_wp2
 go_loopw [7,13] (fun l i wr=>∃ k ll:Nat,k<=len/\i=.int .i64 k/\l=.int .i64 ll/\Hid (ll=leastT xs f (os.take k))/\Below w.heap.size w wr) (fun _ i _=>len-(intOf i).toNat)
 case atStart=>exact⟨0,f,Nat.zero_le _,rfl,rfl,Xb rfl,Below.refl _ _⟩
 case round =>
  obtain⟨k,ll,hk,rfl,rfl,hll,hBw⟩:=hrel
  by_cases hkl:k<len
  ·obtain⟨p,hp⟩:∃ p,os[k]? = some p:=⟨os[k]'(by have:=Xa Hlen;omega),by have:=Xa Hlen;simp [this,hkl]⟩
   have ho:=cell_later hBw (hO k p hp);have hp3:=hop p (List.mem_of_getElem? hp);have hsn:=Xb (Xdb xs p (os.take k) f);have htk:Hid (os.take (k+1)=os.take k ++ [p]):=Xb (by rw [List.take_add_one,hp];rfl);have hQw:=hQ.below hBw;have hc8:=hQw.c;rw [Xa Hn] at hc8
   by_cases hpn:p<n
   ·have hlx:ll<n:=by
     rw [Xa hll,<- Xa Hn];exact Xcp (hf.resolve_right (fun h=>by have:=h p (List.mem_of_getElem? hp);have:=Xa Hn;omega))
    obtain⟨x,hx⟩:∃ x,xs[p]? = some x:=⟨getT xs p,Jl (by rw [Xa Hn];exact hpn)⟩
    obtain⟨y,hy⟩:∃ y,xs[ll]? = some y:=⟨getT xs ll,Jl (by rw [Xa Hn];exact hlx)⟩
    have hq2:=hQw.two hx hy;rw [Xa Hn] at hq2
    have hC:=fun W=>Xss x y W
    have hm:=fun W=>Xit x W
    have hres:Hid (leastT xs f (os.take (k+1))=if cmpT x y<0 then p else ll):=Xb (by
     rw [Xa htk,Xa hsn,<- Xa hll,Xab hx,Xab hy]
     by_cases hc:ltT x y
     ·rw [if_pos ⟨by rw [Xa Hn];exact hpn,hc⟩,if_pos ((Xkf x y).2 hc)]
     rw [if_neg (fun h=>hc h.2),if_neg (fun h=>hc ((Xkf x y).1 h))])
    obtain⟨c,hcc⟩:∃ c,cmpT x y=c:=⟨_,rfl⟩
    rw [hcc] at hres;simp only [hcc] at hC;obtain⟨x1,x2,x3⟩:=x;obtain⟨y1,y2,y3⟩:=y;simp only [Xe.cells,Q2P] at hC hm hq2
    have hpi:(p:Int)<(n:Int):=by omega
    have hp0:(0:Int)<=(p:Int):=by omega
    have hli:(ll:Int)<(n:Int):=by omega
    have hl0:(0:Int)<=(ll:Int):=by omega
    have hq3:Q2P vb g cap n p ll ⟨x1,x2,x3⟩ ⟨y1,y2,y3⟩ wr.drew:=hq2;clear hcc hx hy hQw hc8 hp hsn htk hO hop hQ hf hq2
    go_wp2_with fail
    have hd1:decide ((p:Int)<(n:Int))=true:=decide_eq_true hpi
    go_region_held3 (Q2P vb g cap n p ll ⟨x1,x2,x3⟩ ⟨y1,y2,y3⟩) (first
     | with_reducible exact hq3
     | with_reducible exact hq5
     | with_reducible assumption) (first
     | (go_at_call 337;refine(hC _).mono ?_;rintro e w5 ⟨rfl,hg5⟩;have hb5:Below wr.heap.size wr w5:=((Below.refl _ wr).drew).trans (Xp.below hg5);have hq5:Q2P vb g cap n p ll ⟨x1,x2,x3⟩ ⟨y1,y2,y3⟩ w5:=⟨M0 hb5 hq3.1,⟨M0 hb5 hq3.2.1.1,M0 hb5 hq3.2.1.2.1,M0 hb5 hq3.2.1.2.2⟩,⟨M0 hb5 hq3.2.2.1,M0 hb5 hq3.2.2.2.1,M0 hb5 hq3.2.2.2.2⟩⟩))
    have hB5:=hBw.trans (hb5.mono hBw.size);clear hq5 hq3 hC hm
    by_cases hc0:c<0
    ·rw [if_pos hc0] at hres
     go_wp2;exact⟨⟨k+1,p,by omega,rfl,rfl,Xb (Xa hres).symm,hB5⟩,by simp [intOf];omega⟩
    rw [if_neg hc0] at hres;go_wp2;exact⟨⟨k+1,ll,by omega,rfl,rfl,Xb (Xa hres).symm,hB5⟩,by simp [intOf];omega⟩
   have hpi:¬ (p:Int)<(n:Int):=by omega
   have hres:Hid (leastT xs f (os.take (k+1))=ll):=Xb (by
    rw [Xa htk,Xa hsn,if_neg (fun h=>hpn (by have:=h.1;rw [Xa Hn] at this;exact this)),<- Xa hll])
   clear hsn htk hO hop hQ hf hQw hp
   go_wp2_with fail
   go_quiet (fail);go_wp2;exact⟨⟨k+1,ll,by omega,rfl,rfl,Xb (Xa hres).symm,below_drewN hBw _⟩,by simp [intOf];omega⟩
  obtain rfl:k=len:=by omega
  have hta:os.take k=os:=List.take_of_length_le (by have:=Xa Hlen;omega);rw [hta] at hll;go_wp2;go_ret;exact⟨Yy (by rw [Xa hll]),hBw⟩
def Yj (xs:List Xe):List Value:=xs.flatMap fun x=>x.cells.toList
theorem Z2 (xs:List Xe):(Yj xs).length=xs.length*3:=by
 induction xs with
 | nil=>rfl
 | cons x xs ih=>simp only [Yj,List.flatMap_cons,List.length_append,List.length_cons] at ih ⊢;rw [ih];simp [Xe.cells];omega
theorem Xaf:∀(xs:List Xe) (k j:Nat) (t:Xe),xs[k]? = some t->j<3->(Yj xs)[k*3+j]? = t.cells[j]?
 | [],_,_,_,h,_=>by simp at h
 | x :: xs,0,j,t,h,hj=>by
  obtain rfl:x=t:=by simpa using h
  show (x.cells.toList++Yj xs)[0*3+j]? = _
  rw [List.getElem?_append_left (by simp [Xe.cells];omega)];simp
 | x :: xs,k+1,j,t,h,hj=>by
  show (x.cells.toList++Yj xs)[(k+1)*3+j]? = _
  rw [List.getElem?_append_right (by simp [Xe.cells];omega),show x.cells.toList.length=3 from rfl,show (k+1)*3+j-3=k*3+j by omega];exact Xaf xs k j t (by simpa using h) hj
theorem Vs:∀(xs:List Xe) (k:Nat) (t:Xe),k<xs.length->Yj (xs.set k t)=(((Yj xs).set (k*3) (.int .u64 t.at_)).set (k*3+1) (.int .i64 t.k)).set (k*3+2) (.int .u64 t.n)
 | [],_,_,h=>by simp at h
 | x :: xs,0,t,h=>by
  show t.cells.toList++Yj xs=(((x.cells.toList++Yj xs).set 0 _).set 1 _).set 2 _
  rfl
 | x :: xs,k+1,t,h=>by
  have ih:=Vs xs k t (by simpa using h)
  show x.cells.toList++Yj (xs.set k t)=(((x.cells.toList++Yj xs).set ((k+1)*3) _).set ((k+1)*3+1) _).set ((k+1)*3+2) _
  rw [ih,List.set_append_right _ _ (by simp [Xe.cells];omega),List.set_append_right _ _ (by simp [Xe.cells];omega),List.set_append_right _ _ (by simp [Xe.cells];omega)];rw [show x.cells.toList.length=3 from rfl,show (k+1)*3-3=k*3 by omega,show (k+1)*3+1-3=k*3+1 by omega,show (k+1)*3+2-3=k*3+2 by omega]
theorem Xeb {xs:List Xe} {i:Nat} (hi:i<xs.length):swapT xs i i=xs:=by
 unfold swapT;have e2:getT xs i=xs[i]:=Xab (by simp [hi]);rw [List.set_set,e2];exact List.set_getElem_self hi
theorem Un {w:World} {B g n cap:Nat} {e:TypeId} {xs:List Xe} (h:w.ownsRow B e 3 (.slice (some ⟨g,0,none⟩) n cap) n (Yj xs)) {i:Nat} {t:Xe} (hi:xs[i]? = some t):w.cell? ⟨g,i*3,none⟩=some (.int .u64 t.at_)/\w.cell? ⟨g,i*3+1,none⟩=some (.int .i64 t.k)/\w.cell? ⟨g,i*3+2,none⟩=some (.int .u64 t.n):=by
 have hn:n=xs.length:=by have:=h.1;rw [Z2] at this;omega
 have hil:i<xs.length:=(List.getElem?_eq_some_iff.1 hi).1;refine⟨?_,?_,?_⟩
 ·rw [h.cellAt (i*3) (by omega)];exact Xaf xs i 0 t hi (by omega)
 ·rw [h.cellAt (i*3+1) (by omega)];exact Xaf xs i 1 t hi (by omega)
 rw [h.cellAt (i*3+2) (by omega)];exact Xaf xs i 2 t hi (by omega)
theorem Tryz.Xtr (B vb g cap n:Nat) (xs:List Xe) (i j:Nat) (w:World) (c8:w.cell? ⟨vb,8,none⟩=some (.slice (some ⟨g,0,none⟩) n cap)) (hrow:w.ownsRow B 144 3 (.slice (some ⟨g,0,none⟩) n cap) n (Yj xs)) (hi:i<xs.length) (hj:j<xs.length) (hne:i≠j) :
  Calls prog 132 #[.pointer (some ⟨vb,8,none⟩),.int .i64 i,.int .i64 j] w fun e w'=>e=.returned (.tuple #[])/\w'.ownsRow B 144 3 (.slice (some ⟨g,0,none⟩) n cap) n (Yj (swapT xs i j))/\Spares [g] w w':=by
 have hn:n=xs.length:=by have:=hrow.1;rw [Z2] at this;omega
 obtain⟨x,hx⟩:∃ x,getT xs i=x:=⟨_,rfl⟩
 obtain⟨y,hy⟩:∃ y,getT xs j=y:=⟨_,rfl⟩
 obtain⟨t0,t1,t2⟩:=Un hrow (hx ▸ Jl hi);obtain⟨s0,s1,s2⟩:=Un hrow (hy ▸ Jl hj)
 have hfl:Hid (Yj (swapT xs i j)=((((((Yj xs).set (i*3) (.int .u64 y.at_)).set (i*3+1) (.int .i64 y.k)).set (i*3+2) (.int .u64 y.n)).set (j*3) (.int .u64 x.at_)).set (j*3+1) (.int .i64 x.k)).set (j*3+2) (.int .u64 x.n)):=Xb (by
  unfold swapT
  rw [hx,hy,Vs _ j x (by simpa using hj),Vs xs i y hi])
 have f0:=fun o=>hrow.frozenAt o
 obtain⟨x1,x2,x3⟩:=x;obtain⟨y1,y2,y3⟩:=y;simp only at t0 t1 t2 s0 s1 s2 hfl;have HR:=Xb hrow;clear hrow hx hy
 have hii:(i:Int)<(n:Int):=by omega
 have hjj:(j:Int)<(n:Int):=by omega
 have hi0:(0:Int)<=(i:Int):=by omega
 have hj0:(0:Int)<=(j:Int):=by omega
 have n1:i*3≠j*3:=by omega
 have n2:i*3≠j*3+1:=by omega
 have n3:i*3≠j*3+2:=by omega
 have n4:i*3+1≠j*3:=by omega
 have n5:i*3+1≠j*3+1:=by omega
 have n6:i*3+1≠j*3+2:=by omega
 have n7:i*3+2≠j*3:=by omega
 have n8:i*3+2≠j*3+1:=by omega
 have n9:i*3+2≠j*3+2:=by omega
 clear hn hi hj hne;go_enter func132,ntmps132
 go_region
 go_end0
 have hrow:=Xa HR;have r1:=(hrow.stored (i*3) (.int .u64 y1)).1;have r2:=(r1.stored (i*3+1) (.int .i64 y2)).1;have r3:=(r2.stored (i*3+2) (.int .u64 y3)).1;have r4:=(r3.stored (j*3) (.int .u64 x1)).1;have r5:=(r4.stored (j*3+1) (.int .i64 x2)).1;have r6:=(r5.stored (j*3+2) (.int .u64 x3)).1;have hs:Spares [g] w w:=Spares.of_below (Below.refl _ _);rw [<- Xa hfl] at r6;exact⟨rfl,r6.drew,((((((hs.set (by simp) _ _).set (by simp) _ _).set (by simp) _ _).set (by simp) _ _).set (by simp) _ _).set (by simp) _ _).drew⟩
theorem Tryz.Xty (B vb g cap n:Nat) (xs:List Xe) (i:Nat) (w:World) (c8:w.cell? ⟨vb,8,none⟩=some (.slice (some ⟨g,0,none⟩) n cap)) (hrow:w.ownsRow B 144 3 (.slice (some ⟨g,0,none⟩) n cap) n (Yj xs)) (hi:i<xs.length) :
  Calls prog 132 #[.pointer (some ⟨vb,8,none⟩),.int .i64 i,.int .i64 i] w fun e w'=>e=.returned (.tuple #[])/\w'.ownsRow B 144 3 (.slice (some ⟨g,0,none⟩) n cap) n (Yj xs)/\Spares [g] w w':=by
 have hn:n=xs.length:=by have:=hrow.1;rw [Z2] at this;omega
 obtain⟨x,hx⟩:∃ x,getT xs i=x:=⟨_,rfl⟩
 obtain⟨t0,t1,t2⟩:=Un hrow (hx ▸ Jl hi)
 have hfl:Hid (((((((Yj xs).set (i*3) (.int .u64 x.at_)).set (i*3+1) (.int .i64 x.k)).set (i*3+2) (.int .u64 x.n)).set (i*3) (.int .u64 x.at_)).set (i*3+1) (.int .i64 x.k)).set (i*3+2) (.int .u64 x.n)=Yj xs):=Xb (by
  have h:=Xeb hi;unfold swapT at h;rw [hx] at h
  rw [<- Vs xs i x hi,<- Vs _ i x (by simpa using hi),h])
 have f0:=fun o=>hrow.frozenAt o
 obtain⟨x1,x2,x3⟩:=x;simp only at t0 t1 t2 hfl;have HR:=Xb hrow;clear hrow hx
 have hii:(i:Int)<(n:Int):=by omega
 have hi0:(0:Int)<=(i:Int):=by omega
 have n4:i*3+1≠i*3:=by omega
 have n7:i*3+2≠i*3:=by omega
 have n8:i*3+2≠i*3+1:=by omega
 clear hn hi;go_enter func132,ntmps132
 go_region
 go_end0
 have hrow:=Xa HR;have r1:=(hrow.stored (i*3) (.int .u64 x1)).1;have r2:=(r1.stored (i*3+1) (.int .i64 x2)).1;have r3:=(r2.stored (i*3+2) (.int .u64 x3)).1;have r4:=(r3.stored (i*3) (.int .u64 x1)).1;have r5:=(r4.stored (i*3+1) (.int .i64 x2)).1;have r6:=(r5.stored (i*3+2) (.int .u64 x3)).1;have hs:Spares [g] w w:=Spares.of_below (Below.refl _ _);rw [Xa hfl] at r6;exact⟨rfl,r6.drew,((((((hs.set (by simp) _ _).set (by simp) _ _).set (by simp) _ _).set (by simp) _ _).set (by simp) _ _).set (by simp) _ _).drew⟩
theorem Tryz.Xqh (B vb g cap n:Nat) (xs:List Xe) (i j:Nat) (w:World) (c8:w.cell? ⟨vb,8,none⟩=some (.slice (some ⟨g,0,none⟩) n cap)) (hrow:w.ownsRow B 144 3 (.slice (some ⟨g,0,none⟩) n cap) n (Yj xs)) (hi:i<xs.length) (hj:j<xs.length) :
  Calls prog 132 #[.pointer (some ⟨vb,8,none⟩),.int .i64 i,.int .i64 j] w fun e w'=>e=.returned (.tuple #[])/\w'.ownsRow B 144 3 (.slice (some ⟨g,0,none⟩) n cap) n (Yj (swapT xs i j))/\Spares [g] w w':=by
 by_cases h:i=j
 ·subst h
  rw [Xeb hi];exact Xty B vb g cap n xs i w c8 hrow hi
 exact Xtr B vb g cap n xs i j w c8 hrow hi hj h
end Go.Proofs
