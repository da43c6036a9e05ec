import Derived.Test.YtjbekgjdempbiaaGreatDoorJCodeA2
import Derived.Test.YtjbekgjdempbiaaGreatDoorProg
import Derived.Test.YtjbekgjdempbiaaGreatDoorJMapOps
import Derived.WalkKit
import Derived.LaidEql
import Derived.Stop.Asserts
import Derived.RowKitTokens
import Derived.Test.YtjbekgjdempbiaaGreatDoorJState
import Derived.Test.YtjbekgjdempbiaaGreatDoorJRounds
set_option maxRecDepth 100000
set_option maxHeartbeats 8000000
namespace Go.Proofs
open Go.RowKit Go.Sort Go.Lib Go.Shelf Go.Maps
theorem keepLine_len {tm:Int} (t0:0≤tm) (t1:tm≤18446744073709551615) {is:List Item} {s:VSt} (hF:FitsAll is s) (hn:is.length≤500):(keepLine tm is).length≤1300000:=by
 refine recLine_len _ (fun r hr=>?_) (by simp;omega)
 rcases List.mem_cons.1 hr with rfl | hr
 ·exact⟨show (-9223372036854775808:Int)≤0 by decide,show (0:Int)≤9223372036854775807 by decide,show 0<18446744073709551616 by decide,show 0<18446744073709551616 by decide,t0,t1,show (-9223372036854775808:Int)≤0 by decide,show (0:Int)≤9223372036854775807 by decide,show (0:Int)≤0 by decide,show (0:Int)≤18446744073709551615 by decide,show 0≤1000 by decide⟩
 ·exact(FitsAll.ok hF r hr).1
def renewL (tm ttl:Int) (l:LeaE):Int:=max l.at_ (min (plusI tm ttl) l.last)
theorem putLea_set {l:List LeaE} (hs:l.Pairwise (fun a b=>a.n<b.n)) {k:Nat} {t t':LeaE} (h:l[k]? = some t) (hn:t'.n=t.n):putLea t' l=l.set k t':=by
 have hk:k<l.length:=(List.getElem?_eq_some_iff.1 h).1;have hke:l[k]=t:=(List.getElem?_eq_some_iff.1 h).2;unfold putLea;rw [if_pos (List.any_eq_true.2 ⟨t,List.mem_of_getElem? h,by simp [hn]⟩)];apply List.ext_getElem
 ·simp
 ·intro j h1 h2
  have hj:j<l.length:=by simpa using h1
  rw [List.getElem_map,List.getElem_set]
  by_cases e:k=j
  ·subst e
   rw [if_pos rfl,if_pos (by rw [hke,hn])]
  ·rw [if_neg e,if_neg]
   intro hnn;have hp:=List.pairwise_iff_getElem.1 hs
   rcases Nat.lt_or_gt_of_ne e with hlt | hgt
   ·have:=hp k j hk hj hlt
    rw [hke] at this;omega
   ·have:=hp j k hj hk hgt
    rw [hke] at this;omega
theorem Tryz.vRenew_miss (vb:Nat) (w:World) (id:List UInt8) (ttl:Int) (x:Int × Int) (ak au at_ tr:Int) (pd:Bool) (lp:List UInt8) (la:Int) (hp:Calls prog 63 #[.string ⟨id.toArray⟩] w fun e w'=>e=.returned (nmV x)∧Below w.heap.size w w')
  (hF:∀ W,Below w.heap.size w W→Calls prog 71 #[.pointer (some ⟨vb,0,none⟩),nmV x] W fun e w'=>e=.returned (.tuple #[.agg #[.int .i64 ak,.int .u64 au,.int .u64 at_,.int .i64 tr,.bool pd,.string ⟨lp.toArray⟩,.int .u64 la],.bool false])∧Below W.heap.size W w') :
  Calls prog 44 #[.pointer (some ⟨vb,0,none⟩),.string ⟨id.toArray⟩,.int .u64 ttl] w fun e w'=>e=.returned (.tuple #[.int .u64 0,.iface 33 (.int .i64 5)])∧Below w.heap.size w w':=by
 unfold nmV at hp hF;go_enter func44,ntmps44
 go_wp2_with (first
  | (go_at_call 63;refine hp.mono ?_;rintro e w1 ⟨rfl,hb1⟩;have hF1:=hF _ (hb1.alloc hb1.size (.cells #[.int .i64 x.1,.int .u64 x.2] 114)))
  | (go_at_call 71;refine hF1.mono ?_;rintro e w2 ⟨rfl,hb2⟩))
 have hb3:=(hb1.alloc hb1.size (.cells #[.int .i64 x.1,.int .u64 x.2] 114)).trans (hb2.mono (by have:=hb1.size;simp;omega));exact bodyPost_ret (v:=.tuple #[.int .u64 0,.iface 33 (.int .i64 5)]) (by simp [results,results44,go_sem]) rfl ⟨rfl,hb3.alloc hb3.size _⟩
abbrev Tryz.RnP (vb lb:Nat) (tm la:Int) (W:World):Prop:=W.cell? ⟨vb,2,none⟩=some (.int .u64 tm)∧W.cell? ⟨lb,6,none⟩=some (.int .u64 la)
theorem Tryz.vRenew_hit (k:Blk) (vx:VX) (tm:Int) (s:VSt) (c:List UInt8) (l f:Int) (w:World) (hW:Whole w k vx tm s c l f) (hl:l<0) (hl1 : -999999990≤l) (hf:f<0) (hf1 : -999999990≤f) (hc:c.length≤900000000000) (id:List UInt8) (hid:id.length≤1000000) (i:Nat) (t:LeaE) (ht:s.lks[i]? = some t) (hp:parseN id=(2,(t.n:Int))) (hlv:(!t.pd&&decide (tm<t.at_))=true) (ttl:Int) (ht0:0≤ttl) (ht1:ttl≤18446744073709551615) (h14:s.lks.length<500) :
  Calls prog 44 #[.pointer (some ⟨k.vb,0,none⟩),.string ⟨id.toArray⟩,.int .u64 ttl] w fun e w'=>e=.returned (.tuple #[.int .u64 (renewL tm ttl t),.nilIface]) ∧
   (∃ c' l' f',c'.length≤c.length+1300000∧l-2≤l'∧l'≤l∧f-2≤f'∧f'≤f∧Whole w' k vx tm ⟨s.tn,s.ln,s.tks,s.lks.set i { t with at_:=renewL tm ttl t }⟩ c' l' f')∧Spares k.turns w w':=by
 have htm:=List.mem_of_getElem? ht
 have hA:=fun W=>later tm ttl hW.v.t0 hW.v.t1 ht0 ht1 W
 have hrg:=plusI_range tm ttl hW.v.t0 hW.v.t1 ht0 ht1;have hP:=parse ⟨id.toArray⟩ (by simpa [ByteArray.size] using hid) w hW.v.va.env hW.v.va.six;simp only at hP
 have hF:=fun W (hb:Below w.heap.size w W)=>liveLease_hit k.vb k.mt k.ml vx tm _ _ s.tks s.lks W (hW.v.va.below hb) t htm
 rw [hlv] at hF
 have htime:=fun W (hb:Below w.heap.size w W)=>(hW.v.va.below hb).v.cell 2 (v:=.int .u64 tm) rfl
 have hokt:=hW.v.okL t htm;have lV:=hW.v.va.v.lt
 obtain⟨ra,hra⟩:∃ ra,renewL tm ttl t=ra:=⟨_,rfl⟩
 have hra2:max t.at_ (min (plusI tm ttl) t.last)=ra:=hra;rw [hra];rw [hp] at hP;unfold nmV at hP hF;simp only at hP hF;unfold LeaE.cells at hF;have hset:=putLea_set hW.v.va.ok.incL ht (t':={ t with at_:=ra }) rfl
 have hfit:(Item.lea { t with at_:=ra }).Fits s:=⟨⟨show 0≤ra by have:=hokt.a0;omega,show ra≤18446744073709551615 by have:=hokt.a1;have:=hokt.l1;omega,hokt.r0,hokt.r1,hokt.l0,hokt.l1,hokt.p1,hokt.pa⟩,.inl ⟨t,htm,rfl⟩,by omega,(hW.v.va.ok.limL t htm).1,(hW.v.va.ok.limL t htm).2⟩
 have happ:(Item.lea { t with at_:=ra }).app s=⟨s.tn,s.ln,s.tks,s.lks.set i { t with at_:=ra }⟩:=by
  show VSt.mk s.tn (max s.ln t.n) s.tks (putLea { t with at_:=ra } s.lks)=_
  rw [hset,show max s.ln t.n=s.ln by have:=hW.v.nl t htm;omega]
 have hK:=fun W (hb:Below w.heap.size w W)=>keep1 k vx tm s c l f (.lea { t with at_:=ra }) W (hW.below hb) hl hl1 hf hf1 hc hfit
 rw [happ] at hK;have hkl:(keepLine tm [.lea { t with at_:=ra }]).length≤1300000:=keepLine_len hW.v.t0 hW.v.t1 (s:=s) ⟨hfit,trivial⟩ (by simp);generalize keepLine tm [.lea { t with at_:=ra }]=kl at *
 have hER:=fun W b (h0:BoxN W b 131 #[.int .i64 t.ak,.int .u64 (t.au:Int),.int .u64 ra,.int .i64 t.tr,.bool t.pd,.string ⟨t.pth.toArray⟩,.int .u64 t.last])=>leaRecord b 2 (t.n:Int) t.ak t.au ra t.tr t.pd t.pth t.last W (h0.cell 0 rfl) (h0.cell 1 rfl) (h0.cell 2 rfl) (h0.cell 3 rfl) (h0.cell 4 rfl) (h0.cell 5 rfl) (h0.cell 6 rfl)
 change ∀ W,Below w.heap.size w W→Calls prog 66 _ (W.alloc (.cells #[.int .i64 1,.int .i64 2,.int .u64 (t.n:Int),.int .i64 t.ak,.int .u64 (t.au:Int),.bool t.pd,.int .u64 ra,.int .i64 t.tr,.int .u64 t.last,.string ⟨t.pth.toArray⟩] 135)) _ at hK
 unfold recCells at hER
 have hsame:ra=t.at_→s.lks.set i { t with at_:=ra } = s.lks:=fun e=>by
  have hk:i<s.lks.length:=(List.getElem?_eq_some_iff.1 ht).1;have hke:s.lks[i]=t:=(List.getElem?_eq_some_iff.1 ht).2;rw [show ({ t with at_:=ra }:LeaE)=s.lks[i] by rw [hke,e]];exact List.set_getElem_self hk
 have Hsame:=hid_intro hsame
 obtain⟨lks',hlks⟩:∃ lks',s.lks.set i { t with at_:=ra } = lks':=⟨_,rfl⟩
 rw [hlks] at hK Hsame ⊢;obtain⟨tn_,ak,au,at_,tr,pd,pth,last⟩:=t;simp only at *;generalize plusI tm ttl=p at *;have HW:=hid_intro hW;clear hset hfit happ hra hsame hlks ht htm hokt hp hlv hW
 have hB0:∀ w1,Below w.heap.size w w1→∀ w2,Below (w1.alloc (.cells #[.int .i64 2,.int .u64 (tn_:Int)] 114)).heap.size (w1.alloc (.cells #[.int .i64 2,.int .u64 (tn_:Int)] 114)) w2→Below w.heap.size w w2:=fun w1 hb1 w2 hb2=>(hb1.alloc hb1.size _).trans (hb2.mono (by have:=hb1.size;simp;omega))
 by_cases hle:min p last≤at_
 ·have hra':ra=at_:=by omega
  subst hra';rw [show lks'=s.lks from hid_elim Hsame rfl];clear hK hER Hsame hra2;go_enter func44,ntmps44
  go_wp2_with (first
   | (go_at_call 63;refine hP.mono ?_;rintro e w1 ⟨rfl,hb1⟩;have hF1:=hF _ (hb1.alloc hb1.size (.cells #[.int .i64 2,.int .u64 (tn_:Int)] 114)))
   | (go_at_call 71;refine hF1.mono ?_;rintro e w2 ⟨rfl,hb2⟩))
  have hb3:=hB0 w1 hb1 w2 hb2;have c2:=htime _ hb3;have lV2:k.vb<w2.heap.size:=Nat.lt_of_lt_of_le lV hb3.size;clear hF hF1 hP htime;have bL:=BoxN.new w2 131 #[.int .i64 ak,.int .u64 (au:Int),.int .u64 ra,.int .i64 tr,.bool pd,.string ⟨pth.toArray⟩,.int .u64 last]
  have hP1:RnP k.vb w2.heap.size tm last (w2.alloc (.cells #[.int .i64 ak,.int .u64 (au:Int),.int .u64 ra,.int .i64 tr,.bool pd,.string ⟨pth.toArray⟩,.int .u64 last] 131)).drew:=⟨cell_later (((Below.refl _ w2).alloc (Nat.le_refl _) _).drew) c2,bL.cell 6 rfl⟩
  go_region_held3 (RnP k.vb w2.heap.size tm last) (first
   | with_reducible exact hP1
   | with_reducible assumption) (first | (go_at_call 65;refine(hA _).mono ?_;rintro e w3 ⟨rfl,rfl⟩))
  clear hP1 bL c2;go_wp2;have hb4:=(hb3.alloc hb3.size (.cells #[.int .i64 ak,.int .u64 (au:Int),.int .u64 ra,.int .i64 tr,.bool pd,.string ⟨pth.toArray⟩,.int .u64 last] 131)).drew;exact bodyPost_ret (v:=.tuple #[.int .u64 ra,.nilIface]) (by simp [results,results44,go_sem]) rfl ⟨rfl,⟨c,l,f,by omega,by omega,by omega,by omega,by omega,(hid_elim HW).below hb4⟩,Spares.of_below hb4⟩
 ·have hra':ra=min p last:=by omega
  have hnle:¬ min p last≤at_:=hle;clear Hsame hra2 hle;go_enter func44,ntmps44
  go_wp2_with (first
   | (go_at_call 63;refine hP.mono ?_;rintro e w1 ⟨rfl,hb1⟩;have hF1:=hF _ (hb1.alloc hb1.size (.cells #[.int .i64 2,.int .u64 (tn_:Int)] 114)))
   | (go_at_call 71;refine hF1.mono ?_;rintro e w2 ⟨rfl,hb2⟩))
  have hb3:=hB0 w1 hb1 w2 hb2;have c2:=htime _ hb3;have lV2:k.vb<w2.heap.size:=Nat.lt_of_lt_of_le lV hb3.size;have bL:=BoxN.new w2 131 #[.int .i64 ak,.int .u64 (au:Int),.int .u64 at_,.int .i64 tr,.bool pd,.string ⟨pth.toArray⟩,.int .u64 last]
  have hP1:RnP k.vb w2.heap.size tm last (w2.alloc (.cells #[.int .i64 ak,.int .u64 (au:Int),.int .u64 at_,.int .i64 tr,.bool pd,.string ⟨pth.toArray⟩,.int .u64 last] 131)).drew:=⟨cell_later (((Below.refl _ w2).alloc (Nat.le_refl _) _).drew) c2,bL.cell 6 rfl⟩
  have bN2:=(BoxN.new w1 114 #[.int .i64 2,.int .u64 (tn_:Int)]).below hb2 (by simp);clear hF hF1 hP htime
  go_region_held3 (RnP k.vb w2.heap.size tm last) (first
   | with_reducible exact hP1
   | with_reducible assumption) (first | (go_at_call 65;refine(hA _).mono ?_;rintro e w3 ⟨rfl,rfl⟩))
  clear hP1 bL c2;rw [← hra'] at hnle ⊢;have Hra:=hid_intro hra';clear hra';have lN:=bN2.lt;have n0:=bN2.cell 0 (v:=.int .i64 2) rfl;have n1:=bN2.cell 1 (v:=.int .u64 (tn_:Int)) rfl;have hb4:=(hb3.alloc hb3.size (.cells #[.int .i64 ak,.int .u64 (au:Int),.int .u64 ra,.int .i64 tr,.bool pd,.string ⟨pth.toArray⟩,.int .u64 last] 131)).drew;have bL4:BoxN (w2.alloc (.cells #[.int .i64 ak,.int .u64 (au:Int),.int .u64 ra,.int .i64 tr,.bool pd,.string ⟨pth.toArray⟩,.int .u64 last] 131)).drew w2.heap.size 131 #[.int .i64 ak,.int .u64 (au:Int),.int .u64 ra,.int .i64 tr,.bool pd,.string ⟨pth.toArray⟩,.int .u64 last]:=BoxN.new w2 131 #[.int .i64 ak,.int .u64 (au:Int),.int .u64 ra,.int .i64 tr,.bool pd,.string ⟨pth.toArray⟩,.int .u64 last]
  go_wp2_with (first
   | (go_at_call 67;refine(hER _ _ bL4).mono ?_;rintro e w5 ⟨rfl,hb5⟩;have hb6:Below w.heap.size w w5:=hb4.trans (hb5.mono hb4.size);have hK6:=hK w5 hb6)
   | (go_at_call 66;refine hK6.mono ?_;rintro e w7 ⟨rfl,hW7,hS7⟩))
  exact bodyPost_ret (v:=.tuple #[.int .u64 ra,.nilIface]) (by simp [results,results44,go_sem]) rfl ⟨rfl,⟨_,_,_,by rw [List.length_append];omega,Int.le_refl _,by omega,Int.le_refl _,by omega,hW7⟩,(Spares.of_below hb6).trans hS7⟩
end Go.Proofs
namespace Go.Proofs
open Go.RowKit Go.Extern.Stop Go.Stop Go.Extern
theorem Tryz.rfValueP (t:Addr) (w:World):(ReflectliteValue.unpack (.iface 139 (.pointer (some t)))).run prog w
  = .ok (.agg #[.pointer (some ⟨9,139,none⟩),.pointer (some ⟨w.heap.size,0,none⟩),.int .u64 150]) (w.alloc (.cells #[.pointer (some t)] 139)):=by kernel_rfl
theorem Tryz.rfTypeP (a:Addr) (w:World):(ReflectliteValue.methodAny (ReflectliteValue.valueError "reflectlite.Value.Type" 0) (fun t _ _ _=>ReflectliteType.toType t) #[.agg #[.pointer (some ⟨9,139,none⟩),.pointer (some a),.int .u64 150]]).run prog w
  = .ok (.iface 243 (.agg #[.pointer (some ⟨9,139,none⟩)])) w:=by kernel_rfl
theorem Tryz.rfKind (h:Value) (w:World):(Go.method 517 243 (.agg #[h]) "Kind").run prog w=.ok (301,h) w:=by kernel_rfl
theorem Tryz.rfKindP (w:World):((ReflectliteType.abiMethod fun t=>Functor.map (fun a:Nat=>Value.int IntKind.u8 (a:Int)) (Rtype.kind t)) #[.pointer (some ⟨9,139,none⟩)]).run prog w=.ok (.int .u8 22) w:=by kernel_rfl
theorem Tryz.rfKindE (w:World):((ReflectliteType.abiMethod fun t=>Functor.map (fun a:Nat=>Value.int IntKind.u8 (a:Int)) (Rtype.kind t)) #[.pointer (some ⟨9,33,none⟩)]).run prog w=.ok (.int .u8 2) w:=by kernel_rfl
theorem Tryz.rfIsNil0 (a:Addr) (W:World) :
  (ReflectliteValue.method (ReflectliteValue.valueError "reflectlite.Value.IsNil" 0) ReflectliteValue.isNil #[.agg #[.pointer (some ⟨9,139,none⟩),.pointer (some a),.int .u64 150]]).run prog W=(ReflectliteValue.isNil 139 a 150 22).run prog W:=by kernel_rfl
theorem Tryz.rfIsNil (a p:Addr) (W:World) (ha:W.cell? a=some (.pointer (some p))) :
  (ReflectliteValue.method (ReflectliteValue.valueError "reflectlite.Value.IsNil" 0) ReflectliteValue.isNil #[.agg #[.pointer (some ⟨9,139,none⟩),.pointer (some a),.int .u64 150]]).run prog W=.ok (.bool false) W:=by
 rw [rfIsNil0];simp [ReflectliteValue.isNil,loadVar,isAgg,underlying,underlying139,ha,Result.andThen]
theorem Tryz.rfElemM (h:Value) (w:World):(Go.method 517 243 (.agg #[h]) "Elem").run prog w=.ok (344,.agg #[h]) w:=by kernel_rfl
theorem Tryz.rfImplM (h:Value) (w:World):(Go.method 517 243 (.agg #[h]) "Implements").run prog w=.ok (345,.agg #[h]) w:=by kernel_rfl
theorem Tryz.rfAssignM (h:Value) (w:World):(Go.method 517 243 (.agg #[h]) "AssignableTo").run prog w=.ok (342,.agg #[h]) w:=by kernel_rfl
theorem Tryz.rfComparM (h:Value) (w:World):(Go.method 517 243 (.agg #[h]) "Comparable").run prog w=.ok (343,.agg #[h]) w:=by kernel_rfl
theorem Tryz.rfElemT (w:World):(ReflectliteType.method ReflectliteType.elem #[.agg #[.pointer (some ⟨9,139,none⟩)]]).run prog w=.ok (.iface 243 (.agg #[.pointer (some ⟨9,33,none⟩)])) w:=by kernel_rfl
theorem Tryz.rfImpl (w:World):(ReflectliteType.relation "Implements" ReflectliteType.implements_ #[.agg #[.pointer (some ⟨9,33,none⟩)],.iface 243 (.agg #[.pointer (some ⟨9,81,none⟩)])]).run prog w=.ok (.bool true) w:=by kernel_rfl
theorem Tryz.rfTypeOf (v:Value) (w:World):(ReflectliteType.typeOf #[.iface 33 v]).run prog w=.ok (.iface 243 (.agg #[.pointer (some ⟨9,33,none⟩)])) w:=by kernel_rfl
theorem Tryz.rfAssign (w:World):(ReflectliteType.relation "AssignableTo" ReflectliteType.assignableTo #[.agg #[.pointer (some ⟨9,33,none⟩)],.iface 243 (.agg #[.pointer (some ⟨9,33,none⟩)])]).run prog w=.ok (.bool true) w:=by kernel_rfl
theorem Tryz.rfValueE (k:Int) (w:World):(ReflectliteValue.unpack (.iface 33 (.int .i64 k))).run prog w
  = .ok (.agg #[.pointer (some ⟨9,33,none⟩),.pointer (some ⟨w.heap.size,0,none⟩),.int .u64 130]) (w.alloc (.cells #[.int .i64 k] 33)):=by kernel_rfl
theorem Tryz.rfElemOf (w:World):(Rtype.elem? 139).run prog w=.ok (some 33) w:=by kernel_rfl
theorem Tryz.rfMk (p:Addr) (w:World):(ReflectliteValue.mk 33 p ReflectliteValue.flagAddr).run prog w=.ok (.agg #[.pointer (some ⟨9,33,none⟩),.pointer (some p),.int .u64 386]) w:=by kernel_rfl
theorem Tryz.rfElemV0 (a:Addr) (W:World) :
  (ReflectliteValue.method (ReflectliteValue.valueError "reflectlite.Value.Elem" 0) ReflectliteValue.elem #[.agg #[.pointer (some ⟨9,139,none⟩),.pointer (some a),.int .u64 150]]).run prog W=(ReflectliteValue.elem 139 a 150 22).run prog W:=by kernel_rfl
theorem Tryz.rfElemV (a p:Addr) (W:World) (ha:W.cell? a=some (.pointer (some p))) :
  (ReflectliteValue.method (ReflectliteValue.valueError "reflectlite.Value.Elem" 0) ReflectliteValue.elem #[.agg #[.pointer (some ⟨9,139,none⟩),.pointer (some a),.int .u64 150]]).run prog W
   = .ok (.agg #[.pointer (some ⟨9,33,none⟩),.pointer (some p),.int .u64 386]) W:=by
 rw [rfElemV0];simp [ReflectliteValue.elem,loadVar,isAgg,underlying,underlying139,ha,Result.andThen,rfElemOf,rfMk]
theorem Tryz.rfSet0 (ta b:Addr) (W:World) :
  (ReflectliteValue.set #[.agg #[.pointer (some ⟨9,33,none⟩),.pointer (some ta),.int .u64 386],.agg #[.pointer (some ⟨9,33,none⟩),.pointer (some b),.int .u64 130]]).run prog W
   = (loadVar 33 b >>= fun v=>storeVar 33 ta v >>= fun _=>pure (.tuple #[])).run prog W:=by kernel_rfl
theorem Tryz.rfSet (ta b:Addr) (k:Int) (old:Value) (W:World) (hb:W.cell? b=some (.int .i64 k)) (ht:W.cell? ta=some old) (hf:W.frozen? ta=false) :
  (ReflectliteValue.set #[.agg #[.pointer (some ⟨9,33,none⟩),.pointer (some ta),.int .u64 386],.agg #[.pointer (some ⟨9,33,none⟩),.pointer (some b),.int .u64 130]]).run prog W
   = .ok (.tuple #[]) (W.setCell ta (.int .i64 k)):=by
 rw [rfSet0];simp [loadVar,isAgg,underlying,underlying33,hb,Result.andThen,storeVar,Value.cells,storeCells,Addr.add];rw [run_store prog W ta _ _ (by rfl)];simp [ht,hf]
def ErrK (k:Int):Prop:=k=1∨k=2∨k=3∨k=4∨k=5∨k=6∨k=7∨k=8
theorem Tryz.rfEql (k:Int) (hk:ErrK k) (w:World):(binOp .eql 81 (.iface 33 (.int .i64 k)) (.iface 33 (.int .i64 k))).run prog w=.ok (.bool true) w:=by
 rcases hk with rfl | rfl | rfl | rfl | rfl | rfl | rfl | rfl <;> kernel_rfl
theorem Tryz.asHit (k:Int) (t:Addr) (old:Value) (w:World) (hg:w.cell? ⟨0,0,none⟩=some (.iface 243 (.agg #[.pointer (some ⟨9,81,none⟩)]))) (ht0:w.cell? t=some old) (hf0:w.frozen? t=false) :
  Calls prog 69 #[.iface 33 (.int .i64 k),.iface 139 (.pointer (some t))] w fun ev w'=>ev=.returned (.bool true)∧w'=((((w.alloc (.cells #[.pointer (some t)] 139)).alloc (.cells #[.pointer (some ⟨9,139,none⟩),.pointer (some ⟨w.heap.size,0,none⟩),.int .u64 150] 200)).alloc (.cells #[.pointer (some ⟨9,139,none⟩),.pointer (some ⟨w.heap.size,0,none⟩),.int .u64 150] 200)).alloc (.cells #[.int .i64 k] 33)).setCell t (.int .i64 k):=by
 have h6:=@run_callFunc_extern prog 123 _ (fun args=>ReflectliteValue.unpack (args.getD 0 (.tuple #[]))) func123 (by kernel_rfl) (by kernel_rfl) (by kernel_rfl) (by kernel_rfl);have h7:=@run_callFunc_extern prog 124 _ (ReflectliteValue.methodAny (ReflectliteValue.valueError "reflectlite.Value.Type" 0) (fun t _ _ _=>ReflectliteType.toType t)) func124 (by kernel_rfl) (by kernel_rfl) (by kernel_rfl) (by kernel_rfl);have h8:=@run_callFunc_extern prog 125 _ (ReflectliteValue.method (ReflectliteValue.valueError "reflectlite.Value.IsNil" 0) ReflectliteValue.isNil) func125 (by kernel_rfl) (by kernel_rfl) (by kernel_rfl) (by kernel_rfl);have h27:=@run_callFunc_extern prog 301 _ (ReflectliteType.abiMethod fun t=>do pure (.int .u8 (← Rtype.kind t))) func301 (by kernel_rfl) (by kernel_rfl) (by kernel_rfl) (by kernel_rfl);have h37:=@run_callFunc_extern prog 344 _ (ReflectliteType.method ReflectliteType.elem) func344 (by kernel_rfl) (by kernel_rfl) (by kernel_rfl) (by kernel_rfl);have h38:=@run_callFunc_extern prog 345 _ (ReflectliteType.relation "Implements" ReflectliteType.implements_) func345 (by kernel_rfl) (by kernel_rfl) (by kernel_rfl) (by kernel_rfl);have h10:=@run_callFunc_extern prog 127 _ ReflectliteType.typeOf func127 (by kernel_rfl) (by kernel_rfl) (by kernel_rfl) (by kernel_rfl);have h35:=@run_callFunc_extern prog 342 _ (ReflectliteType.relation "AssignableTo" ReflectliteType.assignableTo) func342 (by kernel_rfl) (by kernel_rfl) (by kernel_rfl) (by kernel_rfl);have h11:=@run_callFunc_extern prog 165 _ (ReflectliteValue.method (ReflectliteValue.valueError "reflectlite.Value.Elem" 0) ReflectliteValue.elem) func165 (by kernel_rfl) (by kernel_rfl) (by kernel_rfl) (by kernel_rfl);have h12:=@run_callFunc_extern prog 166 _ ReflectliteValue.set func166 (by kernel_rfl) (by kernel_rfl) (by kernel_rfl) (by kernel_rfl);have tO:=rfTypeOf;have mA:=rfAssignM;have a25:=rfAssign;have v25:=rfValueE;have f6:=rfValueP;have f7:=rfTypeP;have mK:=rfKind;have mE:=rfElemM;have mI:=rfImplM;have k27:=rfKindP;have k25:=rfKindE;have e27:=rfElemT;have i25:=rfImpl;have n8:=rfIsNil ⟨w.heap.size,0,none⟩ t ((w.alloc (.cells #[.pointer (some t)] 139)).alloc (.cells #[.pointer (some ⟨9,139,none⟩),.pointer (some ⟨w.heap.size,0,none⟩),.int .u64 150] 200)) (by simp);have hlt:0<w.heap.size:=World.block_lt_of_cell? _ _ hg
 have hg2:((w.alloc (.cells #[.pointer (some t)] 139)).alloc (.cells #[.pointer (some ⟨9,139,none⟩),.pointer (some ⟨w.heap.size,0,none⟩),.int .u64 150] 200)).cell? ⟨0,0,none⟩=some (.iface 243 (.agg #[.pointer (some ⟨9,81,none⟩)])):=by
  rw [World.cell?_alloc_lt _ _ ⟨0,0,none⟩ (by simp),World.cell?_alloc_lt _ _ ⟨0,0,none⟩ hlt];exact hg
 have htl:t.block<w.heap.size:=World.block_lt_of_cell? _ _ ht0;have el:=rfElemV ⟨w.heap.size,0,none⟩ t (((w.alloc (.cells #[.pointer (some t)] 139)).alloc (.cells #[.pointer (some ⟨9,139,none⟩),.pointer (some ⟨w.heap.size,0,none⟩),.int .u64 150] 200)).alloc (.cells #[.pointer (some ⟨9,139,none⟩),.pointer (some ⟨w.heap.size,0,none⟩),.int .u64 150] 200)) (by rw [World.cell?_alloc_lt _ _ ⟨w.heap.size,0,none⟩ (by simp;omega)];simp)
 have st:=rfSet t ⟨w.heap.size+1+1+1,0,none⟩ k old ((((w.alloc (.cells #[.pointer (some t)] 139)).alloc (.cells #[.pointer (some ⟨9,139,none⟩),.pointer (some ⟨w.heap.size,0,none⟩),.int .u64 150] 200)).alloc (.cells #[.pointer (some ⟨9,139,none⟩),.pointer (some ⟨w.heap.size,0,none⟩),.int .u64 150] 200)).alloc (.cells #[.int .i64 k] 33))
  (by rw [World.cell?_alloc_at _ _ _ _ (by simp)];rfl)
  (by rw [World.cell?_alloc_lt _ _ t (by simp;omega),World.cell?_alloc_lt _ _ t (by simp;omega),World.cell?_alloc_lt _ _ t (by simp;omega),World.cell?_alloc_lt _ _ t htl];exact ht0)
  (by rw [World.frozen?_alloc_old _ _ t (by simp;omega),World.frozen?_alloc_old _ _ t (by simp;omega),World.frozen?_alloc_old _ _ t (by simp;omega),World.frozen?_alloc_old _ _ t (Nat.ne_of_lt htl)];exact hf0)
 go_enter func69,ntmps69;go_wp2;refine wp_loop_rounds 1 ?_;rw [rounds_succ];go_wp2;go_ret;exact⟨rfl,rfl⟩
theorem Tryz.isSame (k:Int) (hk:ErrK k) (w:World) :
  Calls prog 70 #[.iface 33 (.int .i64 k),.iface 33 (.int .i64 k)] w fun e w'=>e=.returned (.bool true)∧w'=w:=by
 have h10:=@run_callFunc_extern prog 127 _ ReflectliteType.typeOf func127 (by kernel_rfl) (by kernel_rfl) (by kernel_rfl) (by kernel_rfl);have h32:=@run_callFunc_extern prog 343 _ (ReflectliteType.method fun t=>do Rtype.noPackHeld "Comparable" t;pure (.bool (← typeInfo t).comparable)) func343 (by kernel_rfl) (by kernel_rfl) (by kernel_rfl) (by kernel_rfl);have tT:=rfTypeOf
 have cT:∀ W,((ReflectliteType.method fun t=>do Rtype.noPackHeld "Comparable" t;Functor.map (fun a=>Value.bool a.comparable) (typeInfo t)) #[.agg #[.pointer (some ⟨9,33,none⟩)]]).run prog W=.ok (.bool true) W:=fun W=>by kernel_rfl
 have mR:=rfComparM;have heq:=rfEql k hk;clear hk;go_enter func70,ntmps70;go_wp2;refine wp_loop_rounds 1 ?_;rw [rounds_succ];go_wp2;go_ret;exact⟨rfl,rfl⟩
theorem Tryz.told_nil (w:World):Calls prog 43 #[.nilIface] w fun e w'=>e=.returned (.int .i64 0)∧Below w.heap.size w w':=by
 go_enter func43,ntmps43;go_wp2;go_ret;exact⟨rfl,(Below.refl _ _).alloc (Nat.le_refl _) _⟩
theorem Tryz.told (k:Int) (hk:ErrK k) (w:World) (hg:w.cell? ⟨0,0,none⟩=some (.iface 243 (.agg #[.pointer (some ⟨9,81,none⟩)]))) :
  Calls prog 43 #[.iface 33 (.int .i64 k)] w fun e w'=>e=.returned (.int .i64 k)∧Below w.heap.size w w':=by
 have b0:=BoxN.new w 33 #[.int .i64 0];have hlt:0<w.heap.size:=World.block_lt_of_cell? _ _ hg
 have hg1:(w.alloc (.cells #[.int .i64 0] 33)).cell? ⟨0,0,none⟩=some (.iface 243 (.agg #[.pointer (some ⟨9,81,none⟩)])):=by
  rw [World.cell?_alloc_lt _ _ ⟨0,0,none⟩ hlt];exact hg
 have hA:=asHit k ⟨w.heap.size,0,none⟩ (.int .i64 0) _ hg1 (b0.cell 0 rfl) (b0.frozen 0)
 have hI:=fun W=>isSame k hk W
 clear hk hg;go_enter func43,ntmps43
 go_wp2_with (first
  | (go_at_call 69;refine hA.mono ?_;rintro e w1 ⟨rfl,rfl⟩)
  | (go_at_call 70;refine(hI _).mono ?_;rintro e w2 ⟨rfl,rfl⟩))
 go_ret;exact⟨rfl,(((((Below.refl _ w).alloc (Nat.le_refl _) _).alloc (by simp) _).alloc (by simp;omega) _).alloc (by simp;omega) _).alloc (by simp;omega) _⟩
end Go.Proofs
namespace Go.Proofs
open Go.RowKit Go.Sort Go.Lib Go.Shelf
def Tryz.ErrT (W:World):Prop:=W.cell? ⟨0,0,none⟩=some (.iface 243 (.agg #[.pointer (some ⟨9,81,none⟩)]))∧∃ m,W.cell? ⟨6,0,none⟩=some (.int .i64 m)
theorem Tryz.ErrT.below {W W':World} (h:ErrT W) (hb:Below 9 W W'):ErrT W':=by
 obtain⟨h1,m,h2⟩:=h;exact⟨(hb.cell (p:=⟨0,0,none⟩) (by show 0<9;decide)).trans h1,m,(hb.cell (p:=⟨6,0,none⟩) (by show 6<9;decide)).trans h2⟩
end Go.Proofs
namespace Go.Proofs
open Go.RowKit Go.Sort Go.Lib Go.Shelf Go.Maps
theorem Tryz.toldK (k:Int) (hk:k=0∨ErrK k) (W:World) (h:ErrT W):Calls prog 43 #[errV k] W fun e w'=>e=.returned (.int .i64 k)∧Below W.heap.size W w':=by
 rcases hk with rfl | hk
 ·exact told_nil W
 ·have hz:k≠0:=by rcases hk with rfl | rfl | rfl | rfl | rfl | rfl | rfl | rfl <;> decide
  rw [errV_nz hz];exact told k hk W h.1
theorem Spares.row' {bs:List Nat} {W W':World} {base size n:Nat} {v:Value} {e:TypeId} {xs:List Value} (h:Spares bs W W') (hr:W.ownsRow base e size v n xs) (hn:∀ g,v.ownBlock=some g→g∉bs):W'.ownsRow base e size v n xs:=by
 obtain⟨h1,h2 | ⟨g,cap,cur,e1,e2,e3,e4⟩⟩:=hr
 ·exact⟨h1,.inl h2⟩
 ·subst e1
  exact⟨h1,.inr ⟨g,cap,cur,rfl,e2,Spares.box (t:=e) (cs:=cur) h e3 (hn g rfl),e4⟩⟩
theorem row_box {W:World} {base size n:Nat} {v:Value} {e:TypeId} {xs:List Value} (hr:W.ownsRow base e size v n xs) {g:Nat} (hg:v.ownBlock=some g):base≤g∧∃ cur,BoxN W g e cur:=by
 obtain⟨h1,⟨e1,-⟩ | ⟨g',cap,cur,e1,e2,e3,e4⟩⟩:=hr
 ·subst e1;cases hg
 ·subst e1
  obtain rfl:g'=g:=by simpa [Value.ownBlock] using hg
  exact⟨e2,cur,e3⟩
def Tryz.foreign (t:TypeId):Bool:=t==108||t==105||t==69||t==72
def Tryz.Foreign (W:World) (b:Nat):Prop:=9≤b∧∃ t cs,BoxN W b t cs∧foreign t=true
theorem Tryz.Foreign.ne {W:World} {b b':Nat} {t:TypeId} {cs:Array Value} (h:Foreign W b) (hB:BoxN W b' t cs) (ht:foreign t=false):b'≠b:=by
 obtain⟨-,t',cs',h1,h2⟩:=h;exact hB.ne h1 (fun e=>by rw [e,h2] at ht;cases ht)
theorem Tryz.Foreign.ne_map {H:Type} {P:Program} {k:TypeId} {R:Value→Option (DataW H × List MemPlace)} {D:DataW H} {W:World} {b b' n:Nat} (h:Foreign W b) (hm:W.ownsMap P k R b' n D):b'≠b:=by
 obtain⟨-,t',cs',h1,h2⟩:=h;exact BoxN.ne_map' h1 hm
structure SS where
 k:Blk
 vx:VX
 tm:Int
 s:VSt
 c:List UInt8
structure Tryz.Sys (B:Nat) (W:World) (hb rb:Nat) (σ:SS):Prop where
 host:BoxN W hb 78 #[.pointer (some ⟨σ.k.db,0,none⟩),.pointer (some ⟨rb,0,none⟩),.pointer (some ⟨σ.k.vb,0,none⟩)]
 wh:Tryz.Whole W σ.k σ.vx σ.tm σ.s σ.c (-1) (-1)
 err:Tryz.ErrT W
 b9:9≤B
 hlow:B≤hb
 low:∀ b∈σ.k.turns,B≤b
 rvb:∃ a b,BoxN W rb 88 #[a,b]
 rlow:B≤rb
 vrv:σ.vx.rv=.iface 75 (.pointer (some ⟨rb,0,none⟩))
 vtk:σ.vx.tk=false
 due:W.ownsRow B 144 3 σ.vx.due 0 []
theorem Tryz.Whole.spared {W W':World} {k:Blk} {vx:VX} {tm:Int} {s:VSt} {c:List UInt8} {l f:Int} {bs:List Nat} (h:Whole W k vx tm s c l f) (hS:Spares bs W W') (h1:∀ b∈k.turns,b∉bs) (h2:k.jb∉bs) (h3:∀ b x,BoxN W b 9 #[x]→b∉bs) (h6:∀ b∈bs,6≤b):Whole W' k vx tm s c l f:=by
 obtain⟨fd,fn,hd,e1,e2⟩:=h.d;exact { h with v:=h.v.spared hS (h1 _ (by simp [Blk.turns])) (h1 _ (by simp [Blk.turns])) (h1 _ (by simp [Blk.turns])) h6,j:=hS.box h.j h2,d:=⟨fd,fn,hd.spared hS (h1 _ (by simp [Blk.turns])) (h1 _ (by simp [Blk.turns])) (h1 _ (by simp [Blk.turns])) (fun q hq=>h3 _ _ (hd.sd q hq)) (fun q hq=>h3 _ _ (hd.sn q hq)),e1,e2⟩ }
theorem Tryz.Whole.setLF {W W':World} {k:Blk} {vx:VX} {tm:Int} {s:VSt} {c:List UInt8} {l f l' f':Int} (h:Whole W k vx tm s c l f) (hS:Spares [k.db] W W') (bD:BoxN W' k.db 100 #[.map (some k.md),.map (some k.mn),.slice none 0 0,.int .i64 l',.int .i64 f',.bool false]):Whole W' k vx tm s c l' f':=by
 obtain⟨fd,fn,hd,e1,e2⟩:=h.d;obtain⟨⟨a1,a2,a3⟩,a4,a5,a6,a7⟩:=h.nes;simp only [List.mem_cons,List.not_mem_nil,or_false,not_or,Blk.turns] at a1 a2 a3 a4;exact { h with v:=h.v.spared hS (by simpa using a1.1) (by simpa using a2.1) (by simpa using a3.1) (fun b hb=>by rw [List.mem_singleton.1 hb];have:=h.d9;omega),j:=hS.box h.j (by simpa using a4.2.2.2.1),d:=⟨fd,fn,hd.cells hS bD,e1,e2⟩ }
section
variable {B hb rb:Nat} {σ:SS} {W W':World}
theorem Tryz.Sys.nine (h:Sys B W hb rb σ):9≤W.heap.size:=h.wh.v.nine
theorem Tryz.Sys.other (h:Sys B W hb rb σ) {bs:List Nat} (hs:Spares bs W W') (hq:∀ b∈bs,Foreign W b):Sys B W' hb rb σ:=by
 have hbx:∀ {b:Nat} {t:TypeId} {cs:Array Value},BoxN W b t cs→foreign t=false→b∉bs:=fun hB ht hm=>(hq _ hm).ne hB ht rfl
 obtain⟨fd,fn,hd,e1,e2⟩:=h.wh.d;obtain⟨n1,-,m1⟩:=h.wh.v.va.held.mapT;obtain⟨n2,-,m2⟩:=h.wh.v.va.held.mapL;obtain⟨n3,-,m3⟩:=hd.dm;obtain⟨n4,-,m4⟩:=hd.nm;obtain⟨ra,rc,hr⟩:=h.rvb
 have g9:∀ b∈bs,9≤b:=fun b hm=>(hq b hm).1
 have hB9:Below 9 W W':=hs.below h.nine g9;refine { h with host:=hs.box h.host (hbx h.host (by decide)),wh:=h.wh.spared hs (fun b hb=>?_) (hbx h.wh.j (by decide)) (fun b x hx=>hbx hx (by decide)) (fun b hb=>by have:=g9 b hb;omega),err:=h.err.below hB9,rvb:=⟨ra,rc,hs.box hr (hbx hr (by decide))⟩,due:=hs.row' h.due (fun g hg=>?_) }
 ·simp only [Blk.turns,List.mem_cons,List.not_mem_nil,or_false] at hb
  rcases hb with rfl | rfl | rfl | rfl | rfl | rfl
  ·exact hbx h.wh.v.va.v (by decide)
  ·exact fun hm=>(hq _ hm).ne_map m1 rfl
  ·exact fun hm=>(hq _ hm).ne_map m2 rfl
  ·exact hbx hd.box (by decide)
  ·exact fun hm=>(hq _ hm).ne_map m3 rfl
  ·exact fun hm=>(hq _ hm).ne_map m4 rfl
 ·obtain⟨-,cur,hc⟩:=row_box h.due hg
  exact hbx hc (by decide)
theorem Tryz.Sys.below (h:Sys B W hb rb σ) (hB:Below W.heap.size W W'):Sys B W' hb rb σ:=h.other (bs:=[]) (Spares.of_below hB) (by simp)
theorem Tryz.Sys.turns_host (h:Sys B W hb rb σ):∀ b∈σ.k.turns,9≤b∧b≠hb∧b<W.heap.size:=fun b hbt=>by
 refine⟨h.wh.turns9 b hbt,?_,h.wh.lts b hbt⟩;obtain⟨fd,fn,hd,e1,e2⟩:=h.wh.d;obtain⟨n1,-,m1⟩:=h.wh.v.va.held.mapT;obtain⟨n2,-,m2⟩:=h.wh.v.va.held.mapL;obtain⟨n3,-,m3⟩:=hd.dm;obtain⟨n4,-,m4⟩:=hd.nm;simp only [Blk.turns,List.mem_cons,List.not_mem_nil,or_false] at hbt
 rcases hbt with rfl | rfl | rfl | rfl | rfl | rfl
 ·exact h.wh.v.va.v.ne h.host (by decide)
 ·exact BoxN.ne_map' h.host m1
 ·exact BoxN.ne_map' h.host m2
 ·exact hd.box.ne h.host (by decide)
 ·exact BoxN.ne_map' h.host m3
 ·exact BoxN.ne_map' h.host m4
end
def Tryz.HostSp (B:Nat) (W W':World):Prop:=∃ hs,Spares hs W W'∧∀ b∈hs,B≤b∧¬ Foreign W b
structure Tryz.Lone (P:World→Prop):Prop where
 other:∀ {W W':World} {bs:List Nat},P W→Spares bs W W'→(∀ b∈bs,Tryz.Foreign W b)→P W'
theorem Tryz.Lone.below {P:World→Prop} (h:Lone P) {W W':World} (hp:P W) (hb:Below W.heap.size W W'):P W':=h.other (bs:=[]) hp (Spares.of_below hb) (by simp)
end Go.Proofs
