import Derived.Test.YtjbekgjdempbiaaGreatDoorJSq
import Derived.Test.YtjbekgjdempbiaaGreatDoorJAsW
import Derived.Test.YtjbekgjdempbiaaGreatDoorJStr
import Derived.Test.YtjbekgjdempbiaaGreatDoorJRefB
import Derived.Test.YtjbekgjdempbiaaGreatDoorJPutL
import Derived.Test.YtjbekgjdempbiaaGreatDoorJCntC
import Derived.Test.YtjbekgjdempbiaaGreatDoorJRefG
import Derived.Test.YtjbekgjdempbiaaGreatDoorJRel
import Derived.Laws.OwnMore
set_option maxRecDepth 100000
set_option maxHeartbeats 8000000
namespace Go.Proofs
open Go.RowKit Go.Extern.Stop Go.Stop Go.Extern
theorem Tryz.Xp9 (k:Int) (hk:Mm k) (w:World) :
  Calls prog 70 #[.iface 33 (.int .i64 k),.iface 33 (.int .i64 k)] w fun e w'=>e=.returned (.bool true)/\w'=w:=by
 have h10:=@run_callFunc_extern prog 127 _ ReflectliteType.typeOf func127 (by kernel_rfl) (by kernel_rfl) (by kernel_rfl) (by kernel_rfl);have h32:=@run_callFunc_extern prog 343 _ (ReflectliteType.method fun t=>do Rtype.noPackHeld "Comparable" t;pure (.bool (<- typeInfo t).comparable)) func343 (by kernel_rfl) (by kernel_rfl) (by kernel_rfl) (by kernel_rfl);have tT:=Xjo
 have cT:∀ W,((ReflectliteType.method fun t=>do Rtype.noPackHeld "Comparable" t;Functor.map (fun a=>Value.bool a.comparable) (typeInfo t)) #[.agg #[.pointer (some ⟨9,33,none⟩)]]).run prog W=.ok (.bool true) W:=fun W=>by kernel_rfl
 have mR:=Xnx;have heq:=rfEql k hk;clear hk;go_enter func70,ntmps70;go_wp2;refine wp_loop_rounds 1 ?_;rw [rounds_succ];go_wp2;go_ret;exact⟨rfl,rfl⟩
theorem Tryz.Xci (w:World):Calls prog 43 #[.nilIface] w fun e w'=>e=.returned (.int .i64 0)/\Below w.heap.size w w':=by
 go_enter func43,ntmps43;go_wp2;go_ret;exact⟨rfl,(Below.refl _ _).alloc (Nat.le_refl _) _⟩
theorem Tryz.told (k:Int) (hk:Mm k) (w:World) (hg:w.cell? ⟨0,0,none⟩=some (.iface 243 (.agg #[.pointer (some ⟨9,81,none⟩)]))) :
  Calls prog 43 #[.iface 33 (.int .i64 k)] w fun e w'=>e=.returned (.int .i64 k)/\Below w.heap.size w w':=by
 have b0:=BoxN.new w 33 #[.int .i64 0];have hlt:0<w.heap.size:=World.block_lt_of_cell? _ _ hg
 have hg1:(w.alloc (.cells #[.int .i64 0] 33)).cell? ⟨0,0,none⟩=some (.iface 243 (.agg #[.pointer (some ⟨9,81,none⟩)])):=by
  rw [World.cell?_alloc_lt _ _ ⟨0,0,none⟩ hlt];exact hg
 have hA:=asHit k ⟨w.heap.size,0,none⟩ (.int .i64 0) _ hg1 (b0.cell 0 rfl) (b0.frozen 0)
 have hI:=fun W=>Xp9 k hk W
 clear hk hg;go_enter func43,ntmps43
 go_wp2_with (first
  | (go_at_call 69;refine hA.mono ?_;rintro e w1 ⟨rfl,rfl⟩)
  | (go_at_call 70;refine(hI _).mono ?_;rintro e w2 ⟨rfl,rfl⟩))
 go_ret;exact⟨rfl,(((((Below.refl _ w).alloc (Nat.le_refl _) _).alloc (by simp) _).alloc (by simp;omega) _).alloc (by simp;omega) _).alloc (by simp;omega) _⟩
end Go.Proofs
namespace Go.Proofs
open Go.RowKit Go.Sort Go.Lib Go.Shelf
def Tryz.Ja (W:World):Prop:=W.cell? ⟨0,0,none⟩=some (.iface 243 (.agg #[.pointer (some ⟨9,81,none⟩)]))/\∃ m,W.cell? ⟨6,0,none⟩=some (.int .i64 m)
theorem Tryz.Ja.below {W W':World} (h:Ja W) (hb:Below 9 W W'):Ja W':=by
 obtain⟨h1,m,h2⟩:=h;exact⟨(hb.cell (p:=⟨0,0,none⟩) (by show 0<9;decide)).trans h1,m,(hb.cell (p:=⟨6,0,none⟩) (by show 6<9;decide)).trans h2⟩
end Go.Proofs
namespace Go.Proofs
open Go.RowKit Go.Sort Go.Lib Go.Shelf Go.Maps
theorem Tryz.Vg (k:Int) (hk:k=0\/Mm k) (W:World) (h:Ja W):Calls prog 43 #[Jf k] W fun e w'=>e=.returned (.int .i64 k)/\Below W.heap.size W w':=by
 rcases hk with rfl | hk
 ·exact Xci W
 have hz:k≠0:=by rcases hk with rfl | rfl | rfl | rfl | rfl | rfl | rfl | rfl <;> decide
 rw [Vf hz];exact told k hk W h.1
theorem Spares.J2 {bs:List Nat} {W W':World} {base size n:Nat} {v:Value} {e:TypeId} {xs:List Value} (h:Spares bs W W') (hr:W.ownsRow base e size v n xs) (hn:∀ g,v.ownBlock=some g->g∉bs):W'.ownsRow base e size v n xs:=by
 obtain⟨h1,h2 | ⟨g,cap,cur,e1,e2,e3,e4⟩⟩:=hr
 ·exact⟨h1,.inl h2⟩
 subst e1;exact⟨h1,.inr ⟨g,cap,cur,rfl,e2,Spares.box (t:=e) (cs:=cur) h e3 (hn g rfl),e4⟩⟩
theorem Xm {W:World} {base size n:Nat} {v:Value} {e:TypeId} {xs:List Value} (hr:W.ownsRow base e size v n xs) {g:Nat} (hg:v.ownBlock=some g):base<=g/\∃ cur,BoxN W g e cur:=by
 obtain⟨h1,⟨e1,-⟩ | ⟨g',cap,cur,e1,e2,e3,e4⟩⟩:=hr
 ·subst e1;cases hg
 subst e1
 obtain rfl:g'=g:=by simpa [Value.ownBlock] using hg
 exact⟨e2,cur,e3⟩
def Tryz.foreign (t:TypeId):Bool:=t==108||t==105||t==69||t==72
def Tryz.X2 (W:World) (b:Nat):Prop:=9<=b/\∃ t cs,BoxN W b t cs/\foreign t=true
theorem Tryz.X2.ne {W:World} {b b':Nat} {t:TypeId} {cs:Array Value} (h:X2 W b) (hB:BoxN W b' t cs) (ht:foreign t=false):b'≠b:=by
 obtain⟨-,t',cs',h1,h2⟩:=h;exact hB.ne h1 (fun e=>by rw [e,h2] at ht;cases ht)
theorem Tryz.X2.ne_map {H:Type} {P:Program} {k:TypeId} {R:Value->Option (DataW H × List MemPlace)} {D:DataW H} {W:World} {b b' n:Nat} (h:X2 W b) (hm:W.ownsMap P k R b' n D):b'≠b:=by
 obtain⟨-,t',cs',h1,h2⟩:=h;exact BoxN.Xw h1 hm
structure SS where
 k:Blk
 vx:VX
 tm:Int
 s:VSt
 c:List UInt8
structure Tryz.Sys (B:Nat) (W:World) (hb rb:Nat) (σ:SS):Prop where
 host:BoxN W hb 78 #[.pointer (some ⟨σ.k.db,0,none⟩),.pointer (some ⟨rb,0,none⟩),.pointer (some ⟨σ.k.vb,0,none⟩)]
 wh:Tryz.Whole W σ.k σ.vx σ.tm σ.s σ.c (-1) (-1)
 err:Tryz.Ja W
 b9:9<=B
 hlow:B<=hb
 low:∀ b∈σ.k.turns,B<=b
 rvb:∃ a b,BoxN W rb 88 #[a,b]
 rlow:B<=rb
 vrv:σ.vx.rv=.iface 75 (.pointer (some ⟨rb,0,none⟩))
 vtk:σ.vx.tk=false
 due:W.ownsRow B 144 3 σ.vx.due 0 []
theorem Tryz.Whole.spared {W W':World} {k:Blk} {vx:VX} {tm:Int} {s:VSt} {c:List UInt8} {l f:Int} {bs:List Nat} (h:Whole W k vx tm s c l f) (hS:Spares bs W W') (h1:∀ b∈k.turns,b∉bs) (h2:k.jb∉bs) (h3:∀ b x,BoxN W b 9 #[x]->b∉bs) (h6:∀ b∈bs,6<=b):Whole W' k vx tm s c l f:=by
 obtain⟨fd,fn,hd,e1,e2⟩:=h.d;exact { h with v:=h.v.spared hS (h1 _ (by simp [Blk.turns])) (h1 _ (by simp [Blk.turns])) (h1 _ (by simp [Blk.turns])) h6,j:=hS.box h.j h2,d:=⟨fd,fn,hd.spared hS (h1 _ (by simp [Blk.turns])) (h1 _ (by simp [Blk.turns])) (h1 _ (by simp [Blk.turns])) (fun q hq=>h3 _ _ (hd.sd q hq)) (fun q hq=>h3 _ _ (hd.sn q hq)),e1,e2⟩ }
theorem Tryz.Whole.Xhl {W W':World} {k:Blk} {vx:VX} {tm:Int} {s:VSt} {c:List UInt8} {l f l' f':Int} (h:Whole W k vx tm s c l f) (hS:Spares [k.db] W W') (bD:BoxN W' k.db 100 #[.map (some k.md),.map (some k.mn),.slice none 0 0,.int .i64 l',.int .i64 f',.bool false]):Whole W' k vx tm s c l' f':=by
 obtain⟨fd,fn,hd,e1,e2⟩:=h.d;obtain⟨⟨a1,a2,a3⟩,a4,a5,a6,a7⟩:=h.nes;simp only [List.mem_cons,List.not_mem_nil,or_false,not_or,Blk.turns] at a1 a2 a3 a4;exact { h with v:=h.v.spared hS (by simpa using a1.1) (by simpa using a2.1) (by simpa using a3.1) (fun b hb=>by rw [List.mem_singleton.1 hb];have:=h.d9;omega),j:=hS.box h.j (by simpa using a4.2.2.2.1),d:=⟨fd,fn,hd.cells hS bD,e1,e2⟩ }
section
variable {B hb rb:Nat} {σ:SS} {W W':World}
theorem Tryz.Sys.nine (h:Sys B W hb rb σ):9<=W.heap.size:=h.wh.v.nine
theorem Tryz.Sys.other (h:Sys B W hb rb σ) {bs:List Nat} (hs:Spares bs W W') (hq:∀ b∈bs,X2 W b):Sys B W' hb rb σ:=by
 have hbx:∀ {b:Nat} {t:TypeId} {cs:Array Value},BoxN W b t cs->foreign t=false->b∉bs:=fun hB ht hm=>(hq _ hm).ne hB ht rfl
 obtain⟨fd,fn,hd,e1,e2⟩:=h.wh.d;obtain⟨n1,-,m1⟩:=h.wh.v.va.held.mapT;obtain⟨n2,-,m2⟩:=h.wh.v.va.held.mapL;obtain⟨n3,-,m3⟩:=hd.dm;obtain⟨n4,-,m4⟩:=hd.nm;obtain⟨ra,rc,hr⟩:=h.rvb
 have g9:∀ b∈bs,9<=b:=fun b hm=>(hq b hm).1
 have hB9:Below 9 W W':=hs.below h.nine g9;refine { h with host:=hs.box h.host (hbx h.host (by decide)),wh:=h.wh.spared hs (fun b hb=>?_) (hbx h.wh.j (by decide)) (fun b x hx=>hbx hx (by decide)) (fun b hb=>by have:=g9 b hb;omega),err:=h.err.below hB9,rvb:=⟨ra,rc,hs.box hr (hbx hr (by decide))⟩,due:=hs.J2 h.due (fun g hg=>?_) }
 ·simp only [Blk.turns,List.mem_cons,List.not_mem_nil,or_false] at hb
  rcases hb with rfl | rfl | rfl | rfl | rfl | rfl
  ·exact hbx h.wh.v.va.v (by decide)
  ·exact fun hm=>(hq _ hm).ne_map m1 rfl
  ·exact fun hm=>(hq _ hm).ne_map m2 rfl
  ·exact hbx hd.box (by decide)
  ·exact fun hm=>(hq _ hm).ne_map m3 rfl
  exact fun hm=>(hq _ hm).ne_map m4 rfl
 obtain⟨-,cur,hc⟩:=Xm h.due hg;exact hbx hc (by decide)
theorem Tryz.Sys.below (h:Sys B W hb rb σ) (hB:Below W.heap.size W W'):Sys B W' hb rb σ:=h.other (bs:=[]) (Spares.of_below hB) (by simp)
theorem Tryz.Sys.Xhm (h:Sys B W hb rb σ):∀ b∈σ.k.turns,¬ X2 W b:=fun b hb hF=>by
 obtain⟨fd,fn,hd,e1,e2⟩:=h.wh.d;obtain⟨n1,-,m1⟩:=h.wh.v.va.held.mapT;obtain⟨n2,-,m2⟩:=h.wh.v.va.held.mapL;obtain⟨n3,-,m3⟩:=hd.dm;obtain⟨n4,-,m4⟩:=hd.nm;simp only [Blk.turns,List.mem_cons,List.not_mem_nil,or_false] at hb
 rcases hb with rfl | rfl | rfl | rfl | rfl | rfl
 ·exact hF.ne h.wh.v.va.v (by decide) rfl
 ·exact hF.ne_map m1 rfl
 ·exact hF.ne_map m2 rfl
 ·exact hF.ne hd.box (by decide) rfl
 ·exact hF.ne_map m3 rfl
 exact hF.ne_map m4 rfl
theorem Tryz.Sys.Xfv (h:Sys B W hb rb σ):∀ b∈σ.k.turns,9<=b/\b≠hb/\b<W.heap.size:=fun b hbt=>by
 refine⟨h.wh.Xwd b hbt,?_,h.wh.lts b hbt⟩;obtain⟨fd,fn,hd,e1,e2⟩:=h.wh.d;obtain⟨n1,-,m1⟩:=h.wh.v.va.held.mapT;obtain⟨n2,-,m2⟩:=h.wh.v.va.held.mapL;obtain⟨n3,-,m3⟩:=hd.dm;obtain⟨n4,-,m4⟩:=hd.nm;simp only [Blk.turns,List.mem_cons,List.not_mem_nil,or_false] at hbt
 rcases hbt with rfl | rfl | rfl | rfl | rfl | rfl
 ·exact h.wh.v.va.v.ne h.host (by decide)
 ·exact BoxN.Xw h.host m1
 ·exact BoxN.Xw h.host m2
 ·exact hd.box.ne h.host (by decide)
 ·exact BoxN.Xw h.host m3
 exact BoxN.Xw h.host m4
end
def Tryz.Z9 (B:Nat) (W W':World):Prop:=∃ hs,Spares hs W W'/\∀ b∈hs,B<=b/\¬ X2 W b
theorem Tryz.Sys.sp {B hb rb:Nat} {σ:SS} {W W':World} (h:Sys B W hb rb σ) (hs:Spares σ.k.turns W W'):Z9 B W W':=⟨_,hs,fun b hb=>⟨h.low b hb,h.Xhm b hb⟩⟩
structure Tryz.Xf0 (P:World->Prop):Prop where
 other:∀ {W W':World} {bs:List Nat},P W->Spares bs W W'->(∀ b∈bs,Tryz.X2 W b)->P W'
theorem Tryz.Xf0.below {P:World->Prop} (h:Xf0 P) {W W':World} (hp:P W) (hb:Below W.heap.size W W'):P W':=h.other (bs:=[]) hp (Spares.of_below hb) (by simp)
theorem Tryz.Y9 (B hb rb:Nat) (σ:SS):Xf0 (fun W=>Sys B W hb rb σ):=⟨fun h hs hq=>Sys.other h hs hq⟩
theorem Tryz.Jz (B hb rb:Nat) (Q:SS->Prop):Xf0 (fun W=>∃ σ,Q σ/\Sys B W hb rb σ):=⟨fun⟨σ,hQ,h⟩ hs hq=>⟨σ,hQ,Sys.other h hs hq⟩⟩
theorem Tryz.Sys.Xhn {B hb rb:Nat} {σ:SS} {W:World} (h:Sys B W hb rb σ):∀ b∈σ.k.turns,b≠rb:=fun b hbt=>by
 obtain⟨ra,rc,hr⟩:=h.rvb;obtain⟨fd,fn,hd,e1,e2⟩:=h.wh.d;obtain⟨n1,-,m1⟩:=h.wh.v.va.held.mapT;obtain⟨n2,-,m2⟩:=h.wh.v.va.held.mapL;obtain⟨n3,-,m3⟩:=hd.dm;obtain⟨n4,-,m4⟩:=hd.nm;simp only [Blk.turns,List.mem_cons,List.not_mem_nil,or_false] at hbt
 rcases hbt with rfl | rfl | rfl | rfl | rfl | rfl
 ·exact h.wh.v.va.v.ne hr (by decide)
 ·exact BoxN.Xw hr m1
 ·exact BoxN.Xw hr m2
 ·exact hd.box.ne hr (by decide)
 ·exact BoxN.Xw hr m3
 exact BoxN.Xw hr m4
theorem Tryz.Sys.Xpi {B hb rb:Nat} {σ:SS} {W:World} (h:Sys B W hb rb σ):∀ b∈σ.k.turns,σ.vx.due.ownBlock≠some b:=fun b hbt hg=>by
 obtain⟨-,cur,hr⟩:=Xm h.due hg;obtain⟨fd,fn,hd,e1,e2⟩:=h.wh.d;obtain⟨n1,-,m1⟩:=h.wh.v.va.held.mapT;obtain⟨n2,-,m2⟩:=h.wh.v.va.held.mapL;obtain⟨n3,-,m3⟩:=hd.dm;obtain⟨n4,-,m4⟩:=hd.nm;simp only [Blk.turns,List.mem_cons,List.not_mem_nil,or_false] at hbt
 rcases hbt with rfl | rfl | rfl | rfl | rfl | rfl
 ·exact h.wh.v.va.v.ne hr (by decide) rfl
 ·exact BoxN.Xw hr m1 rfl
 ·exact BoxN.Xw hr m2 rfl
 ·exact hd.box.ne hr (by decide) rfl
 ·exact BoxN.Xw hr m3 rfl
 exact BoxN.Xw hr m4 rfl
theorem Tryz.six (B hb rb:Nat) (σ:SS) (w:World) (hS:Sys B w hb rb σ) (cc dd:Int) (er:Value) (k:Int)
  (hT:∀ W,Ja W->Calls prog 43 #[er] W fun e w'=>e=.returned (.int .i64 k)/\Below W.heap.size W w') (Q:SS->Prop) :
  (∀(id:List UInt8) (s:Value),(∀ W,w.heap.size<=W.heap.size->Whole W σ.k σ.vx σ.tm σ.s σ.c (-1) (-1)->Calls prog 49 #[.pointer (some ⟨σ.k.vb,0,none⟩),.string ⟨id.toArray⟩] W fun e w'=>e=.returned (.tuple #[s,er])/\(∃ σ' l f,(Q σ'/\σ'.k=σ.k/\σ'.vx=σ.vx)/\Whole w' σ.k σ'.vx σ'.tm σ'.s σ'.c l f)/\Spares σ.k.turns W w')->Calls prog 25 #[.pointer (some ⟨hb,0,none⟩),.string ⟨id.toArray⟩,Yo (-1) (-1) cc dd] w fun e w'=>e=.returned (.tuple #[s,.int .i64 k])/\(∃ σ',(Q σ'/\σ'.k=σ.k/\σ'.vx=σ.vx)/\Sys B w' hb rb σ')/\Spares σ.k.turns w w') /\
  (∀(id pth:List UInt8) (ttl most:Int) (s:Value),(∀ W,w.heap.size<=W.heap.size->Whole W σ.k σ.vx σ.tm σ.s σ.c (-1) (-1)->Calls prog 41 #[.pointer (some ⟨σ.k.vb,0,none⟩),.string ⟨id.toArray⟩,.string ⟨pth.toArray⟩,.int .u64 ttl,.int .u64 most] W fun e w'=>e=.returned (.tuple #[s,er])/\(∃ σ' l f,(Q σ'/\σ'.k=σ.k/\σ'.vx=σ.vx)/\Whole w' σ.k σ'.vx σ'.tm σ'.s σ'.c l f)/\Spares σ.k.turns W w')->Calls prog 18 #[.pointer (some ⟨hb,0,none⟩),.string ⟨id.toArray⟩,.string ⟨pth.toArray⟩,.int .u64 ttl,.int .u64 most,Yo (-1) (-1) cc dd] w fun e w'=>e=.returned (.tuple #[s,.int .i64 k])/\(∃ σ',(Q σ'/\σ'.k=σ.k/\σ'.vx=σ.vx)/\Sys B w' hb rb σ')/\Spares σ.k.turns w w') /\
  (∀(id:List UInt8) (ttl:Int) (s:Value),(∀ W,w.heap.size<=W.heap.size->Whole W σ.k σ.vx σ.tm σ.s σ.c (-1) (-1)->Calls prog 44 #[.pointer (some ⟨σ.k.vb,0,none⟩),.string ⟨id.toArray⟩,.int .u64 ttl] W fun e w'=>e=.returned (.tuple #[s,er])/\(∃ σ' l f,(Q σ'/\σ'.k=σ.k/\σ'.vx=σ.vx)/\Whole w' σ.k σ'.vx σ'.tm σ'.s σ'.c l f)/\Spares σ.k.turns W w')->Calls prog 20 #[.pointer (some ⟨hb,0,none⟩),.string ⟨id.toArray⟩,.int .u64 ttl,Yo (-1) (-1) cc dd] w fun e w'=>e=.returned (.tuple #[s,.int .i64 k])/\(∃ σ',(Q σ'/\σ'.k=σ.k/\σ'.vx=σ.vx)/\Sys B w' hb rb σ')/\Spares σ.k.turns w w') /\
  (∀(id:List UInt8),(∀ W,w.heap.size<=W.heap.size->Whole W σ.k σ.vx σ.tm σ.s σ.c (-1) (-1)->Calls prog 51 #[.pointer (some ⟨σ.k.vb,0,none⟩),.string ⟨id.toArray⟩] W fun e w'=>e=.returned (er)/\(∃ σ' l f,(Q σ'/\σ'.k=σ.k/\σ'.vx=σ.vx)/\Whole w' σ.k σ'.vx σ'.tm σ'.s σ'.c l f)/\Spares σ.k.turns W w')->Calls prog 28 #[.pointer (some ⟨hb,0,none⟩),.string ⟨id.toArray⟩,Yo (-1) (-1) cc dd] w fun e w'=>e=.returned (.int .i64 k)/\(∃ σ',(Q σ'/\σ'.k=σ.k/\σ'.vx=σ.vx)/\Sys B w' hb rb σ')/\Spares σ.k.turns w w') /\
  (∀(id:List UInt8) (s:Value),(∀ W,w.heap.size<=W.heap.size->Whole W σ.k σ.vx σ.tm σ.s σ.c (-1) (-1)->Calls prog 52 #[.pointer (some ⟨σ.k.vb,0,none⟩),.string ⟨id.toArray⟩] W fun e w'=>e=.returned (.tuple #[s,er])/\(∃ σ' l f,(Q σ'/\σ'.k=σ.k/\σ'.vx=σ.vx)/\Whole w' σ.k σ'.vx σ'.tm σ'.s σ'.c l f)/\Spares σ.k.turns W w')->Calls prog 29 #[.pointer (some ⟨hb,0,none⟩),.string ⟨id.toArray⟩,Yo (-1) (-1) cc dd] w fun e w'=>e=.returned (.tuple #[s,.int .i64 k])/\(∃ σ',(Q σ'/\σ'.k=σ.k/\σ'.vx=σ.vx)/\Sys B w' hb rb σ')/\Spares σ.k.turns w w') /\
  (∀(id:List UInt8),(∀ W,w.heap.size<=W.heap.size->Whole W σ.k σ.vx σ.tm σ.s σ.c (-1) (-1)->Calls prog 50 #[.pointer (some ⟨σ.k.vb,0,none⟩),.string ⟨id.toArray⟩] W fun e w'=>e=.returned (er)/\(∃ σ' l f,(Q σ'/\σ'.k=σ.k/\σ'.vx=σ.vx)/\Whole w' σ.k σ'.vx σ'.tm σ'.s σ'.c l f)/\Spares σ.k.turns W w')->Calls prog 26 #[.pointer (some ⟨hb,0,none⟩),.string ⟨id.toArray⟩,Yo (-1) (-1) cc dd] w fun e w'=>e=.returned (.int .i64 k)/\(∃ σ',(Q σ'/\σ'.k=σ.k/\σ'.vx=σ.vx)/\Sys B w' hb rb σ')/\Spares σ.k.turns w w'):=by
 obtain⟨fd,fn,hD,e1,e2⟩:=hS.wh.d;have hH:=hS.host;have hbs:=hS.Xfv
 have hdb:σ.k.db∈σ.k.turns:=by simp [Blk.turns]
 have hne:=hH.ne hD.box (by decide);have lH:=hH.lt;have lD:=hD.box.lt;have hB0:Below w.heap.size w (w.alloc (.cells #[.int .i64 (-1),.int .i64 (-1),.int .i64 cc,.int .i64 dd] 29)):=(Below.refl _ w).alloc (Nat.le_refl _) _;have bF:=BoxN.new w 29 #[.int .i64 (-1),.int .i64 (-1),.int .i64 cc,.int .i64 dd];have h2:=hH.cell 2 (v:=.pointer (some ⟨σ.k.vb,0,none⟩)) rfl;have hBf:=before hb σ.k.db _ _ _ _ _ _ _ _ (-1) (-1) cc dd _ (hH.alloc (.cells #[.int .i64 (-1),.int .i64 (-1),.int .i64 cc,.int .i64 dd] 29)) (hD.box.alloc _);have hW0:=hS.wh.below hB0;have h9:=hS.nine;unfold Yo at hBf ⊢;refine⟨?_,?_,?_,?_,?_,?_⟩
 focus
  intro id s hC;go_enter func25,ntmps25
 rotate_left
 focus
  intro id pth ttl most s hC;go_enter func18,ntmps18
 rotate_left
 focus
  intro id ttl s hC;go_enter func20,ntmps20
 rotate_left
 focus
  intro id hC;go_enter func28,ntmps28
 rotate_left
 focus
  intro id s hC;go_enter func29,ntmps29
 rotate_left
 focus
  intro id hC;go_enter func26,ntmps26
 rotate_left
 all_goals
  go_wp2_with (first
   | (go_at_call 40;refine hBf.mono ?_;rintro e w1 ⟨rfl,bD1,hg1⟩;have bH1:=(hH.alloc (.cells #[.int .i64 (-1),.int .i64 (-1),.int .i64 cc,.int .i64 dd] 29)).kept hg1 (by intro e;injection e with e;exact hne e);have bF1:=bF.kept hg1 (by intro e;injection e with e;omega);have hW1:=hW0.Xhl (Spares.X6 hg1 (by simp)) bD1;have hC1:=hC w1 (by have:=hg1.size;simp at this;omega) hW1;have h21:=bH1.cell 2 (v:=.pointer (some ⟨σ.k.vb,0,none⟩)) rfl;have f0:=bF1.cell 0 (v:=.int .i64 (-1)) rfl;have f1:=bF1.cell 1 (v:=.int .i64 (-1)) rfl;have f2:=bF1.cell 2 (v:=.int .i64 cc) rfl;have f3:=bF1.cell 3 (v:=.int .i64 dd) rfl;have HG1:=Xb hg1;clear hg1)
   | ((first | go_at_call 49 | go_at_call 41 | go_at_call 44 | go_at_call 51 | go_at_call 52 | go_at_call 50);refine hC1.mono ?_;rintro e w2 ⟨rfl,⟨σ',l',f',hQ,hW2⟩,hs2⟩;have bH2:=hs2.box bH1 (fun hx=>(hbs _ hx).2.1 rfl);obtain⟨fd2,fn2,hD2,-,-⟩:=hW2.d;have bF2:=hs2.box bF1 (fun hx=>by have:=(hbs _ hx).2.2;omega);have g0:=bF2.cell 0 (v:=.int .i64 (-1)) rfl;have g1:=bF2.cell 1 (v:=.int .i64 (-1)) rfl;have g2:=bF2.cell 2 (v:=.int .i64 cc) rfl;have g3:=bF2.cell 3 (v:=.int .i64 dd) rfl;have hBa:=after hb σ.k.db _ _ _ _ _ _ _ (-1) (-1) cc dd _ bH2 hD2.box;unfold Yo at hBa;have HS2:=Xb hs2;clear hs2)
   | (go_at_call 42;refine hBa.mono ?_;rintro e w3 ⟨rfl,bD3,hg3⟩;have hsp3:Spares σ.k.turns w w3:=(((Spares.of_below hB0).trans (Spares.X6 (Xa HG1) hdb)).trans (Xa HS2)).trans (Spares.X6 hg3 hdb);have hE3:Ja w3:=hS.err.below (hsp3.below h9 (fun b hb=>(hbs b hb).1));have HG3:=Xb hg3;clear hg3;have HSP:=Xb hsp3;clear hsp3)
   | (go_at_call 43;refine(hT _ hE3).mono ?_;rintro e w4 ⟨rfl,hb4⟩))
  have hsp3:=Xa HSP;have hg3:=Xa HG3;have bH3:=bH2.kept hg3 (by intro e;injection e with e;exact hne e);have hW3:=hW2.Xhl (Spares.X6 hg3 (by simp)) bD3;obtain⟨hQ1,hk,hx⟩:=hQ;obtain⟨ra,rc,hr⟩:=hS.rvb
  have hSy:Sys B w3 hb rb σ':=by
   exact { host:=by rw [hk];exact bH3,wh:=by rw [hk];exact hW3,err:=hE3,b9:=hS.b9,hlow:=hS.hlow,low:=by rw [hk];exact hS.low,rvb:=⟨ra,rc,hsp3.box hr (fun hm=>Sys.Xhn hS rb hm rfl)⟩,rlow:=hS.rlow,vrv:=by rw [hx];exact hS.vrv,vtk:=by rw [hx];exact hS.vtk,due:=by rw [hx];exact hsp3.J2 hS.due (fun g hg hm=>Sys.Xpi hS g hm hg) }
  first | go_ret2 | go_ret
  exact⟨rfl,⟨σ',⟨hQ1,hk,hx⟩,hSy.below hb4⟩,hsp3.trans (Spares.of_below hb4)⟩
theorem Tryz.Xwe (hb db rb vb:Nat) (w:World) (hH:BoxN w hb 78 #[.pointer (some ⟨db,0,none⟩),.pointer (some ⟨rb,0,none⟩),.pointer (some ⟨vb,0,none⟩)]) (id pth:List UInt8) (r:Bool)
  (hC:Calls prog 47 #[.pointer (some ⟨vb,0,none⟩),.string ⟨id.toArray⟩,.string ⟨pth.toArray⟩] w fun e w'=>e=.returned (.bool r)/\Below w.heap.size w w') :
  Calls prog 23 #[.pointer (some ⟨hb,0,none⟩),.string ⟨id.toArray⟩,.string ⟨pth.toArray⟩] w fun e w'=>e=.returned (.bool r)/\Below w.heap.size w w':=by
 have h2:=hH.cell 2 (v:=.pointer (some ⟨vb,0,none⟩)) rfl;go_enter func23,ntmps23
 go_wp2_with (go_at_call 47;refine hC.mono ?_;rintro e w1 ⟨rfl,hb1⟩)
 go_ret;exact⟨rfl,hb1⟩
structure Xn where
 kind:Int
 s:List UInt8
 t:List UInt8
 a:Int
 b:Int
 f:Int
 fl:Int
 fu:Int
 ke:Int
 pa:Int
def Xn.cells (x:Xn):Array Value:=#[.int .i64 x.kind,.string ⟨x.s.toArray⟩,.string ⟨x.t.toArray⟩,.int .u64 x.a,.int .u64 x.b,.int .u64 x.f,.int .i64 x.fl,.int .i64 x.fu,.int .i64 x.ke,.int .i64 x.pa]
theorem Tryz.Xk.lower {B B':Nat} {W:World} {vb g cap:Nat} {L:List ThingD} {tm tn ln:Int} (h:Xk B W vb g cap L tm tn ln) (hB:B'<=B):Xk B' W vb g cap L tm tn ln:=by
 refine⟨h.v,?_,h.lim,h.num,h.ofs⟩;obtain⟨h1,⟨e1,-⟩ | ⟨g',cap',cur,e1,e2,e3⟩⟩:=h.row
 ·cases e1
 exact⟨h1,.inr ⟨g',cap',cur,e1,by omega,e3⟩⟩
theorem Tryz.Xk.Xbn {B:Nat} {W:World} {vb g cap:Nat} {L:List ThingD} {tm tn ln:Int} (h:Xk B W vb g cap L tm tn ln):∃ cur,BoxN W g 105 cur:=by
 obtain⟨h1,⟨e1,-⟩ | ⟨g',cap',cur,e1,e2,e3,-⟩⟩:=h.row
 ·cases e1
 cases e1;exact⟨cur,e3⟩
theorem Tryz.Xk.Xpf {B:Nat} {W:World} {vb g cap:Nat} {L:List ThingD} {tm tn ln:Int} (h:Xk B W vb g cap L tm tn ln):B<=g:=by
 obtain⟨h1,⟨e1,-⟩ | ⟨g',cap',cur,e1,e2,e3,-⟩⟩:=h.row
 ·cases e1
 cases e1;exact e2
theorem Tryz.Xk.ne {B:Nat} {W:World} {vb g cap:Nat} {L:List ThingD} {tm tn ln:Int} (h:Xk B W vb g cap L tm tn ln):vb≠g:=by
 obtain⟨cur,hc⟩:=h.Xbn;exact h.v.ne hc (by decide)
theorem Tryz.Xk.Zz {B:Nat} {W W':World} {vb g cap:Nat} {L:List ThingD} {tm tn ln:Int} {bs:List Nat} (h:Xk B W vb g cap L tm tn ln) (hs:Spares bs W W') (h1:vb∉bs) (h2:g∉bs):Xk B W' vb g cap L tm tn ln:=
 ⟨hs.box h.v h1,hs.row h.row h2,h.lim,h.num,h.ofs⟩
theorem Tryz.Xk.foreign {B:Nat} {W:World} {vb g cap:Nat} {L:List ThingD} {tm tn ln:Int} (h:Xk B W vb g cap L tm tn ln) (hB:9<=B) (hv:9<=vb):X2 W vb/\X2 W g:=by
 obtain⟨cur,hc⟩:=h.Xbn;have:=h.Xpf;exact⟨⟨hv,_,_,h.v,by decide⟩,⟨by omega,_,_,hc,by decide⟩⟩
theorem Tryz.X2.of {W:World} {b:Nat} {t:TypeId} {cs:Array Value} (h:BoxN W b t cs) (hb:9<=b) (ht:foreign t=true):X2 W b:=⟨hb,_,_,h,ht⟩
abbrev Uv (wb hb sb:Nat) (st:Xn) (W:World):Prop:=
 (W.cell? ⟨wb,0,none⟩=some (.pointer (some ⟨hb,0,none⟩))/\W.cell? ⟨sb,1,none⟩=some (.string ⟨st.s.toArray⟩)/\W.cell? ⟨sb,2,none⟩=some (.string ⟨st.t.toArray⟩)/\W.cell? ⟨sb,3,none⟩=some (.int .u64 st.a)/\W.cell? ⟨sb,4,none⟩=some (.int .u64 st.b)) /\
 (W.cell? ⟨sb,6,none⟩=some (.int .i64 st.fl)/\W.cell? ⟨sb,7,none⟩=some (.int .i64 st.fu)/\W.cell? ⟨sb,8,none⟩=some (.int .i64 st.ke)/\W.cell? ⟨sb,9,none⟩=some (.int .i64 st.pa))
theorem Uv.mk' {wb hb sb:Nat} {st:Xn} {W:World} {t t':TypeId} {c1 c2 c3 c4:Value} (hW:BoxN W wb t #[.pointer (some ⟨hb,0,none⟩),c1,c2,c3,c4]) (hS:BoxN W sb t' st.cells):Uv wb hb sb st W:=
 ⟨⟨hW.cell 0 rfl,hS.cell 1 rfl,hS.cell 2 rfl,hS.cell 3 rfl,hS.cell 4 rfl⟩,hS.cell 6 rfl,hS.cell 7 rfl,hS.cell 8 rfl,hS.cell 9 rfl⟩
theorem Uv.drew {wb hb sb:Nat} {st:Xn} {W:World} (h:Uv wb hb sb st W):Uv wb hb sb st W.drew:=h
structure Tryz.After (w:World) (B wb hb:Nat) (tm:Int) (HP':World->Prop) (Q2:List ThingD->Int->Int->Prop) (w':World):Prop where
 hp:HP' w'
 ex:∃ L tr lr nb g cap,Q2 L tr lr/\Tryz.Xk B w' nb g cap L tm tr lr/\B<=nb/\BoxN w' wb 69 #[.pointer (some ⟨hb,0,none⟩),.pointer (some ⟨nb,0,none⟩),.pointer none,.bool false,.bool false]
 bel:Below B w w'
theorem Tryz.Xjq (B wb hb ra g cap:Nat) (tm:Int) (L:List ThingD) (tr lr:Int) (w:World) (HP HP':World->Prop) (lo1:Xf0 HP) (lo2:Xf0 HP') (hP:HP w) (hR:Xk B w ra g cap L tm tr lr) (hpos:0<L.length) (hW:BoxN w wb 69 #[.pointer (some ⟨hb,0,none⟩),.pointer (some ⟨ra,0,none⟩),.pointer none,.bool false,.bool false]) (hB:B<=w.heap.size) (hB9:9<=B) (hwb:B<=wb) (hra:B<=ra)
  (ss tt:List UInt8) (aa bb ff fl fu ke pa:Int) (k:Int) (rs:List UInt8) (hkr:k≠0->rs = []) (Q2:List ThingD->Int->Int->Prop)
  (kd:Int) (hk:(kd=1/\(∀ W,w.heap.size<=W.heap.size->HP W->Calls prog 25 #[.pointer (some ⟨hb,0,none⟩),.string ⟨ss.toArray⟩,.agg #[.int .i64 fl,.int .i64 fu,.int .i64 ke,.int .i64 pa]] W fun e w'=>e=.returned (.tuple #[.string ⟨rs.toArray⟩,.int .i64 k])/\HP' w'/\Z9 B W w')/\∀ B' W nb g' cap',B'<=W.heap.size->B'<=nb->Xk B' W nb g' cap' L tm tr lr->Calls prog 109 #[.pointer (some ⟨nb,0,none⟩),.string ⟨ss.toArray⟩] W fun e w'=>∃ g2 cap2 L2 tr2 lr2,Q2 L2 tr2 lr2/\e=.returned (.tuple #[.string ⟨rs.toArray⟩,.int .i64 k])/\Xk B' w' nb g2 cap2 L2 tm tr2 lr2/\Spares [nb,g'] W w')\/(kd=2/\(∀ W,w.heap.size<=W.heap.size->HP W->Calls prog 18 #[.pointer (some ⟨hb,0,none⟩),.string ⟨ss.toArray⟩,.string ⟨tt.toArray⟩,.int .u64 aa,.int .u64 bb,.agg #[.int .i64 fl,.int .i64 fu,.int .i64 ke,.int .i64 pa]] W fun e w'=>e=.returned (.tuple #[.string ⟨rs.toArray⟩,.int .i64 k])/\HP' w'/\Z9 B W w')/\∀ B' W nb g' cap',B'<=W.heap.size->B'<=nb->Xk B' W nb g' cap' L tm tr lr->Calls prog 111 #[.pointer (some ⟨nb,0,none⟩),.string ⟨ss.toArray⟩,.string ⟨tt.toArray⟩,.int .u64 aa,.int .u64 bb] W fun e w'=>∃ g2 cap2 L2 tr2 lr2,Q2 L2 tr2 lr2/\e=.returned (.tuple #[.string ⟨rs.toArray⟩,.int .i64 k])/\Xk B' w' nb g2 cap2 L2 tm tr2 lr2/\Spares [nb,g'] W w')) :
  Calls prog 62 #[.pointer (some ⟨wb,0,none⟩),.agg (Xn.cells ⟨kd,ss,tt,aa,bb,ff,fl,fu,ke,pa⟩)] w fun e w'=>e=.returned (.bool true)/\After w B wb hb tm HP' Q2 w':=by
 rcases hk with⟨hk,hH,hC⟩ | ⟨hk,hH,hC⟩
 focus
  have hk1:(kd==1)=true:=by rw [hk];rfl
  clear hk
 rotate_left
 focus
  have hk1:(kd==1)=false:=by rw [hk];rfl
  have hk2:(kd==2)=true:=by rw [hk];rfl
  clear hk
 rotate_left
 all_goals
  have lW:=hW.lt;have hb0:Below w.heap.size w (w.alloc (.cells (Xn.cells ⟨kd,ss,tt,aa,bb,ff,fl,fu,ke,pa⟩) 72)):=(Below.refl _ w).alloc (Nat.le_refl _) _;have bS:=BoxN.new w 72 (Xn.cells ⟨kd,ss,tt,aa,bb,ff,fl,fu,ke,pa⟩);have bW0:=hW.alloc (.cells (Xn.cells ⟨kd,ss,tt,aa,bb,ff,fl,fu,ke,pa⟩) 72);have hCp:=Xgm B ra g cap L tm tr lr _ (hR.below hb0) hpos;rw [World.size_alloc] at hCp;have w1c:=bW0.cell 1 (v:=.pointer (some ⟨ra,0,none⟩)) rfl;have s0c:=bS.cell 0 (v:=.int .i64 kd) rfl
  obtain⟨kz,hkz⟩:∃ kz:Bool,(k != 0)=kz:=⟨_,rfl⟩
  have hkz':(k==0) = !kz:=by rw [<- hkz];simp [bne]
  have Hkz:Hid (kz=true->rs = []):=Xb (fun e=>hkr (by rw [e] at hkz;simpa using hkz));clear hkr;simp only [Xn.cells] at *;cases kz
  all_goals
   try (have hzz:=Xa Hkz rfl)
   try subst hzz
   go_enter func62,ntmps62
   go_wp2_with (first
    | (go_at_call 106;refine hCp.mono ?_;rintro e w1 ⟨g',cap',rfl,hR1,hb1⟩;have bS1:=bS.below hb1 (by simp);have s01:=bS1.cell 0 (v:=.int .i64 kd) rfl))
   have hb1':Below w.heap.size w w1:=hb0.trans (hb1.mono (by omega));have bW1:=bW0.below hb1 (by omega);have hP1:Uv wb hb w.heap.size ⟨kd,ss,tt,aa,bb,ff,fl,fu,ke,pa⟩ w1:=Uv.mk' bW1 bS1;have hh1:HP w1.drew:=lo1.below hP hb1'.drew;have hg'l:=hR1.glt;have hg'b:w.heap.size+1<=g':=(hR1.row.lt g' rfl).1;have hH1:=hH w1.drew (by have:=hb1'.size;exact this) hh1;have hRo1:Xk B w1.drew ra g cap L tm tr lr:=hR.below hb1'.drew;have hRn1:Xk (w.heap.size+1) w1.drew (w.heap.size+1) g' cap' L tm tr lr:=hR1.below (Below.refl _ _).drew
   have fW:X2 w1.drew wb:=⟨by omega,_,_,bW1,by decide⟩
   have fS:X2 w1.drew w.heap.size:=⟨by omega,_,_,bS1,by decide⟩
   obtain⟨fA,fG⟩:=hRo1.foreign hB9 (by omega);obtain⟨fN,fH⟩:=hRn1.foreign (by omega) (by omega);simp only [Uv] at hP1
   go_region_held3 (Uv wb hb w.heap.size ⟨kd,ss,tt,aa,bb,ff,fl,fu,ke,pa⟩) (first
    | with_reducible exact Uv.drew hP1
    | with_reducible assumption) (first | ((first | go_at_call 25 | go_at_call 18);refine hH1.mono ?_;rintro e w2 ⟨rfl,hp2,hs,hsp2,hso⟩;have bW2:=Spares.box (W:=w1.drew) hsp2 bW1 (fun hx=>(hso _ hx).2 fW);have bS2:=Spares.box (W:=w1.drew) hsp2 bS1 (fun hx=>(hso _ hx).2 fS);have hP2:=Uv.mk' (st:=⟨kd,ss,tt,aa,bb,ff,fl,fu,ke,pa⟩) bW2 bS2))
   have hRn2:Xk (w.heap.size+1) w2 (w.heap.size+1) g' cap' L tm tr lr:=hRn1.Zz hsp2 (fun hx=>(hso _ hx).2 fN) (fun hx=>(hso _ hx).2 fH);have hC2:=hC (w.heap.size+1) w2 (w.heap.size+1) g' cap' (by have:=hRn2.v.lt;omega) (Nat.le_refl _) hRn2;obtain⟨⟨q0,q1,q2,q3,q4⟩,q6,q7,q8,q9⟩:=hP2;have hgd:=hRn2.Xbn;have lra:=hR.v.lt;have lgg:=hR.glt;have hRo2:Xk B w2 ra g cap L tm tr lr:=hRo1.Zz hsp2 (fun hx=>(hso _ hx).2 fA) (fun hx=>(hso _ hx).2 fG);have hbB2:Below B w w2:=(hb1'.mono hB).drew.trans (hsp2.below (by have:=hb1'.size;exact Nat.le_trans hB this) (fun b hb=>(hso b hb).1));have HBB:=Xb hbB2;clear hP1 hCp hH hC hH1 w1c s0c s01 hsp2 hso hbB2
   go_wp2_with (first
    | ((first | go_at_call 109 | go_at_call 111);refine hC2.mono ?_;rintro e w3 ⟨g2,cap2,L2,tr2,lr2,hQ2,rfl,hR3,hsp3⟩;have bW3:=hsp3.box bW2 (fun hx=>by rcases List.mem_cons.1 hx with e | e;omega;have:=List.mem_singleton.1 e;omega);have hTu:=turned wb (w.heap.size+1) k true _ _ _ _ w3 bW3)
    | (go_at_call 110;refine hTu.mono ?_;rintro e w4 ⟨rfl,rfl⟩))
   go_ret;refine⟨by first | rfl | simp,?_⟩;obtain⟨cur,hcur⟩:=hgd
   have hp3:HP' w3:=lo2.other hp2 hsp3 (fun b hb=>by
    rcases List.mem_cons.1 hb with rfl | hb
    ·exact X2.of hRn2.v (by omega) (by decide)
    rw [List.mem_singleton.1 hb];exact X2.of hcur (by omega) (by decide))
   have hsp4:Spares [wb] w3 (w3.setCell ⟨wb,1,none⟩ (.pointer (some ⟨w.heap.size+1,0,none⟩))):=(Spares.of_below (Below.refl _ _)).set (by simp) _ _
   have nW:wb≠g2:=fun e=>by obtain⟨c,hc⟩:=hR3.Xbn;exact bW3.ne hc (by decide) e
   have hp4:HP' (w3.setCell ⟨wb,1,none⟩ (.pointer (some ⟨w.heap.size+1,0,none⟩))):=lo2.other hp3 hsp4 (fun b hb=>by rw [List.mem_singleton.1 hb];exact X2.of bW3 (by omega) (by decide));have hR4:=(Xk.Zz hR3 hsp4 (by simp;omega) (by simpa using Ne.symm nW)).lower (B':=B) (by omega)
   have hB3:Below B w w3:=(Xa HBB).trans (hsp3.below (by have:=hRn2.v.lt;omega) (fun b hb=>by
    rcases List.mem_cons.1 hb with rfl | hb
    ·omega
    rw [List.mem_singleton.1 hb];omega))
   exact⟨hp4,⟨L2,tr2,lr2,_,g2,cap2,hQ2,hR4,by omega,bW3.set 1 _⟩,hB3.setCell (p:=⟨wb,1,none⟩) hwb _⟩
theorem Mt {s:List UInt8} (h:∀ c∈s,c.toNat≠10/\c.toNat≠32/\c.toNat≠59):Uk s:=
 ⟨fun hm=>(h _ hm).1 rfl,fun hm=>(h _ hm).2.1 rfl,fun hm=>(h _ hm).2.2 rfl⟩
theorem Xmp {s:List UInt8} (h:pathI s=true):Uk s:=by
 have hf:s.foldl Zk (some false)=some true:=by
  unfold pathI at h;simp at h;exact h.1
 have key:∀(s:List UInt8) (o b:Bool),s.foldl Zk (some o)=some b->∀ c∈s,c.toNat≠10/\c.toNat≠32/\c.toNat≠59:=fun s=>by
  induction s with
  | nil=>intro _ _ _ c hc;cases hc
  | cons x s ih =>
   intro o b hs c hc;rw [List.foldl_cons] at hs
   cases hx:Zk (some o) x with
   | none=>rw [hx,Xbf] at hs;cases hs
   | some o' =>
    rw [hx] at hs
    rcases List.mem_cons.1 hc with rfl | hc
    ·unfold Zk at hx
     simp only at hx
     split at hx
     ·omega
     split at hx
     ·rename_i hn
      unfold V7 at hn;simp at hn;omega
     cases hx
    exact ih o' b hs c hc
 exact Mt (key s false true hf)
theorem Xpt {c:UInt8} {o b:Bool} (h:Zk (some o) c=some b):c.toNat<128:=by
 by_cases h47:c.toNat=47
 ·omega
 simp only [Zk,if_neg h47] at h
 by_cases hn:V7 c=true
 ·simp [V7] at hn
  omega
 rw [if_neg hn] at h;cases h
theorem Xdb:∀(s:List UInt8) (o b:Bool),s.foldl Zk (some o)=some b->∀ c∈s,c.toNat<128
 | [],_,_,_,_,h=>by cases h
 | a :: s,o,b,hf,c,hc=>by
  rw [List.foldl_cons] at hf
  cases hp:Zk (some o) a with
  | none=>rw [hp,Xbf] at hf;cases hf
  | some o' =>
   rcases List.mem_cons.1 hc with rfl | hc
   ·exact Xpt hp
   rw [hp] at hf;exact Xdb s o' b hf c hc
theorem Xs1 {s:List UInt8} (h:pathI s=true):s.length<=24/\Xpp s:=by
 have hc:=Xmp h;unfold pathI at h;rw [Bool.and_eq_true] at h;exact⟨by simpa using h.2,Xdb s false true (by simpa using h.1),hc⟩
section
variable {vb mt ml:Nat} {vx:VX} {tm tn ln:Int} {tks:List Xd} {lks:List Xc} {L:List ThingD}
theorem Xoo {tm:Int} {t:Xd} (h:(thT t).state tm=1):t.pd=false:=by
 cases hp:t.pd
 ·rfl
 simp [ThingD.state,thT,hp] at h
theorem Vs {tm:Int} {l:Xc}:(thL l).state tm=1↔(!l.pd&&decide (tm<l.at_))=true:=by
 cases hp:l.pd
 ·simp [ThingD.state,thL,hp]
 simp [ThingD.state,thL,hp]
theorem Tryz.Xne (w:World) (hV:Xq w vb mt ml vx tm tn ln tks lks) (hl:Rel tks lks L) (id:List UInt8) :
  Calls prog 83 #[.pointer (some ⟨vb,0,none⟩),nmV (parseN id)] w fun e w'=>e=.returned (.bool (decide (0<=liveI tm id true L)))/\Below w.heap.size w w':=by
 rcases Zt tm id true L with⟨i,t,ht,hid,htk,hst,hli⟩ | hli
 ·have hm:=List.mem_of_getElem? ht
  obtain⟨a,ha,rfl⟩:=hl.Zj hm htk;have hp:=Xal (L:=L) hid htk (hl.num hV.ok hm) hli;rw [hp,hli];have h:=Xed vb mt ml vx tm tn ln tks lks w hV a ha;rw [Xoo hst] at h;refine h.mono ?_;rintro e w' ⟨rfl,hb⟩;exact⟨by simp,hb⟩
 rw [hli]
 have hno:∀ a∈tks,a.pd=false->parseN id≠(1,(a.n:Int)):=fun a ha hp=>hl.Xhg hV.ok hli (hl.Vh ha) rfl (by simp [ThingD.state,thT,hp])
 by_cases he:∃ a∈tks,parseN id=(1,(a.n:Int))
 ·obtain⟨a,ha,hp⟩:=he
  have hpd:a.pd=true:=by
   cases h:a.pd
   ·exact absurd hp (hno a ha h)
   rfl
  rw [hp];have h:=Xed vb mt ml vx tm tn ln tks lks w hV a ha;rw [hpd] at h;refine h.mono ?_;rintro e w' ⟨rfl,hb⟩;exact⟨by simp,hb⟩
 have h:=Xjn vb mt ml vx tm tn ln tks lks w hV (parseN id) (Xam id) (fun a ha e=>he ⟨a,ha,e⟩);refine h.mono ?_;rintro e w' ⟨rfl,hb⟩;exact⟨by simp,hb⟩
theorem Xdt (ok:Xx tks lks) (hl:Rel tks lks L) {id:List UInt8} {i:Nat} {t:ThingD} (ht:L[i]? = some t) (hid:t.id=id) (htk:t.token=false) (hst:t.state tm=1) (hli:liveI tm id false L=i) :
  ∃(k:Nat) (l:Xc),lks[k]? = some l/\thL l=t/\parseN id=(2,(l.n:Int))/\(!l.pd&&decide (tm<l.at_))=true/\∀ a:Int,Rel tks (lks.set k { l with at_:=a }) (L.set i { t with at_:=a }):=by
 obtain⟨k,l,hk,rfl,hr⟩:=hl.Xsd ht htk;exact⟨k,l,hk,rfl,Xal (L:=L) hid htk (hl.num ok (List.mem_of_getElem? ht)) hli,Vs.1 hst,hr⟩
theorem Tryz.Xbs (hok:Xx tks lks) (hl:Rel tks lks L) (id:List UInt8) (hli:liveI tm id false L = -1) :
  ∃(ak au at_ tr:Int) (pd:Bool) (lp:List UInt8) (la:Int),∀ w,Xq w vb mt ml vx tm tn ln tks lks->Calls prog 71 #[.pointer (some ⟨vb,0,none⟩),nmV (parseN id)] w fun e w'=>e=.returned (.tuple #[.agg #[.int .i64 ak,.int .u64 au,.int .u64 at_,.int .i64 tr,.bool pd,.string ⟨lp.toArray⟩,.int .u64 la],.bool false])/\Below w.heap.size w w':=by
 have hno:∀ a∈lks,(!a.pd&&decide (tm<a.at_))=true->parseN id≠(2,(a.n:Int)):=fun a ha hp=>hl.Xhg hok hli (hl.Xcl ha) rfl (Vs.2 hp)
 by_cases he:∃ a∈lks,parseN id=(2,(a.n:Int))
 ·obtain⟨a,ha,hp⟩:=he
  refine⟨a.ak,a.au,a.at_,a.tr,a.pd,a.pth,a.last,fun w hV=>?_⟩;have h:=Vm vb mt ml vx tm tn ln tks lks w hV a ha
  have hf:(!a.pd&&decide (tm<a.at_))=false:=by
   cases hb:(!a.pd&&decide (tm<a.at_))
   ·rfl
   exact absurd hp (hno a ha hb)
  rw [hf] at h;rw [hp];exact h
 refine⟨0,0,0,0,false,[],0,fun w hV=>Xe6 vb mt ml vx tm tn ln tks lks w hV (parseN id) (Xam id) (fun a ha e=>he ⟨a,ha,e⟩)⟩
end
end Go.Proofs
namespace Go.Proofs
open Go.RowKit Go.Sort
structure Xe where
 at_:Int
 k:Int
 n:Int
def Xe.cells (t:Xe):Array Value:=#[.int .u64 t.at_,.int .i64 t.k,.int .u64 t.n]
def cmpT (x y:Xe):Int:=orI (cmpI x.at_ y.at_) (orI (cmpI y.k x.k) (cmpI x.n y.n))
theorem Tryz.Xvg (a b c:Int) (blk:Nat) (w:World) (h0:w.cell? ⟨blk,0,none⟩=some (.int .i64 a)) (h1:w.cell? ⟨blk,1,none⟩=some (.int .i64 b)) (h2:w.cell? ⟨blk,2,none⟩=some (.int .i64 c)) :
  Calls prog 333 #[.slice (some ⟨blk,0,none⟩) 3 3] w fun e w'=>e=.returned (.int .i64 (orI a (orI b c)))/\w'=w:=by
 obtain⟨r,hr⟩:∃ r,orI a (orI b c)=r:=⟨_,rfl⟩
 rw [hr]
 by_cases ha:a=0
 ·have ha':(a != 0)=false:=by simp [ha]
  by_cases hb:b=0
  ·have hb':(b != 0)=false:=by simp [hb]
   by_cases hc:c=0
   focus
    have hc':(c != 0)=false:=by simp [hc]
    have hfin:Hid (r=0):=Xb (by rw [<- hr];simp [orI,ha,hb,hc]);clear ha hb hc hr;go_enter func333,ntmps333;go_wp2;refine wp_loop_rounds 4 ?_;rw [rounds_succ];go_wp2
   rotate_left
   focus
    have hc':(c != 0)=true:=by simp [hc]
    have hfin:Hid (r=c):=Xb (by rw [<- hr];simp [orI,ha,hb]);clear ha hb hc hr;go_enter func333,ntmps333;go_wp2;refine wp_loop_rounds 4 ?_
   rotate_left
   all_goals
    rw [rounds_succ];go_wp2;rw [rounds_succ];go_wp2;rw [rounds_succ];go_wp2;go_ret;exact⟨Yw (Xa hfin).symm,rfl⟩
  have hb':(b != 0)=true:=by simp [hb]
  have hfin:Hid (r=b):=Xb (by rw [<- hr];simp [orI,ha,hb]);clear ha hb hr;go_enter func333,ntmps333;go_wp2;refine wp_loop_rounds 4 ?_;rw [rounds_succ];go_wp2;rw [rounds_succ];go_wp2;go_ret;exact⟨Yw (Xa hfin).symm,rfl⟩
 have ha':(a != 0)=true:=by simp [ha]
 have hfin:Hid (r=a):=Xb (by rw [<- hr];simp [orI,ha]);clear ha hr;go_enter func333,ntmps333;go_wp2;refine wp_loop_rounds 4 ?_;rw [rounds_succ];go_wp2;go_ret;exact⟨Yw (Xa hfin).symm,rfl⟩
structure Tryz.Xrb (B:Nat) (x1 x2 x3 y1 y2 y3:Int) (W:World):Prop where
 a0:W.cell? ⟨B,0,none⟩=some (.int .u64 x1)
 a1:W.cell? ⟨B,1,none⟩=some (.int .i64 x2)
 a2:W.cell? ⟨B,2,none⟩=some (.int .u64 x3)
 b0:W.cell? ⟨B+1,0,none⟩=some (.int .u64 y1)
 b1:W.cell? ⟨B+1,1,none⟩=some (.int .i64 y2)
 b2:W.cell? ⟨B+1,2,none⟩=some (.int .u64 y3)
theorem Tryz.Xrb.alloc {B:Nat} {x1 x2 x3 y1 y2 y3:Int} {W:World} (h:Xrb B x1 x2 x3 y1 y2 y3 W) (o:Obj):Xrb B x1 x2 x3 y1 y2 y3 (W.alloc o):=
 ⟨(World.cell?_alloc_some _ _ _ (by rw [h.a0];rfl)).trans h.a0,(World.cell?_alloc_some _ _ _ (by rw [h.a1];rfl)).trans h.a1,(World.cell?_alloc_some _ _ _ (by rw [h.a2];rfl)).trans h.a2,
  (World.cell?_alloc_some _ _ _ (by rw [h.b0];rfl)).trans h.b0,(World.cell?_alloc_some _ _ _ (by rw [h.b1];rfl)).trans h.b1,(World.cell?_alloc_some _ _ _ (by rw [h.b2];rfl)).trans h.b2⟩
theorem Tryz.Xt4 (x y:Xe) (w:World):Calls prog 337 #[.agg x.cells,.agg y.cells] w fun e w'=>e=.returned (.int .i64 (cmpT x y))/\Xp w w':=by
 have hN:Hid (cmpT x y=orI (cmpI x.at_ y.at_) (orI (cmpI y.k x.k) (cmpI x.n y.n))):=Xb rfl
 have ha:=fun W=>Xlf x.at_ y.at_ W
 have hk:=fun W=>Xni y.k x.k W
 have hu:=fun W=>Xlf x.n y.n W
 generalize cmpI x.at_ y.at_=a at *;generalize cmpI y.k x.k=b at *;generalize cmpI x.n y.n=c at *;generalize cmpT x y=r at *;obtain⟨x1,x2,x3⟩:=x;obtain⟨y1,y2,y3⟩:=y;simp only [Xe.cells] at *;go_enter func337,ntmps337
 go_wp2_with fail
 have hP:Xrb w.heap.size x1 x2 x3 y1 y2 y3 ((w.alloc (.cells #[.int .u64 x1,.int .i64 x2,.int .u64 x3] 144)).alloc (.cells #[.int .u64 y1,.int .i64 y2,.int .u64 y3] 144)).drew:=by
  have b1:=(BoxN.new w 144 #[.int .u64 x1,.int .i64 x2,.int .u64 x3]).alloc (.cells #[.int .u64 y1,.int .i64 y2,.int .u64 y3] 144);have b2:=BoxN.new (w.alloc (.cells #[.int .u64 x1,.int .i64 x2,.int .u64 x3] 144)) 144 #[.int .u64 y1,.int .i64 y2,.int .u64 y3];rw [World.size_alloc] at b2;exact⟨b1.cell 0 rfl,b1.cell 1 rfl,b1.cell 2 rfl,b2.cell 0 rfl,b2.cell 1 rfl,b2.cell 2 rfl⟩
 refine wp_region_held_drew (S:=Xrb w.heap.size x1 x2 x3 y1 y2 y3) (by kernel_rfl) hP (fun hS0=>?_);refine Xt 0 ?v0 rfl ?y0 hS0 ?_
 case y0=>(rintro w ⟨q0,q1,q2,q3,q4,q5⟩;go_simp;try with_reducible rfl)
 refine Xt 1 ?v1 rfl ?y1 hS0 ?_
 case y1=>(rintro w ⟨q0,q1,q2,q3,q4,q5⟩;go_simp;try with_reducible rfl)
 refine Xt 2 ?v2 rfl ?y2 hS0 ?_
 case y2=>(rintro w ⟨q0,q1,q2,q3,q4,q5⟩;go_simp;try with_reducible rfl)
 refine Xt 3 ?v3 rfl ?y3 hS0 ?_
 case y3=>(rintro w ⟨q0,q1,q2,q3,q4,q5⟩;go_simp;try with_reducible rfl)
 refine Xt 5 ?v5 rfl ?y5 hS0 ?_
 case y5=>(rintro w ⟨q0,q1,q2,q3,q4,q5⟩;go_simp;try with_reducible rfl)
 refine Xt 6 ?v6 rfl ?y6 hS0 ?_
 case y6=>(rintro w ⟨q0,q1,q2,q3,q4,q5⟩;go_simp;try with_reducible rfl)
 refine Xt 7 ?v7 rfl ?y7 hS0 ?_
 case y7=>(rintro w ⟨q0,q1,q2,q3,q4,q5⟩;go_simp;try with_reducible rfl)
 refine Xt 8 ?v8 rfl ?y8 hS0 ?_
 case y8=>(rintro w ⟨q0,q1,q2,q3,q4,q5⟩;go_simp;try with_reducible rfl)
 refine Xt 9 ?v9 rfl ?y9 hS0 ?_
 case y9=>(rintro w ⟨q0,q1,q2,q3,q4,q5⟩;go_simp;try with_reducible rfl)
 refine Xt 10 ?v10 rfl ?y10 hS0 ?_
 case y10=>(rintro w ⟨q0,q1,q2,q3,q4,q5⟩;go_simp;try with_reducible rfl)
 refine Xt 12 ?v12 rfl ?y12 hS0 ?_
 case y12=>(rintro w ⟨q0,q1,q2,q3,q4,q5⟩;go_simp;try with_reducible rfl)
 refine Xt 13 ?v13 rfl ?y13 hS0 ?_
 case y13=>(rintro w ⟨q0,q1,q2,q3,q4,q5⟩;go_simp;try with_reducible rfl)
 refine Xt 14 ?v14 rfl ?y14 hS0 ?_
 case y14=>(rintro w ⟨q0,q1,q2,q3,q4,q5⟩;go_simp;try with_reducible rfl)
 refine Xt 15 ?v15 rfl ?y15 hS0 ?_
 case y15=>(rintro w ⟨q0,q1,q2,q3,q4,q5⟩;go_simp;try with_reducible rfl)
 refine Xt 16 ?v16 rfl ?y16 hS0 ?_
 case y16=>(rintro w ⟨q0,q1,q2,q3,q4,q5⟩;go_simp;try with_reducible rfl)
 refine Xt 17 ?v17 rfl ?y17 hS0 ?_
 case y17=>(rintro w ⟨q0,q1,q2,q3,q4,q5⟩;go_simp;try with_reducible rfl)
 refine Xh 4 rfl fun K hK=>?_;go_simp;refine(ha _).mono ?_;rintro e w5 ⟨rfl,rfl⟩;refine hK.out _ _ hS0 (fun _=>?_);clear hK K;refine Xh 11 rfl fun K hK=>?_;go_simp;refine(hk _).mono ?_;rintro e w5 ⟨rfl,rfl⟩;refine hK.out _ _ hS0 (fun _=>?_);clear hK K;refine Xh 18 rfl fun K hK=>?_;go_simp;refine(hu _).mono ?_;rintro e w5 ⟨rfl,rfl⟩;refine hK.out _ _ hS0 (fun _=>?_);clear hK K;refine Xh 19 rfl fun K hK=>?_;go_simp;refine hK.out _ _ (hS0.alloc _) (fun hS1=>?_);clear hK K;refine Xh 20 rfl fun K hK=>?_;go_simp;refine(Xvg a b c _ _ ?_ ?_ ?_).mono ?_
 ·go_simp
 ·go_simp
 ·go_simp
 rintro e w5 ⟨rfl,rfl⟩;refine hK.out _ _ hS1 (fun _=>?_);clear hK K;refine Xh 21 rfl fun K hK=>?_;go_simp;refine hK.out _ _ hS1 (fun _=>?_);clear hK K;refine wpAnyH_done (by kernel_rfl) ?_ _;go_wp2;go_ret;exact⟨Yw (Xa hN).symm,((((Xp.refl w).alloc _).alloc _).drew.alloc _)⟩
theorem Tryz.Xjh (x:Xe) (w:World):Sem.run prog (method 517 144 (.agg x.cells) "Compare") w=.ok (337,.agg x.cells) w:=by kernel_rfl
end Go.Proofs
