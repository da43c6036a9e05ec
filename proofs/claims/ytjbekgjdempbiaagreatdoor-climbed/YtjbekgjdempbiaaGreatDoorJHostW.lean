import Derived.Test.YtjbekgjdempbiaaGreatDoorJAsW
import Derived.Test.YtjbekgjdempbiaaGreatDoorJStr
import Derived.Test.YtjbekgjdempbiaaGreatDoorJRefB
set_option maxRecDepth 100000
set_option maxHeartbeats 8000000
namespace Go.Proofs
open Go.RowKit Go.Extern.Stop Go.Stop Go.Extern
theorem Tryz.isSame (k:Int) (hk:ErrK k) (w:World) :
  Calls prog 70 #[.iface 33 (.int .i64 k),.iface 33 (.int .i64 k)] w fun e w'=>e=.returned (.bool true)∧w'=w:=by
 have h10:=@run_callFunc_extern prog 127 _ ReflectliteType.typeOf func127 (by kernel_rfl) (by kernel_rfl) (by kernel_rfl) (by kernel_rfl);have h32:=@run_callFunc_extern prog 343 _ (ReflectliteType.method fun t=>do Rtype.noPackHeld "Comparable" t;pure (.bool (← typeInfo t).comparable)) func343 (by kernel_rfl) (by kernel_rfl) (by kernel_rfl) (by kernel_rfl);have tT:=rfTypeOf
 have cT:∀ W,((ReflectliteType.method fun t=>do Rtype.noPackHeld "Comparable" t;Functor.map (fun a=>Value.bool a.comparable) (typeInfo t)) #[.agg #[.pointer (some ⟨9,33,none⟩)]]).run prog W=.ok (.bool true) W:=fun W=>by kernel_rfl
 have mR:=rfComparM;have heq:=rfEql k hk;clear hk;go_enter func70,ntmps70;go_wp2;refine wp_loop_rounds 1 ?_;rw [rounds_succ];go_wp2;go_ret;exact⟨rfl,rfl⟩
theorem Tryz.told_nil (w:World):Calls prog 43 #[.nilIface] w fun e w'=>e=.returned (.int .i64 0)∧Below w.heap.size w w':=by
 go_enter func43,ntmps43;go_wp2;go_ret;exact⟨rfl,(Below.refl _ _).alloc (Nat.le_refl _) _⟩
theorem Tryz.told (k:Int) (hk:ErrK k) (w:World) (hg:w.cell? ⟨0,0,none⟩=some (.iface 243 (.agg #[.pointer (some ⟨9,81,none⟩)]))) :
  Calls prog 43 #[.iface 33 (.int .i64 k)] w fun e w'=>e=.returned (.int .i64 k)∧Below w.heap.size w w':=by
 have b0:=BoxN.new w 33 #[.int .i64 0];have hlt:0<w.heap.size:=World.block_lt_of_cell? _ _ hg
 have hg1:(w.alloc (.cells #[.int .i64 0] 33)).cell? ⟨0,0,none⟩=some (.iface 243 (.agg #[.pointer (some ⟨9,81,none⟩)])):=by
  rw [World.cell?_alloc_lt _ _ ⟨0,0,none⟩ hlt];exact hg
 have hA:=asHit k ⟨w.heap.size,0,none⟩ (.int .i64 0) _ hg1 (b0.cell 0 rfl) (b0.frozen 0)
 have hI:=fun W=>isSame k hk W
 clear hk hg;go_enter func43,ntmps43
 go_wp2_with (first
  | (go_at_call 69;refine hA.mono ?_;rintro e w1 ⟨rfl,rfl⟩)
  | (go_at_call 70;refine(hI _).mono ?_;rintro e w2 ⟨rfl,rfl⟩))
 go_ret;exact⟨rfl,(((((Below.refl _ w).alloc (Nat.le_refl _) _).alloc (by simp) _).alloc (by simp;omega) _).alloc (by simp;omega) _).alloc (by simp;omega) _⟩
end Go.Proofs
namespace Go.Proofs
open Go.RowKit Go.Sort Go.Lib Go.Shelf
def Tryz.ErrT (W:World):Prop:=W.cell? ⟨0,0,none⟩=some (.iface 243 (.agg #[.pointer (some ⟨9,81,none⟩)]))∧∃ m,W.cell? ⟨6,0,none⟩=some (.int .i64 m)
theorem Tryz.ErrT.below {W W':World} (h:ErrT W) (hb:Below 9 W W'):ErrT W':=by
 obtain⟨h1,m,h2⟩:=h;exact⟨(hb.cell (p:=⟨0,0,none⟩) (by show 0<9;decide)).trans h1,m,(hb.cell (p:=⟨6,0,none⟩) (by show 6<9;decide)).trans h2⟩
end Go.Proofs
namespace Go.Proofs
open Go.RowKit Go.Sort Go.Lib Go.Shelf Go.Maps
theorem Tryz.toldK (k:Int) (hk:k=0∨ErrK k) (W:World) (h:ErrT W):Calls prog 43 #[errV k] W fun e w'=>e=.returned (.int .i64 k)∧Below W.heap.size W w':=by
 rcases hk with rfl | hk
 ·exact told_nil W
 ·have hz:k≠0:=by rcases hk with rfl | rfl | rfl | rfl | rfl | rfl | rfl | rfl <;> decide
  rw [errV_nz hz];exact told k hk W h.1
theorem Spares.row' {bs:List Nat} {W W':World} {base size n:Nat} {v:Value} {e:TypeId} {xs:List Value} (h:Spares bs W W') (hr:W.ownsRow base e size v n xs) (hn:∀ g,v.ownBlock=some g→g∉bs):W'.ownsRow base e size v n xs:=by
 obtain⟨h1,h2 | ⟨g,cap,cur,e1,e2,e3,e4⟩⟩:=hr
 ·exact⟨h1,.inl h2⟩
 ·subst e1
  exact⟨h1,.inr ⟨g,cap,cur,rfl,e2,Spares.box (t:=e) (cs:=cur) h e3 (hn g rfl),e4⟩⟩
theorem row_box {W:World} {base size n:Nat} {v:Value} {e:TypeId} {xs:List Value} (hr:W.ownsRow base e size v n xs) {g:Nat} (hg:v.ownBlock=some g):base≤g∧∃ cur,BoxN W g e cur:=by
 obtain⟨h1,⟨e1,-⟩ | ⟨g',cap,cur,e1,e2,e3,e4⟩⟩:=hr
 ·subst e1;cases hg
 ·subst e1
  obtain rfl:g'=g:=by simpa [Value.ownBlock] using hg
  exact⟨e2,cur,e3⟩
def Tryz.foreign (t:TypeId):Bool:=t==108||t==105||t==69||t==72
def Tryz.Foreign (W:World) (b:Nat):Prop:=9≤b∧∃ t cs,BoxN W b t cs∧foreign t=true
theorem Tryz.Foreign.ne {W:World} {b b':Nat} {t:TypeId} {cs:Array Value} (h:Foreign W b) (hB:BoxN W b' t cs) (ht:foreign t=false):b'≠b:=by
 obtain⟨-,t',cs',h1,h2⟩:=h;exact hB.ne h1 (fun e=>by rw [e,h2] at ht;cases ht)
theorem Tryz.Foreign.ne_map {H:Type} {P:Program} {k:TypeId} {R:Value→Option (DataW H × List MemPlace)} {D:DataW H} {W:World} {b b' n:Nat} (h:Foreign W b) (hm:W.ownsMap P k R b' n D):b'≠b:=by
 obtain⟨-,t',cs',h1,h2⟩:=h;exact BoxN.ne_map' h1 hm
structure SS where
 k:Blk
 vx:VX
 tm:Int
 s:VSt
 c:List UInt8
structure Tryz.Sys (B:Nat) (W:World) (hb rb:Nat) (σ:SS):Prop where
 host:BoxN W hb 78 #[.pointer (some ⟨σ.k.db,0,none⟩),.pointer (some ⟨rb,0,none⟩),.pointer (some ⟨σ.k.vb,0,none⟩)]
 wh:Tryz.Whole W σ.k σ.vx σ.tm σ.s σ.c (-1) (-1)
 err:Tryz.ErrT W
 b9:9≤B
 hlow:B≤hb
 low:∀ b∈σ.k.turns,B≤b
 rvb:∃ a b,BoxN W rb 88 #[a,b]
 rlow:B≤rb
 vrv:σ.vx.rv=.iface 75 (.pointer (some ⟨rb,0,none⟩))
 vtk:σ.vx.tk=false
 due:W.ownsRow B 144 3 σ.vx.due 0 []
theorem Tryz.Whole.spared {W W':World} {k:Blk} {vx:VX} {tm:Int} {s:VSt} {c:List UInt8} {l f:Int} {bs:List Nat} (h:Whole W k vx tm s c l f) (hS:Spares bs W W') (h1:∀ b∈k.turns,b∉bs) (h2:k.jb∉bs) (h3:∀ b x,BoxN W b 9 #[x]→b∉bs) (h6:∀ b∈bs,6≤b):Whole W' k vx tm s c l f:=by
 obtain⟨fd,fn,hd,e1,e2⟩:=h.d;exact { h with v:=h.v.spared hS (h1 _ (by simp [Blk.turns])) (h1 _ (by simp [Blk.turns])) (h1 _ (by simp [Blk.turns])) h6,j:=hS.box h.j h2,d:=⟨fd,fn,hd.spared hS (h1 _ (by simp [Blk.turns])) (h1 _ (by simp [Blk.turns])) (h1 _ (by simp [Blk.turns])) (fun q hq=>h3 _ _ (hd.sd q hq)) (fun q hq=>h3 _ _ (hd.sn q hq)),e1,e2⟩ }
theorem Tryz.Whole.setLF {W W':World} {k:Blk} {vx:VX} {tm:Int} {s:VSt} {c:List UInt8} {l f l' f':Int} (h:Whole W k vx tm s c l f) (hS:Spares [k.db] W W') (bD:BoxN W' k.db 100 #[.map (some k.md),.map (some k.mn),.slice none 0 0,.int .i64 l',.int .i64 f',.bool false]):Whole W' k vx tm s c l' f':=by
 obtain⟨fd,fn,hd,e1,e2⟩:=h.d;obtain⟨⟨a1,a2,a3⟩,a4,a5,a6,a7⟩:=h.nes;simp only [List.mem_cons,List.not_mem_nil,or_false,not_or,Blk.turns] at a1 a2 a3 a4;exact { h with v:=h.v.spared hS (by simpa using a1.1) (by simpa using a2.1) (by simpa using a3.1) (fun b hb=>by rw [List.mem_singleton.1 hb];have:=h.d9;omega),j:=hS.box h.j (by simpa using a4.2.2.2.1),d:=⟨fd,fn,hd.cells hS bD,e1,e2⟩ }
section
variable {B hb rb:Nat} {σ:SS} {W W':World}
theorem Tryz.Sys.nine (h:Sys B W hb rb σ):9≤W.heap.size:=h.wh.v.nine
theorem Tryz.Sys.other (h:Sys B W hb rb σ) {bs:List Nat} (hs:Spares bs W W') (hq:∀ b∈bs,Foreign W b):Sys B W' hb rb σ:=by
 have hbx:∀ {b:Nat} {t:TypeId} {cs:Array Value},BoxN W b t cs→foreign t=false→b∉bs:=fun hB ht hm=>(hq _ hm).ne hB ht rfl
 obtain⟨fd,fn,hd,e1,e2⟩:=h.wh.d;obtain⟨n1,-,m1⟩:=h.wh.v.va.held.mapT;obtain⟨n2,-,m2⟩:=h.wh.v.va.held.mapL;obtain⟨n3,-,m3⟩:=hd.dm;obtain⟨n4,-,m4⟩:=hd.nm;obtain⟨ra,rc,hr⟩:=h.rvb
 have g9:∀ b∈bs,9≤b:=fun b hm=>(hq b hm).1
 have hB9:Below 9 W W':=hs.below h.nine g9;refine { h with host:=hs.box h.host (hbx h.host (by decide)),wh:=h.wh.spared hs (fun b hb=>?_) (hbx h.wh.j (by decide)) (fun b x hx=>hbx hx (by decide)) (fun b hb=>by have:=g9 b hb;omega),err:=h.err.below hB9,rvb:=⟨ra,rc,hs.box hr (hbx hr (by decide))⟩,due:=hs.row' h.due (fun g hg=>?_) }
 ·simp only [Blk.turns,List.mem_cons,List.not_mem_nil,or_false] at hb
  rcases hb with rfl | rfl | rfl | rfl | rfl | rfl
  ·exact hbx h.wh.v.va.v (by decide)
  ·exact fun hm=>(hq _ hm).ne_map m1 rfl
  ·exact fun hm=>(hq _ hm).ne_map m2 rfl
  ·exact hbx hd.box (by decide)
  ·exact fun hm=>(hq _ hm).ne_map m3 rfl
  ·exact fun hm=>(hq _ hm).ne_map m4 rfl
 ·obtain⟨-,cur,hc⟩:=row_box h.due hg
  exact hbx hc (by decide)
theorem Tryz.Sys.below (h:Sys B W hb rb σ) (hB:Below W.heap.size W W'):Sys B W' hb rb σ:=h.other (bs:=[]) (Spares.of_below hB) (by simp)
theorem Tryz.Sys.turns_host (h:Sys B W hb rb σ):∀ b∈σ.k.turns,9≤b∧b≠hb∧b<W.heap.size:=fun b hbt=>by
 refine⟨h.wh.turns9 b hbt,?_,h.wh.lts b hbt⟩;obtain⟨fd,fn,hd,e1,e2⟩:=h.wh.d;obtain⟨n1,-,m1⟩:=h.wh.v.va.held.mapT;obtain⟨n2,-,m2⟩:=h.wh.v.va.held.mapL;obtain⟨n3,-,m3⟩:=hd.dm;obtain⟨n4,-,m4⟩:=hd.nm;simp only [Blk.turns,List.mem_cons,List.not_mem_nil,or_false] at hbt
 rcases hbt with rfl | rfl | rfl | rfl | rfl | rfl
 ·exact h.wh.v.va.v.ne h.host (by decide)
 ·exact BoxN.ne_map' h.host m1
 ·exact BoxN.ne_map' h.host m2
 ·exact hd.box.ne h.host (by decide)
 ·exact BoxN.ne_map' h.host m3
 ·exact BoxN.ne_map' h.host m4
end
def Tryz.HostSp (B:Nat) (W W':World):Prop:=∃ hs,Spares hs W W'∧∀ b∈hs,B≤b∧¬ Foreign W b
structure Tryz.Lone (P:World→Prop):Prop where
 other:∀ {W W':World} {bs:List Nat},P W→Spares bs W W'→(∀ b∈bs,Tryz.Foreign W b)→P W'
theorem Tryz.Lone.below {P:World→Prop} (h:Lone P) {W W':World} (hp:P W) (hb:Below W.heap.size W W'):P W':=h.other (bs:=[]) hp (Spares.of_below hb) (by simp)
theorem Tryz.Sys.turns_rev {B hb rb:Nat} {σ:SS} {W:World} (h:Sys B W hb rb σ):∀ b∈σ.k.turns,b≠rb:=fun b hbt=>by
 obtain⟨ra,rc,hr⟩:=h.rvb;obtain⟨fd,fn,hd,e1,e2⟩:=h.wh.d;obtain⟨n1,-,m1⟩:=h.wh.v.va.held.mapT;obtain⟨n2,-,m2⟩:=h.wh.v.va.held.mapL;obtain⟨n3,-,m3⟩:=hd.dm;obtain⟨n4,-,m4⟩:=hd.nm;simp only [Blk.turns,List.mem_cons,List.not_mem_nil,or_false] at hbt
 rcases hbt with rfl | rfl | rfl | rfl | rfl | rfl
 ·exact h.wh.v.va.v.ne hr (by decide)
 ·exact BoxN.ne_map' hr m1
 ·exact BoxN.ne_map' hr m2
 ·exact hd.box.ne hr (by decide)
 ·exact BoxN.ne_map' hr m3
 ·exact BoxN.ne_map' hr m4
theorem Tryz.Sys.turns_due {B hb rb:Nat} {σ:SS} {W:World} (h:Sys B W hb rb σ):∀ b∈σ.k.turns,σ.vx.due.ownBlock≠some b:=fun b hbt hg=>by
 obtain⟨-,cur,hr⟩:=row_box h.due hg;obtain⟨fd,fn,hd,e1,e2⟩:=h.wh.d;obtain⟨n1,-,m1⟩:=h.wh.v.va.held.mapT;obtain⟨n2,-,m2⟩:=h.wh.v.va.held.mapL;obtain⟨n3,-,m3⟩:=hd.dm;obtain⟨n4,-,m4⟩:=hd.nm;simp only [Blk.turns,List.mem_cons,List.not_mem_nil,or_false] at hbt
 rcases hbt with rfl | rfl | rfl | rfl | rfl | rfl
 ·exact h.wh.v.va.v.ne hr (by decide) rfl
 ·exact BoxN.ne_map' hr m1 rfl
 ·exact BoxN.ne_map' hr m2 rfl
 ·exact hd.box.ne hr (by decide) rfl
 ·exact BoxN.ne_map' hr m3 rfl
 ·exact BoxN.ne_map' hr m4 rfl
theorem Tryz.hCreate (B hb rb:Nat) (σ:SS) (w:World) (hS:Sys B w hb rb σ) (id:List UInt8) (cc dd:Int) (s:Value) (er:Value) (k:Int)
  (hT:∀ W,ErrT W→Calls prog 43 #[er] W fun e w'=>e=.returned (.int .i64 k)∧Below W.heap.size W w') (Q:SS→Prop)
  (hC:∀ W,w.heap.size≤W.heap.size→Whole W σ.k σ.vx σ.tm σ.s σ.c (-1) (-1)→Calls prog 49 #[.pointer (some ⟨σ.k.vb,0,none⟩),.string ⟨id.toArray⟩] W fun e w'=>e=.returned (.tuple #[s,er])∧(∃ σ' l f,(Q σ'∧σ'.k=σ.k∧σ'.vx=σ.vx)∧Whole w' σ.k σ'.vx σ'.tm σ'.s σ'.c l f)∧Spares σ.k.turns W w') :
  Calls prog 25 #[.pointer (some ⟨hb,0,none⟩),.string ⟨id.toArray⟩,fallV (-1) (-1) cc dd] w fun e w'=>e=.returned (.tuple #[s,.int .i64 k])∧(∃ σ',(Q σ'∧σ'.k=σ.k∧σ'.vx=σ.vx)∧Sys B w' hb rb σ')∧Spares σ.k.turns w w':=by
 obtain⟨fd,fn,hD,e1,e2⟩:=hS.wh.d;have hH:=hS.host;have hbs:=hS.turns_host
 have hdb:σ.k.db∈σ.k.turns:=by simp [Blk.turns]
 have hne:=hH.ne hD.box (by decide);have lH:=hH.lt;have lD:=hD.box.lt;have hB0:Below w.heap.size w (w.alloc (.cells #[.int .i64 (-1),.int .i64 (-1),.int .i64 cc,.int .i64 dd] 29)):=(Below.refl _ w).alloc (Nat.le_refl _) _;have bF:=BoxN.new w 29 #[.int .i64 (-1),.int .i64 (-1),.int .i64 cc,.int .i64 dd];have h2:=hH.cell 2 (v:=.pointer (some ⟨σ.k.vb,0,none⟩)) rfl;have hBf:=before hb σ.k.db _ _ _ _ _ _ _ _ (-1) (-1) cc dd _ (hH.alloc (.cells #[.int .i64 (-1),.int .i64 (-1),.int .i64 cc,.int .i64 dd] 29)) (hD.box.alloc _);have hW0:=hS.wh.below hB0;have h9:=hS.nine;unfold fallV at hBf ⊢;go_enter func25,ntmps25
 go_wp2_with (first
  | (go_at_call 40;refine hBf.mono ?_;rintro e w1 ⟨rfl,bD1,hg1⟩;have bH1:=(hH.alloc (.cells #[.int .i64 (-1),.int .i64 (-1),.int .i64 cc,.int .i64 dd] 29)).kept hg1 (by intro e;injection e with e;exact hne e);have bF1:=bF.kept hg1 (by intro e;injection e with e;omega);have hW1:=hW0.setLF (Spares.of_grown hg1 (by simp)) bD1;have hC1:=hC w1 (by have:=hg1.size;simp at this;omega) hW1;have h21:=bH1.cell 2 (v:=.pointer (some ⟨σ.k.vb,0,none⟩)) rfl;have f0:=bF1.cell 0 (v:=.int .i64 (-1)) rfl;have f1:=bF1.cell 1 (v:=.int .i64 (-1)) rfl;have f2:=bF1.cell 2 (v:=.int .i64 cc) rfl;have f3:=bF1.cell 3 (v:=.int .i64 dd) rfl;have HG1:=hid_intro hg1;clear hg1)
  | (go_at_call 49;refine hC1.mono ?_;rintro e w2 ⟨rfl,⟨σ',l',f',hQ,hW2⟩,hs2⟩;have bH2:=hs2.box bH1 (fun hx=>(hbs _ hx).2.1 rfl);obtain⟨fd2,fn2,hD2,-,-⟩:=hW2.d;have bF2:=hs2.box bF1 (fun hx=>by have:=(hbs _ hx).2.2;omega);have g0:=bF2.cell 0 (v:=.int .i64 (-1)) rfl;have g1:=bF2.cell 1 (v:=.int .i64 (-1)) rfl;have g2:=bF2.cell 2 (v:=.int .i64 cc) rfl;have g3:=bF2.cell 3 (v:=.int .i64 dd) rfl;have hBa:=after hb σ.k.db _ _ _ _ _ _ _ (-1) (-1) cc dd _ bH2 hD2.box;unfold fallV at hBa;have HS2:=hid_intro hs2;clear hs2)
  | (go_at_call 42;refine hBa.mono ?_;rintro e w3 ⟨rfl,bD3,hg3⟩;have hsp3:Spares σ.k.turns w w3:=(((Spares.of_below hB0).trans (Spares.of_grown (hid_elim HG1) hdb)).trans (hid_elim HS2)).trans (Spares.of_grown hg3 hdb);have hE3:ErrT w3:=hS.err.below (hsp3.below h9 (fun b hb=>(hbs b hb).1));have HG3:=hid_intro hg3;clear hg3;have HSP:=hid_intro hsp3;clear hsp3)
  | (go_at_call 43;refine(hT _ hE3).mono ?_;rintro e w4 ⟨rfl,hb4⟩))
 have hsp3:=hid_elim HSP;have hg3:=hid_elim HG3;have bH3:=bH2.kept hg3 (by intro e;injection e with e;exact hne e);have hW3:=hW2.setLF (Spares.of_grown hg3 (by simp)) bD3;obtain⟨hQ1,hk,hx⟩:=hQ;obtain⟨ra,rc,hr⟩:=hS.rvb
 have hSy:Sys B w3 hb rb σ':=by
  exact { host:=by rw [hk];exact bH3,wh:=by rw [hk];exact hW3,err:=hE3,b9:=hS.b9,hlow:=hS.hlow,low:=by rw [hk];exact hS.low,rvb:=⟨ra,rc,hsp3.box hr (fun hm=>Sys.turns_rev hS rb hm rfl)⟩,rlow:=hS.rlow,vrv:=by rw [hx];exact hS.vrv,vtk:=by rw [hx];exact hS.vtk,due:=by rw [hx];exact hsp3.row' hS.due (fun g hg hm=>Sys.turns_due hS g hm hg) }
 exact bodyPost_ret (v:=.tuple #[s,.int .i64 k]) (by simp [results,results25,go_sem]) rfl ⟨rfl,⟨σ',⟨hQ1,hk,hx⟩,hSy.below hb4⟩,hsp3.trans (Spares.of_below hb4)⟩
theorem Tryz.hIssue (B hb rb:Nat) (σ:SS) (w:World) (hS:Sys B w hb rb σ) (id pth:List UInt8) (ttl most:Int) (cc dd:Int) (s:Value) (er:Value) (k:Int)
  (hT:∀ W,ErrT W→Calls prog 43 #[er] W fun e w'=>e=.returned (.int .i64 k)∧Below W.heap.size W w') (Q:SS→Prop)
  (hC:∀ W,w.heap.size≤W.heap.size→Whole W σ.k σ.vx σ.tm σ.s σ.c (-1) (-1)→Calls prog 41 #[.pointer (some ⟨σ.k.vb,0,none⟩),.string ⟨id.toArray⟩,.string ⟨pth.toArray⟩,.int .u64 ttl,.int .u64 most] W fun e w'=>e=.returned (.tuple #[s,er])∧(∃ σ' l f,(Q σ'∧σ'.k=σ.k∧σ'.vx=σ.vx)∧Whole w' σ.k σ'.vx σ'.tm σ'.s σ'.c l f)∧Spares σ.k.turns W w') :
  Calls prog 18 #[.pointer (some ⟨hb,0,none⟩),.string ⟨id.toArray⟩,.string ⟨pth.toArray⟩,.int .u64 ttl,.int .u64 most,fallV (-1) (-1) cc dd] w fun e w'=>e=.returned (.tuple #[s,.int .i64 k])∧(∃ σ',(Q σ'∧σ'.k=σ.k∧σ'.vx=σ.vx)∧Sys B w' hb rb σ')∧Spares σ.k.turns w w':=by
 obtain⟨fd,fn,hD,e1,e2⟩:=hS.wh.d;have hH:=hS.host;have hbs:=hS.turns_host
 have hdb:σ.k.db∈σ.k.turns:=by simp [Blk.turns]
 have hne:=hH.ne hD.box (by decide);have lH:=hH.lt;have lD:=hD.box.lt;have hB0:Below w.heap.size w (w.alloc (.cells #[.int .i64 (-1),.int .i64 (-1),.int .i64 cc,.int .i64 dd] 29)):=(Below.refl _ w).alloc (Nat.le_refl _) _;have bF:=BoxN.new w 29 #[.int .i64 (-1),.int .i64 (-1),.int .i64 cc,.int .i64 dd];have h2:=hH.cell 2 (v:=.pointer (some ⟨σ.k.vb,0,none⟩)) rfl;have hBf:=before hb σ.k.db _ _ _ _ _ _ _ _ (-1) (-1) cc dd _ (hH.alloc (.cells #[.int .i64 (-1),.int .i64 (-1),.int .i64 cc,.int .i64 dd] 29)) (hD.box.alloc _);have hW0:=hS.wh.below hB0;have h9:=hS.nine;unfold fallV at hBf ⊢;go_enter func18,ntmps18
 go_wp2_with (first
  | (go_at_call 40;refine hBf.mono ?_;rintro e w1 ⟨rfl,bD1,hg1⟩;have bH1:=(hH.alloc (.cells #[.int .i64 (-1),.int .i64 (-1),.int .i64 cc,.int .i64 dd] 29)).kept hg1 (by intro e;injection e with e;exact hne e);have bF1:=bF.kept hg1 (by intro e;injection e with e;omega);have hW1:=hW0.setLF (Spares.of_grown hg1 (by simp)) bD1;have hC1:=hC w1 (by have:=hg1.size;simp at this;omega) hW1;have h21:=bH1.cell 2 (v:=.pointer (some ⟨σ.k.vb,0,none⟩)) rfl;have f0:=bF1.cell 0 (v:=.int .i64 (-1)) rfl;have f1:=bF1.cell 1 (v:=.int .i64 (-1)) rfl;have f2:=bF1.cell 2 (v:=.int .i64 cc) rfl;have f3:=bF1.cell 3 (v:=.int .i64 dd) rfl;have HG1:=hid_intro hg1;clear hg1)
  | (go_at_call 41;refine hC1.mono ?_;rintro e w2 ⟨rfl,⟨σ',l',f',hQ,hW2⟩,hs2⟩;have bH2:=hs2.box bH1 (fun hx=>(hbs _ hx).2.1 rfl);obtain⟨fd2,fn2,hD2,-,-⟩:=hW2.d;have bF2:=hs2.box bF1 (fun hx=>by have:=(hbs _ hx).2.2;omega);have g0:=bF2.cell 0 (v:=.int .i64 (-1)) rfl;have g1:=bF2.cell 1 (v:=.int .i64 (-1)) rfl;have g2:=bF2.cell 2 (v:=.int .i64 cc) rfl;have g3:=bF2.cell 3 (v:=.int .i64 dd) rfl;have hBa:=after hb σ.k.db _ _ _ _ _ _ _ (-1) (-1) cc dd _ bH2 hD2.box;unfold fallV at hBa;have HS2:=hid_intro hs2;clear hs2)
  | (go_at_call 42;refine hBa.mono ?_;rintro e w3 ⟨rfl,bD3,hg3⟩;have hsp3:Spares σ.k.turns w w3:=(((Spares.of_below hB0).trans (Spares.of_grown (hid_elim HG1) hdb)).trans (hid_elim HS2)).trans (Spares.of_grown hg3 hdb);have hE3:ErrT w3:=hS.err.below (hsp3.below h9 (fun b hb=>(hbs b hb).1));have HG3:=hid_intro hg3;clear hg3;have HSP:=hid_intro hsp3;clear hsp3)
  | (go_at_call 43;refine(hT _ hE3).mono ?_;rintro e w4 ⟨rfl,hb4⟩))
 have hsp3:=hid_elim HSP;have hg3:=hid_elim HG3;have bH3:=bH2.kept hg3 (by intro e;injection e with e;exact hne e);have hW3:=hW2.setLF (Spares.of_grown hg3 (by simp)) bD3;obtain⟨hQ1,hk,hx⟩:=hQ;obtain⟨ra,rc,hr⟩:=hS.rvb
 have hSy:Sys B w3 hb rb σ':=by
  exact { host:=by rw [hk];exact bH3,wh:=by rw [hk];exact hW3,err:=hE3,b9:=hS.b9,hlow:=hS.hlow,low:=by rw [hk];exact hS.low,rvb:=⟨ra,rc,hsp3.box hr (fun hm=>Sys.turns_rev hS rb hm rfl)⟩,rlow:=hS.rlow,vrv:=by rw [hx];exact hS.vrv,vtk:=by rw [hx];exact hS.vtk,due:=by rw [hx];exact hsp3.row' hS.due (fun g hg hm=>Sys.turns_due hS g hm hg) }
 exact bodyPost_ret (v:=.tuple #[s,.int .i64 k]) (by simp [results,results18,go_sem]) rfl ⟨rfl,⟨σ',⟨hQ1,hk,hx⟩,hSy.below hb4⟩,hsp3.trans (Spares.of_below hb4)⟩
theorem Tryz.hRenew (B hb rb:Nat) (σ:SS) (w:World) (hS:Sys B w hb rb σ) (id:List UInt8) (ttl:Int) (cc dd:Int) (s:Value) (er:Value) (k:Int)
  (hT:∀ W,ErrT W→Calls prog 43 #[er] W fun e w'=>e=.returned (.int .i64 k)∧Below W.heap.size W w') (Q:SS→Prop)
  (hC:∀ W,w.heap.size≤W.heap.size→Whole W σ.k σ.vx σ.tm σ.s σ.c (-1) (-1)→Calls prog 44 #[.pointer (some ⟨σ.k.vb,0,none⟩),.string ⟨id.toArray⟩,.int .u64 ttl] W fun e w'=>e=.returned (.tuple #[s,er])∧(∃ σ' l f,(Q σ'∧σ'.k=σ.k∧σ'.vx=σ.vx)∧Whole w' σ.k σ'.vx σ'.tm σ'.s σ'.c l f)∧Spares σ.k.turns W w') :
  Calls prog 20 #[.pointer (some ⟨hb,0,none⟩),.string ⟨id.toArray⟩,.int .u64 ttl,fallV (-1) (-1) cc dd] w fun e w'=>e=.returned (.tuple #[s,.int .i64 k])∧(∃ σ',(Q σ'∧σ'.k=σ.k∧σ'.vx=σ.vx)∧Sys B w' hb rb σ')∧Spares σ.k.turns w w':=by
 obtain⟨fd,fn,hD,e1,e2⟩:=hS.wh.d;have hH:=hS.host;have hbs:=hS.turns_host
 have hdb:σ.k.db∈σ.k.turns:=by simp [Blk.turns]
 have hne:=hH.ne hD.box (by decide);have lH:=hH.lt;have lD:=hD.box.lt;have hB0:Below w.heap.size w (w.alloc (.cells #[.int .i64 (-1),.int .i64 (-1),.int .i64 cc,.int .i64 dd] 29)):=(Below.refl _ w).alloc (Nat.le_refl _) _;have bF:=BoxN.new w 29 #[.int .i64 (-1),.int .i64 (-1),.int .i64 cc,.int .i64 dd];have h2:=hH.cell 2 (v:=.pointer (some ⟨σ.k.vb,0,none⟩)) rfl;have hBf:=before hb σ.k.db _ _ _ _ _ _ _ _ (-1) (-1) cc dd _ (hH.alloc (.cells #[.int .i64 (-1),.int .i64 (-1),.int .i64 cc,.int .i64 dd] 29)) (hD.box.alloc _);have hW0:=hS.wh.below hB0;have h9:=hS.nine;unfold fallV at hBf ⊢;go_enter func20,ntmps20
 go_wp2_with (first
  | (go_at_call 40;refine hBf.mono ?_;rintro e w1 ⟨rfl,bD1,hg1⟩;have bH1:=(hH.alloc (.cells #[.int .i64 (-1),.int .i64 (-1),.int .i64 cc,.int .i64 dd] 29)).kept hg1 (by intro e;injection e with e;exact hne e);have bF1:=bF.kept hg1 (by intro e;injection e with e;omega);have hW1:=hW0.setLF (Spares.of_grown hg1 (by simp)) bD1;have hC1:=hC w1 (by have:=hg1.size;simp at this;omega) hW1;have h21:=bH1.cell 2 (v:=.pointer (some ⟨σ.k.vb,0,none⟩)) rfl;have f0:=bF1.cell 0 (v:=.int .i64 (-1)) rfl;have f1:=bF1.cell 1 (v:=.int .i64 (-1)) rfl;have f2:=bF1.cell 2 (v:=.int .i64 cc) rfl;have f3:=bF1.cell 3 (v:=.int .i64 dd) rfl;have HG1:=hid_intro hg1;clear hg1)
  | (go_at_call 44;refine hC1.mono ?_;rintro e w2 ⟨rfl,⟨σ',l',f',hQ,hW2⟩,hs2⟩;have bH2:=hs2.box bH1 (fun hx=>(hbs _ hx).2.1 rfl);obtain⟨fd2,fn2,hD2,-,-⟩:=hW2.d;have bF2:=hs2.box bF1 (fun hx=>by have:=(hbs _ hx).2.2;omega);have g0:=bF2.cell 0 (v:=.int .i64 (-1)) rfl;have g1:=bF2.cell 1 (v:=.int .i64 (-1)) rfl;have g2:=bF2.cell 2 (v:=.int .i64 cc) rfl;have g3:=bF2.cell 3 (v:=.int .i64 dd) rfl;have hBa:=after hb σ.k.db _ _ _ _ _ _ _ (-1) (-1) cc dd _ bH2 hD2.box;unfold fallV at hBa;have HS2:=hid_intro hs2;clear hs2)
  | (go_at_call 42;refine hBa.mono ?_;rintro e w3 ⟨rfl,bD3,hg3⟩;have hsp3:Spares σ.k.turns w w3:=(((Spares.of_below hB0).trans (Spares.of_grown (hid_elim HG1) hdb)).trans (hid_elim HS2)).trans (Spares.of_grown hg3 hdb);have hE3:ErrT w3:=hS.err.below (hsp3.below h9 (fun b hb=>(hbs b hb).1));have HG3:=hid_intro hg3;clear hg3;have HSP:=hid_intro hsp3;clear hsp3)
  | (go_at_call 43;refine(hT _ hE3).mono ?_;rintro e w4 ⟨rfl,hb4⟩))
 have hsp3:=hid_elim HSP;have hg3:=hid_elim HG3;have bH3:=bH2.kept hg3 (by intro e;injection e with e;exact hne e);have hW3:=hW2.setLF (Spares.of_grown hg3 (by simp)) bD3;obtain⟨hQ1,hk,hx⟩:=hQ;obtain⟨ra,rc,hr⟩:=hS.rvb
 have hSy:Sys B w3 hb rb σ':=by
  exact { host:=by rw [hk];exact bH3,wh:=by rw [hk];exact hW3,err:=hE3,b9:=hS.b9,hlow:=hS.hlow,low:=by rw [hk];exact hS.low,rvb:=⟨ra,rc,hsp3.box hr (fun hm=>Sys.turns_rev hS rb hm rfl)⟩,rlow:=hS.rlow,vrv:=by rw [hx];exact hS.vrv,vtk:=by rw [hx];exact hS.vtk,due:=by rw [hx];exact hsp3.row' hS.due (fun g hg hm=>Sys.turns_due hS g hm hg) }
 exact bodyPost_ret (v:=.tuple #[s,.int .i64 k]) (by simp [results,results20,go_sem]) rfl ⟨rfl,⟨σ',⟨hQ1,hk,hx⟩,hSy.below hb4⟩,hsp3.trans (Spares.of_below hb4)⟩
theorem Tryz.hRevoke (B hb rb:Nat) (σ:SS) (w:World) (hS:Sys B w hb rb σ) (id:List UInt8) (cc dd:Int) (er:Value) (k:Int)
  (hT:∀ W,ErrT W→Calls prog 43 #[er] W fun e w'=>e=.returned (.int .i64 k)∧Below W.heap.size W w') (Q:SS→Prop)
  (hC:∀ W,w.heap.size≤W.heap.size→Whole W σ.k σ.vx σ.tm σ.s σ.c (-1) (-1)→Calls prog 51 #[.pointer (some ⟨σ.k.vb,0,none⟩),.string ⟨id.toArray⟩] W fun e w'=>e=.returned (er)∧(∃ σ' l f,(Q σ'∧σ'.k=σ.k∧σ'.vx=σ.vx)∧Whole w' σ.k σ'.vx σ'.tm σ'.s σ'.c l f)∧Spares σ.k.turns W w') :
  Calls prog 28 #[.pointer (some ⟨hb,0,none⟩),.string ⟨id.toArray⟩,fallV (-1) (-1) cc dd] w fun e w'=>e=.returned (.int .i64 k)∧(∃ σ',(Q σ'∧σ'.k=σ.k∧σ'.vx=σ.vx)∧Sys B w' hb rb σ')∧Spares σ.k.turns w w':=by
 obtain⟨fd,fn,hD,e1,e2⟩:=hS.wh.d;have hH:=hS.host;have hbs:=hS.turns_host
 have hdb:σ.k.db∈σ.k.turns:=by simp [Blk.turns]
 have hne:=hH.ne hD.box (by decide);have lH:=hH.lt;have lD:=hD.box.lt;have hB0:Below w.heap.size w (w.alloc (.cells #[.int .i64 (-1),.int .i64 (-1),.int .i64 cc,.int .i64 dd] 29)):=(Below.refl _ w).alloc (Nat.le_refl _) _;have bF:=BoxN.new w 29 #[.int .i64 (-1),.int .i64 (-1),.int .i64 cc,.int .i64 dd];have h2:=hH.cell 2 (v:=.pointer (some ⟨σ.k.vb,0,none⟩)) rfl;have hBf:=before hb σ.k.db _ _ _ _ _ _ _ _ (-1) (-1) cc dd _ (hH.alloc (.cells #[.int .i64 (-1),.int .i64 (-1),.int .i64 cc,.int .i64 dd] 29)) (hD.box.alloc _);have hW0:=hS.wh.below hB0;have h9:=hS.nine;unfold fallV at hBf ⊢;go_enter func28,ntmps28
 go_wp2_with (first
  | (go_at_call 40;refine hBf.mono ?_;rintro e w1 ⟨rfl,bD1,hg1⟩;have bH1:=(hH.alloc (.cells #[.int .i64 (-1),.int .i64 (-1),.int .i64 cc,.int .i64 dd] 29)).kept hg1 (by intro e;injection e with e;exact hne e);have bF1:=bF.kept hg1 (by intro e;injection e with e;omega);have hW1:=hW0.setLF (Spares.of_grown hg1 (by simp)) bD1;have hC1:=hC w1 (by have:=hg1.size;simp at this;omega) hW1;have h21:=bH1.cell 2 (v:=.pointer (some ⟨σ.k.vb,0,none⟩)) rfl;have f0:=bF1.cell 0 (v:=.int .i64 (-1)) rfl;have f1:=bF1.cell 1 (v:=.int .i64 (-1)) rfl;have f2:=bF1.cell 2 (v:=.int .i64 cc) rfl;have f3:=bF1.cell 3 (v:=.int .i64 dd) rfl;have HG1:=hid_intro hg1;clear hg1)
  | (go_at_call 51;refine hC1.mono ?_;rintro e w2 ⟨rfl,⟨σ',l',f',hQ,hW2⟩,hs2⟩;have bH2:=hs2.box bH1 (fun hx=>(hbs _ hx).2.1 rfl);obtain⟨fd2,fn2,hD2,-,-⟩:=hW2.d;have bF2:=hs2.box bF1 (fun hx=>by have:=(hbs _ hx).2.2;omega);have g0:=bF2.cell 0 (v:=.int .i64 (-1)) rfl;have g1:=bF2.cell 1 (v:=.int .i64 (-1)) rfl;have g2:=bF2.cell 2 (v:=.int .i64 cc) rfl;have g3:=bF2.cell 3 (v:=.int .i64 dd) rfl;have hBa:=after hb σ.k.db _ _ _ _ _ _ _ (-1) (-1) cc dd _ bH2 hD2.box;unfold fallV at hBa;have HS2:=hid_intro hs2;clear hs2)
  | (go_at_call 42;refine hBa.mono ?_;rintro e w3 ⟨rfl,bD3,hg3⟩;have hsp3:Spares σ.k.turns w w3:=(((Spares.of_below hB0).trans (Spares.of_grown (hid_elim HG1) hdb)).trans (hid_elim HS2)).trans (Spares.of_grown hg3 hdb);have hE3:ErrT w3:=hS.err.below (hsp3.below h9 (fun b hb=>(hbs b hb).1));have HG3:=hid_intro hg3;clear hg3;have HSP:=hid_intro hsp3;clear hsp3)
  | (go_at_call 43;refine(hT _ hE3).mono ?_;rintro e w4 ⟨rfl,hb4⟩))
 have hsp3:=hid_elim HSP;have hg3:=hid_elim HG3;have bH3:=bH2.kept hg3 (by intro e;injection e with e;exact hne e);have hW3:=hW2.setLF (Spares.of_grown hg3 (by simp)) bD3;obtain⟨hQ1,hk,hx⟩:=hQ;obtain⟨ra,rc,hr⟩:=hS.rvb
 have hSy:Sys B w3 hb rb σ':=by
  exact { host:=by rw [hk];exact bH3,wh:=by rw [hk];exact hW3,err:=hE3,b9:=hS.b9,hlow:=hS.hlow,low:=by rw [hk];exact hS.low,rvb:=⟨ra,rc,hsp3.box hr (fun hm=>Sys.turns_rev hS rb hm rfl)⟩,rlow:=hS.rlow,vrv:=by rw [hx];exact hS.vrv,vtk:=by rw [hx];exact hS.vtk,due:=by rw [hx];exact hsp3.row' hS.due (fun g hg hm=>Sys.turns_due hS g hm hg) }
 exact bodyPost_ret (v:=.int .i64 k) (by simp [results,results28,go_sem]) rfl ⟨rfl,⟨σ',⟨hQ1,hk,hx⟩,hSy.below hb4⟩,hsp3.trans (Spares.of_below hb4)⟩
theorem Tryz.hRevPre (B hb rb:Nat) (σ:SS) (w:World) (hS:Sys B w hb rb σ) (id:List UInt8) (cc dd:Int) (s:Value) (er:Value) (k:Int)
  (hT:∀ W,ErrT W→Calls prog 43 #[er] W fun e w'=>e=.returned (.int .i64 k)∧Below W.heap.size W w') (Q:SS→Prop)
  (hC:∀ W,w.heap.size≤W.heap.size→Whole W σ.k σ.vx σ.tm σ.s σ.c (-1) (-1)→Calls prog 52 #[.pointer (some ⟨σ.k.vb,0,none⟩),.string ⟨id.toArray⟩] W fun e w'=>e=.returned (.tuple #[s,er])∧(∃ σ' l f,(Q σ'∧σ'.k=σ.k∧σ'.vx=σ.vx)∧Whole w' σ.k σ'.vx σ'.tm σ'.s σ'.c l f)∧Spares σ.k.turns W w') :
  Calls prog 29 #[.pointer (some ⟨hb,0,none⟩),.string ⟨id.toArray⟩,fallV (-1) (-1) cc dd] w fun e w'=>e=.returned (.tuple #[s,.int .i64 k])∧(∃ σ',(Q σ'∧σ'.k=σ.k∧σ'.vx=σ.vx)∧Sys B w' hb rb σ')∧Spares σ.k.turns w w':=by
 obtain⟨fd,fn,hD,e1,e2⟩:=hS.wh.d;have hH:=hS.host;have hbs:=hS.turns_host
 have hdb:σ.k.db∈σ.k.turns:=by simp [Blk.turns]
 have hne:=hH.ne hD.box (by decide);have lH:=hH.lt;have lD:=hD.box.lt;have hB0:Below w.heap.size w (w.alloc (.cells #[.int .i64 (-1),.int .i64 (-1),.int .i64 cc,.int .i64 dd] 29)):=(Below.refl _ w).alloc (Nat.le_refl _) _;have bF:=BoxN.new w 29 #[.int .i64 (-1),.int .i64 (-1),.int .i64 cc,.int .i64 dd];have h2:=hH.cell 2 (v:=.pointer (some ⟨σ.k.vb,0,none⟩)) rfl;have hBf:=before hb σ.k.db _ _ _ _ _ _ _ _ (-1) (-1) cc dd _ (hH.alloc (.cells #[.int .i64 (-1),.int .i64 (-1),.int .i64 cc,.int .i64 dd] 29)) (hD.box.alloc _);have hW0:=hS.wh.below hB0;have h9:=hS.nine;unfold fallV at hBf ⊢;go_enter func29,ntmps29
 go_wp2_with (first
  | (go_at_call 40;refine hBf.mono ?_;rintro e w1 ⟨rfl,bD1,hg1⟩;have bH1:=(hH.alloc (.cells #[.int .i64 (-1),.int .i64 (-1),.int .i64 cc,.int .i64 dd] 29)).kept hg1 (by intro e;injection e with e;exact hne e);have bF1:=bF.kept hg1 (by intro e;injection e with e;omega);have hW1:=hW0.setLF (Spares.of_grown hg1 (by simp)) bD1;have hC1:=hC w1 (by have:=hg1.size;simp at this;omega) hW1;have h21:=bH1.cell 2 (v:=.pointer (some ⟨σ.k.vb,0,none⟩)) rfl;have f0:=bF1.cell 0 (v:=.int .i64 (-1)) rfl;have f1:=bF1.cell 1 (v:=.int .i64 (-1)) rfl;have f2:=bF1.cell 2 (v:=.int .i64 cc) rfl;have f3:=bF1.cell 3 (v:=.int .i64 dd) rfl;have HG1:=hid_intro hg1;clear hg1)
  | (go_at_call 52;refine hC1.mono ?_;rintro e w2 ⟨rfl,⟨σ',l',f',hQ,hW2⟩,hs2⟩;have bH2:=hs2.box bH1 (fun hx=>(hbs _ hx).2.1 rfl);obtain⟨fd2,fn2,hD2,-,-⟩:=hW2.d;have bF2:=hs2.box bF1 (fun hx=>by have:=(hbs _ hx).2.2;omega);have g0:=bF2.cell 0 (v:=.int .i64 (-1)) rfl;have g1:=bF2.cell 1 (v:=.int .i64 (-1)) rfl;have g2:=bF2.cell 2 (v:=.int .i64 cc) rfl;have g3:=bF2.cell 3 (v:=.int .i64 dd) rfl;have hBa:=after hb σ.k.db _ _ _ _ _ _ _ (-1) (-1) cc dd _ bH2 hD2.box;unfold fallV at hBa;have HS2:=hid_intro hs2;clear hs2)
  | (go_at_call 42;refine hBa.mono ?_;rintro e w3 ⟨rfl,bD3,hg3⟩;have hsp3:Spares σ.k.turns w w3:=(((Spares.of_below hB0).trans (Spares.of_grown (hid_elim HG1) hdb)).trans (hid_elim HS2)).trans (Spares.of_grown hg3 hdb);have hE3:ErrT w3:=hS.err.below (hsp3.below h9 (fun b hb=>(hbs b hb).1));have HG3:=hid_intro hg3;clear hg3;have HSP:=hid_intro hsp3;clear hsp3)
  | (go_at_call 43;refine(hT _ hE3).mono ?_;rintro e w4 ⟨rfl,hb4⟩))
 have hsp3:=hid_elim HSP;have hg3:=hid_elim HG3;have bH3:=bH2.kept hg3 (by intro e;injection e with e;exact hne e);have hW3:=hW2.setLF (Spares.of_grown hg3 (by simp)) bD3;obtain⟨hQ1,hk,hx⟩:=hQ;obtain⟨ra,rc,hr⟩:=hS.rvb
 have hSy:Sys B w3 hb rb σ':=by
  exact { host:=by rw [hk];exact bH3,wh:=by rw [hk];exact hW3,err:=hE3,b9:=hS.b9,hlow:=hS.hlow,low:=by rw [hk];exact hS.low,rvb:=⟨ra,rc,hsp3.box hr (fun hm=>Sys.turns_rev hS rb hm rfl)⟩,rlow:=hS.rlow,vrv:=by rw [hx];exact hS.vrv,vtk:=by rw [hx];exact hS.vtk,due:=by rw [hx];exact hsp3.row' hS.due (fun g hg hm=>Sys.turns_due hS g hm hg) }
 exact bodyPost_ret (v:=.tuple #[s,.int .i64 k]) (by simp [results,results29,go_sem]) rfl ⟨rfl,⟨σ',⟨hQ1,hk,hx⟩,hSy.below hb4⟩,hsp3.trans (Spares.of_below hb4)⟩
theorem Tryz.hRevTok (B hb rb:Nat) (σ:SS) (w:World) (hS:Sys B w hb rb σ) (id:List UInt8) (cc dd:Int) (er:Value) (k:Int)
  (hT:∀ W,ErrT W→Calls prog 43 #[er] W fun e w'=>e=.returned (.int .i64 k)∧Below W.heap.size W w') (Q:SS→Prop)
  (hC:∀ W,w.heap.size≤W.heap.size→Whole W σ.k σ.vx σ.tm σ.s σ.c (-1) (-1)→Calls prog 50 #[.pointer (some ⟨σ.k.vb,0,none⟩),.string ⟨id.toArray⟩] W fun e w'=>e=.returned (er)∧(∃ σ' l f,(Q σ'∧σ'.k=σ.k∧σ'.vx=σ.vx)∧Whole w' σ.k σ'.vx σ'.tm σ'.s σ'.c l f)∧Spares σ.k.turns W w') :
  Calls prog 26 #[.pointer (some ⟨hb,0,none⟩),.string ⟨id.toArray⟩,fallV (-1) (-1) cc dd] w fun e w'=>e=.returned (.int .i64 k)∧(∃ σ',(Q σ'∧σ'.k=σ.k∧σ'.vx=σ.vx)∧Sys B w' hb rb σ')∧Spares σ.k.turns w w':=by
 obtain⟨fd,fn,hD,e1,e2⟩:=hS.wh.d;have hH:=hS.host;have hbs:=hS.turns_host
 have hdb:σ.k.db∈σ.k.turns:=by simp [Blk.turns]
 have hne:=hH.ne hD.box (by decide);have lH:=hH.lt;have lD:=hD.box.lt;have hB0:Below w.heap.size w (w.alloc (.cells #[.int .i64 (-1),.int .i64 (-1),.int .i64 cc,.int .i64 dd] 29)):=(Below.refl _ w).alloc (Nat.le_refl _) _;have bF:=BoxN.new w 29 #[.int .i64 (-1),.int .i64 (-1),.int .i64 cc,.int .i64 dd];have h2:=hH.cell 2 (v:=.pointer (some ⟨σ.k.vb,0,none⟩)) rfl;have hBf:=before hb σ.k.db _ _ _ _ _ _ _ _ (-1) (-1) cc dd _ (hH.alloc (.cells #[.int .i64 (-1),.int .i64 (-1),.int .i64 cc,.int .i64 dd] 29)) (hD.box.alloc _);have hW0:=hS.wh.below hB0;have h9:=hS.nine;unfold fallV at hBf ⊢;go_enter func26,ntmps26
 go_wp2_with (first
  | (go_at_call 40;refine hBf.mono ?_;rintro e w1 ⟨rfl,bD1,hg1⟩;have bH1:=(hH.alloc (.cells #[.int .i64 (-1),.int .i64 (-1),.int .i64 cc,.int .i64 dd] 29)).kept hg1 (by intro e;injection e with e;exact hne e);have bF1:=bF.kept hg1 (by intro e;injection e with e;omega);have hW1:=hW0.setLF (Spares.of_grown hg1 (by simp)) bD1;have hC1:=hC w1 (by have:=hg1.size;simp at this;omega) hW1;have h21:=bH1.cell 2 (v:=.pointer (some ⟨σ.k.vb,0,none⟩)) rfl;have f0:=bF1.cell 0 (v:=.int .i64 (-1)) rfl;have f1:=bF1.cell 1 (v:=.int .i64 (-1)) rfl;have f2:=bF1.cell 2 (v:=.int .i64 cc) rfl;have f3:=bF1.cell 3 (v:=.int .i64 dd) rfl;have HG1:=hid_intro hg1;clear hg1)
  | (go_at_call 50;refine hC1.mono ?_;rintro e w2 ⟨rfl,⟨σ',l',f',hQ,hW2⟩,hs2⟩;have bH2:=hs2.box bH1 (fun hx=>(hbs _ hx).2.1 rfl);obtain⟨fd2,fn2,hD2,-,-⟩:=hW2.d;have bF2:=hs2.box bF1 (fun hx=>by have:=(hbs _ hx).2.2;omega);have g0:=bF2.cell 0 (v:=.int .i64 (-1)) rfl;have g1:=bF2.cell 1 (v:=.int .i64 (-1)) rfl;have g2:=bF2.cell 2 (v:=.int .i64 cc) rfl;have g3:=bF2.cell 3 (v:=.int .i64 dd) rfl;have hBa:=after hb σ.k.db _ _ _ _ _ _ _ (-1) (-1) cc dd _ bH2 hD2.box;unfold fallV at hBa;have HS2:=hid_intro hs2;clear hs2)
  | (go_at_call 42;refine hBa.mono ?_;rintro e w3 ⟨rfl,bD3,hg3⟩;have hsp3:Spares σ.k.turns w w3:=(((Spares.of_below hB0).trans (Spares.of_grown (hid_elim HG1) hdb)).trans (hid_elim HS2)).trans (Spares.of_grown hg3 hdb);have hE3:ErrT w3:=hS.err.below (hsp3.below h9 (fun b hb=>(hbs b hb).1));have HG3:=hid_intro hg3;clear hg3;have HSP:=hid_intro hsp3;clear hsp3)
  | (go_at_call 43;refine(hT _ hE3).mono ?_;rintro e w4 ⟨rfl,hb4⟩))
 have hsp3:=hid_elim HSP;have hg3:=hid_elim HG3;have bH3:=bH2.kept hg3 (by intro e;injection e with e;exact hne e);have hW3:=hW2.setLF (Spares.of_grown hg3 (by simp)) bD3;obtain⟨hQ1,hk,hx⟩:=hQ;obtain⟨ra,rc,hr⟩:=hS.rvb
 have hSy:Sys B w3 hb rb σ':=by
  exact { host:=by rw [hk];exact bH3,wh:=by rw [hk];exact hW3,err:=hE3,b9:=hS.b9,hlow:=hS.hlow,low:=by rw [hk];exact hS.low,rvb:=⟨ra,rc,hsp3.box hr (fun hm=>Sys.turns_rev hS rb hm rfl)⟩,rlow:=hS.rlow,vrv:=by rw [hx];exact hS.vrv,vtk:=by rw [hx];exact hS.vtk,due:=by rw [hx];exact hsp3.row' hS.due (fun g hg hm=>Sys.turns_due hS g hm hg) }
 exact bodyPost_ret (v:=.int .i64 k) (by simp [results,results26,go_sem]) rfl ⟨rfl,⟨σ',⟨hQ1,hk,hx⟩,hSy.below hb4⟩,hsp3.trans (Spares.of_below hb4)⟩
theorem Tryz.hAuth (hb db rb vb:Nat) (w:World) (hH:BoxN w hb 78 #[.pointer (some ⟨db,0,none⟩),.pointer (some ⟨rb,0,none⟩),.pointer (some ⟨vb,0,none⟩)]) (id pth:List UInt8) (r:Bool)
  (hC:Calls prog 47 #[.pointer (some ⟨vb,0,none⟩),.string ⟨id.toArray⟩,.string ⟨pth.toArray⟩] w fun e w'=>e=.returned (.bool r)∧Below w.heap.size w w') :
  Calls prog 23 #[.pointer (some ⟨hb,0,none⟩),.string ⟨id.toArray⟩,.string ⟨pth.toArray⟩] w fun e w'=>e=.returned (.bool r)∧Below w.heap.size w w':=by
 have h2:=hH.cell 2 (v:=.pointer (some ⟨vb,0,none⟩)) rfl;go_enter func23,ntmps23
 go_wp2_with (go_at_call 47;refine hC.mono ?_;rintro e w1 ⟨rfl,hb1⟩)
 go_ret;exact⟨rfl,hb1⟩
end Go.Proofs
