import Derived.Test.YtjbekgjdempbiaaGreatDoorJSq
import Derived.Test.YtjbekgjdempbiaaGreatDoorJCVRenew
import Derived.Test.YtjbekgjdempbiaaGreatDoorJGlob
import Derived.Test.YtjbekgjdempbiaaGreatDoorJRefC
import Derived.Test.YtjbekgjdempbiaaGreatDoorJQueK
import Derived.Test.YtjbekgjdempbiaaGreatDoorJCTkA
set_option maxRecDepth 100000
set_option maxHeartbeats 8000000
namespace Go.Proofs
open Go.RowKit Go.Sort Go.Lib Go.Shelf Go.Maps
theorem Spares.Jv {bs:List Nat} {W W':World} {base size n:Nat} {v:Value} {e:TypeId} {xs:List Value} (h:Spares bs W W') (hr:W.ownsRow base e size v n xs) (hn:∀ g,v.ownBlock=some g->g∉bs):W'.ownsRow base e size v n xs:=by
 obtain⟨h1,h2 | ⟨g,cap,cur,e1,e2,e3,e4⟩⟩:=hr
 ·exact⟨h1,.inl h2⟩
 subst e1;exact⟨h1,.inr ⟨g,cap,cur,rfl,e2,Spares.box (t:=e) (cs:=cur) h e3 (hn g rfl),e4⟩⟩
theorem Xn {W:World} {base size n:Nat} {v:Value} {e:TypeId} {xs:List Value} (hr:W.ownsRow base e size v n xs) {g:Nat} (hg:v.ownBlock=some g):base<=g/\∃ cur,BoxN W g e cur:=by
 obtain⟨h1,⟨e1,-⟩ | ⟨g',cap,cur,e1,e2,e3,e4⟩⟩:=hr
 ·subst e1;cases hg
 subst e1
 obtain rfl:g'=g:=by simpa [Value.ownBlock] using hg
 exact⟨e2,cur,e3⟩
def Tryz.Xel (t:TypeId):Bool:=t==108||t==105||t==69||t==72
def Tryz.Ud (W:World) (b:Nat):Prop:=9<=b/\∃ t cs,BoxN W b t cs/\Xel t=true
theorem Tryz.Ud.ne {W:World} {b b':Nat} {t:TypeId} {cs:Array Value} (h:Ud W b) (hB:BoxN W b' t cs) (ht:Xel t=false):b'≠b:=by
 obtain⟨-,t',cs',h1,h2⟩:=h;exact hB.ne h1 (fun e=>by rw [e,h2] at ht;cases ht)
theorem Tryz.Ud.ne_map {H:Type} {P:Program} {k:TypeId} {R:Value->Option (DataW H × List MemPlace)} {D:DataW H} {W:World} {b b' n:Nat} (h:Ud W b) (hm:W.ownsMap P k R b' n D):b'≠b:=by
 obtain⟨-,t',cs',h1,h2⟩:=h;exact BoxN.Xl h1 hm
structure SS where
 k:Blk
 vx:VX
 tm:Int
 s:VSt
 c:List UInt8
structure Tryz.Sys (B:Nat) (W:World) (hb rb:Nat) (σ:SS):Prop where
 host:BoxN W hb 78 #[.pointer (some ⟨σ.k.db,0,none⟩),.pointer (some ⟨rb,0,none⟩),.pointer (some ⟨σ.k.vb,0,none⟩)]
 wh:Tryz.Whole W σ.k σ.vx σ.tm σ.s σ.c (-1) (-1)
 err:Tryz.Z1 W
 b9:9<=B
 hlow:B<=hb
 low:∀ b∈σ.k.turns,B<=b
 rvb:∃ a b,BoxN W rb 88 #[a,b]
 rlow:B<=rb
 vrv:σ.vx.rv=.iface 75 (.pointer (some ⟨rb,0,none⟩))
 vtk:σ.vx.tk=false
 due:W.ownsRow B 144 3 σ.vx.due 0 []
theorem Tryz.Whole.spared {W W':World} {k:Blk} {vx:VX} {tm:Int} {s:VSt} {c:List UInt8} {l f:Int} {bs:List Nat} (h:Whole W k vx tm s c l f) (hS:Spares bs W W') (h1:∀ b∈k.turns,b∉bs) (h2:k.jb∉bs) (h3:∀ b x,BoxN W b 9 #[x]->b∉bs) (h6:∀ b∈bs,6<=b):Whole W' k vx tm s c l f:=by
 obtain⟨fd,fn,hd,e1,e2⟩:=h.d;exact { h with v:=h.v.spared hS (h1 _ (by simp [Blk.turns])) (h1 _ (by simp [Blk.turns])) (h1 _ (by simp [Blk.turns])) h6,j:=hS.box h.j h2,d:=⟨fd,fn,hd.spared hS (h1 _ (by simp [Blk.turns])) (h1 _ (by simp [Blk.turns])) (h1 _ (by simp [Blk.turns])) (fun q hq=>h3 _ _ (hd.sd q hq)) (fun q hq=>h3 _ _ (hd.sn q hq)),e1,e2⟩ }
theorem Tryz.Whole.Xaz {W W':World} {k:Blk} {vx:VX} {tm:Int} {s:VSt} {c:List UInt8} {l f l' f':Int} (h:Whole W k vx tm s c l f) (hS:Spares [k.db] W W') (bD:BoxN W' k.db 100 #[.map (some k.md),.map (some k.mn),.slice none 0 0,.int .i64 l',.int .i64 f',.bool false]):Whole W' k vx tm s c l' f':=by
 obtain⟨fd,fn,hd,e1,e2⟩:=h.d;obtain⟨⟨a1,a2,a3⟩,a4,a5,a6,a7⟩:=h.nes;simp only [List.mem_cons,List.not_mem_nil,or_false,not_or,Blk.turns] at a1 a2 a3 a4;exact { h with v:=h.v.spared hS (by simpa using a1.1) (by simpa using a2.1) (by simpa using a3.1) (fun b hb=>by rw [List.mem_singleton.1 hb];have:=h.d9;omega),j:=hS.box h.j (by simpa using a4.2.2.2.1),d:=⟨fd,fn,hd.cells hS bD,e1,e2⟩ }
section
variable {B hb rb:Nat} {σ:SS} {W W':World}
theorem Tryz.Sys.nine (h:Sys B W hb rb σ):9<=W.heap.size:=h.wh.v.nine
theorem Tryz.Sys.other (h:Sys B W hb rb σ) {bs:List Nat} (hs:Spares bs W W') (hq:∀ b∈bs,Ud W b):Sys B W' hb rb σ:=by
 have hbx:∀ {b:Nat} {t:TypeId} {cs:Array Value},BoxN W b t cs->Xel t=false->b∉bs:=fun hB ht hm=>(hq _ hm).ne hB ht rfl
 obtain⟨fd,fn,hd,e1,e2⟩:=h.wh.d;obtain⟨n1,-,m1⟩:=h.wh.v.va.held.mapT;obtain⟨n2,-,m2⟩:=h.wh.v.va.held.mapL;obtain⟨n3,-,m3⟩:=hd.dm;obtain⟨n4,-,m4⟩:=hd.nm;obtain⟨ra,rc,hr⟩:=h.rvb
 have g9:∀ b∈bs,9<=b:=fun b hm=>(hq b hm).1
 have hB9:Below 9 W W':=hs.below h.nine g9;refine { h with host:=hs.box h.host (hbx h.host (by decide)),wh:=h.wh.spared hs (fun b hb=>?_) (hbx h.wh.j (by decide)) (fun b x hx=>hbx hx (by decide)) (fun b hb=>by have:=g9 b hb;omega),err:=h.err.below hB9,rvb:=⟨ra,rc,hs.box hr (hbx hr (by decide))⟩,due:=hs.Jv h.due (fun g hg=>?_) }
 ·simp only [Blk.turns,List.mem_cons,List.not_mem_nil,or_false] at hb
  rcases hb with rfl | rfl | rfl | rfl | rfl | rfl
  ·exact hbx h.wh.v.va.v (by decide)
  ·exact fun hm=>(hq _ hm).ne_map m1 rfl
  ·exact fun hm=>(hq _ hm).ne_map m2 rfl
  ·exact hbx hd.box (by decide)
  ·exact fun hm=>(hq _ hm).ne_map m3 rfl
  exact fun hm=>(hq _ hm).ne_map m4 rfl
 obtain⟨-,cur,hc⟩:=Xn h.due hg;exact hbx hc (by decide)
theorem Tryz.Sys.below (h:Sys B W hb rb σ) (hB:Below W.heap.size W W'):Sys B W' hb rb σ:=h.other (bs:=[]) (Spares.of_below hB) (by simp)
theorem Tryz.Sys.V4 (h:Sys B W hb rb σ):∀ b∈σ.k.turns,9<=b/\b≠hb/\b<W.heap.size:=fun b hbt=>by
 refine⟨h.wh.Xh5 b hbt,?_,h.wh.lts b hbt⟩;obtain⟨fd,fn,hd,e1,e2⟩:=h.wh.d;obtain⟨n1,-,m1⟩:=h.wh.v.va.held.mapT;obtain⟨n2,-,m2⟩:=h.wh.v.va.held.mapL;obtain⟨n3,-,m3⟩:=hd.dm;obtain⟨n4,-,m4⟩:=hd.nm;simp only [Blk.turns,List.mem_cons,List.not_mem_nil,or_false] at hbt
 rcases hbt with rfl | rfl | rfl | rfl | rfl | rfl
 ·exact h.wh.v.va.v.ne h.host (by decide)
 ·exact BoxN.Xl h.host m1
 ·exact BoxN.Xl h.host m2
 ·exact hd.box.ne h.host (by decide)
 ·exact BoxN.Xl h.host m3
 exact BoxN.Xl h.host m4
end
def Tryz.HostSp (B:Nat) (W W':World):Prop:=∃ hs,Spares hs W W'/\∀ b∈hs,B<=b/\¬ Ud W b
structure Tryz.Lone (P:World->Prop):Prop where
 other:∀ {W W':World} {bs:List Nat},P W->Spares bs W W'->(∀ b∈bs,Tryz.Ud W b)->P W'
theorem Tryz.Lone.below {P:World->Prop} (h:Lone P) {W W':World} (hp:P W) (hb:Below W.heap.size W W'):P W':=h.other (bs:=[]) hp (Spares.of_below hb) (by simp)
end Go.Proofs
namespace Go.Proofs
open Go.RowKit Go.Sort Go.Lib Go.Shelf Go.Maps Go.WideMaps
theorem Tryz.Xfz (B rb:Nat) (v:Value) (n:Nat) (xs:List Value) (f:Int) (hf0:0<=f) (hf1:f<=18446744073709551615) (id:List UInt8) (w:World) (hR:BoxN w rb 88 #[v,.int .u64 f]) (hrow:w.ownsRow B 9 1 v n xs) (hB:B<=w.heap.size) (hn:n<=1000) :
  Calls prog 331 #[.pointer (some ⟨rb,0,none⟩),.string ⟨id.toArray⟩] w fun e w'=>e=.returned (.bool (!(f % 2==1)))/\∃ g cap,BoxN w' rb 88 #[.slice (some ⟨g,0,none⟩) (n+1) cap,.int .u64 (f / 2)]/\w'.ownsRow B 9 1 (.slice (some ⟨g,0,none⟩) (n+1) cap) (n+1) (xs ++ [.string ⟨id.toArray⟩])/\rb≠g/\(v.ownBlock=some g\/w.heap.size<=g)/\Spares (rb :: v.ownBlock.toList) w w':=by
 obtain⟨i0,hi,hz0,hz1,hz2⟩:=info_parts Xa8;have hnr:=hR.not_row (e:=9) (by decide) hrow;have lv:=hR.lt;have c0:=hR.cell 0 (v:=v) rfl;have ca:=(hR.alloc (.cells #[.string ⟨id.toArray⟩] 9)).cell 0 (v:=v) rfl;have bS:=BoxN.new w 9 #[.string ⟨id.toArray⟩];have hand:=and_one_u64 f hf0 hf1;clear hf0 hf1;go_enter func331,ntmps331
 go_wp2_with (at_builtin;refine wpList_append_lies _ rfl _ _ 40 rfl B 9 i0 _ 1 16 underlying40 hi hz0 hz1 hz2 rfl (by decide) _ _ _ rfl (hrow.alloc _) ⟨w.heap.size,0,none⟩ 1 1 [.string ⟨id.toArray⟩] rfl rfl (World.news_of_block bS) (by simp [Value.oneCell']) (by omega) (by unfold maxLen;omega) (by omega) (by simp;omega) _ rfl ?_;intro g cap w1 hown hgrow hat hlt;have hR1:=(hR.alloc (.cells #[.string ⟨id.toArray⟩] 9)).kept hgrow hnr;have d0:=hR1.cell 0 (v:=v) rfl;have d1:=hR1.cell 1 (v:=.int .u64 f) rfl;have fz0:=hR1.frozen 0;have fz1:=hR1.frozen 1)
 have hg1:(w.alloc (.cells #[.string ⟨id.toArray⟩] 9)).grownBy w1 v.ownBlock:=hgrow;have hat1:v.ownBlock=some g\/g=(w.alloc (.cells #[.string ⟨id.toArray⟩] 9)).heap.size:=hat;clear hgrow hat;rw [World.size_alloc] at hat1
 have hrg:rb≠g:=by
  rcases hat1 with e | e
  ·exact fun e'=>hnr (by rw [e,e'])
  omega
 have hwg:v.ownBlock=some g\/w.heap.size<=g:=by
  rcases hat1 with e | e
  ·exact .inl e
  exact .inr (by omega)
 have hS:Spares (rb :: v.ownBlock.toList) w w1:=((Spares.of_below (Below.refl _ w)).alloc _).trans (Spares.Xah hg1 (fun b hb=>by rw [hb];simp));go_ret;exact⟨rfl,g,cap,(hR1.set 0 (.slice (some ⟨g,0,none⟩) (n+1) cap)).set 1 (.int .u64 (f / 2)),(hown.kept (U0 w1 rb 0 (.slice (some ⟨g,0,none⟩) (n+1) cap)) (.inr (by simp [Value.ownBlock];exact fun e=>hrg e.symm))).kept (U0 _ rb 1 (.int .u64 (f / 2))) (.inr (by simp [Value.ownBlock];exact fun e=>hrg e.symm)),hrg,hwg,(hS.set (by simp) _ _).set (by simp) _ _⟩
end Go.Proofs
namespace Go.Proofs
open Go.RowKit Go.Sort Go.Lib Go.Shelf Go.Maps
structure Tryz.Xnb (vb c m nb:Nat) (tm:TypeId) (k u:Int) (r:Value) (W:World):Prop where
 mp:W.cell? ⟨vb,c,none⟩=some (.map (some m))
 n0:W.cell? ⟨nb,0,none⟩=some (.int .i64 k)
 n1:W.cell? ⟨nb,1,none⟩=some (.int .u64 u)
 lk:(Instr.lookup tm (.map (some m)) (.agg #[.int .i64 k,.int .u64 u]) false).run Tryz.prog W=.ok r W
theorem Tryz.Xft (vb mt:Nat) (x:Int × Int) (ak au at_ tr:Int) (pd:Bool) (w:World) (hP:∀ W,Below w.heap.size w W->W.cell? ⟨vb,3,none⟩=some (.map (some mt))/\(Instr.lookup 120 (.map (some mt)) (nmV x) true).run prog W=.ok (.tuple #[.agg #[.int .i64 ak,.int .u64 au,.int .u64 at_,.int .i64 tr,.bool pd],.bool true]) W) :
  Calls prog 134 #[.pointer (some ⟨vb,0,none⟩),nmV x] w fun e w'=>e=.returned (nmV (ak,au))/\Below w.heap.size w w':=by
 have hB0:Below w.heap.size w ((w.alloc (.cells #[.int .i64 x.1,.int .u64 x.2] 114)).alloc (.cells #[.int .i64 0,.int .u64 0] 114)):=((Below.refl _ w).alloc (Nat.le_refl _) _).alloc (by simp) _;have bN:=(BoxN.new w 114 #[.int .i64 x.1,.int .u64 x.2]).alloc (.cells #[.int .i64 0,.int .u64 0] 114);have bR:=BoxN.new (w.alloc (.cells #[.int .i64 x.1,.int .u64 x.2] 114)) 114 #[.int .i64 0,.int .u64 0];rw [World.size_alloc] at bR
 have hs0:((w.alloc (.cells #[.int .i64 x.1,.int .u64 x.2] 114)).alloc (.cells #[.int .i64 0,.int .u64 0] 114)).heap.size=w.heap.size+2:=by simp
 unfold nmV;go_enter func134,ntmps134
 go_wp2_with fail
 generalize (w.alloc (.cells #[.int .i64 x.1,.int .u64 x.2] 114)).alloc (.cells #[.int .i64 0,.int .u64 0] 114)=W1 at *
 have hS:∀ W,Below (w.heap.size+2) W1 W->LkP vb 3 mt w.heap.size 120 x.1 x.2 (.tuple #[.agg #[.int .i64 ak,.int .u64 au,.int .u64 at_,.int .i64 tr,.bool pd],.bool true]) W:=fun W hb=>by
  have bN':=bN.below hb (by omega);obtain⟨h1,h2⟩:=hP W (hB0.trans (hb.mono (by omega)));exact⟨h1,bN'.cell 0 rfl,bN'.cell 1 rfl,h2⟩
 have hb1:Below (w.heap.size+2) W1 W1.drew:=(Below.refl _ _).drew;refine wp_region_held_drew (S:=(LkP vb 3 mt w.heap.size 120 x.1 x.2 (.tuple #[.agg #[.int .i64 ak,.int .u64 au,.int .u64 at_,.int .i64 tr,.bool pd],.bool true]))) (by kernel_rfl) (hS _ hb1) (fun hS0=>?_);refine Xt 0 ?v0 rfl ?y0 hS0 ?_
 case y0=>(rintro w ⟨q0,q1,q2,q3⟩;go_simp;try with_reducible rfl)
 refine Xt 1 ?v1 rfl ?y1 hS0 ?_
 case y1=>(rintro w ⟨q0,q1,q2,q3⟩;go_simp;try with_reducible rfl)
 refine Xt 2 ?v2 rfl ?y2 hS0 ?_
 case y2=>(rintro w ⟨q0,q1,q2,q3⟩;go_simp;try with_reducible rfl)
 refine Xt 3 ?v3 rfl ?y3 hS0 ?_
 case y3=>(rintro w ⟨q0,q1,q2,q3⟩;go_simp;try with_reducible rfl)
 refine Xt 4 ?v4 rfl ?y4 hS0 ?_
 case y4=>(rintro w ⟨q0,q1,q2,q3⟩;go_simp;try with_reducible rfl)
 refine Xt 5 ?v5 rfl ?y5 hS0 ?_
 case y5=>(rintro w ⟨q0,q1,q2,q3⟩;go_simp;try with_reducible rfl)
 refine Xt 6 ?v6 rfl ?y6 hS0 ?_
 case y6=>(rintro w ⟨q0,q1,q2,q3⟩;go_simp;try with_reducible rfl)
 refine Xt 7 ?v7 rfl ?y7 hS0 ?_
 case y7=>(rintro w ⟨q0,q1,q2,q3⟩;go_simp;try with_reducible rfl)
 refine Xt 8 ?v8 rfl ?y8 hS0 ?_
 case y8=>(rintro w ⟨q0,q1,q2,q3⟩;go_simp;try with_reducible rfl)
 refine Xh 9 rfl fun K hK=>?_;go_simp;refine hK.out _ _ (hS _ (hb1.alloc (by simp [hs0]) _)) (fun hS1=>?_);clear hK K;refine Xh 10 rfl fun K hK=>?_;go_simp;have hb2:Below (w.heap.size+2) W1 (W1.alloc (.cells #[.int .i64 ak,.int .u64 au,.int .u64 at_,.int .i64 tr,.bool pd] 153)).drew:=((Below.refl _ _).alloc (by omega) _).drew;refine hK.out _ _ (hS _ hb2) (fun hS2=>?_);clear hK K;refine Xh 11 rfl fun K hK=>?_;go_simp;refine hK.out _ _ hS2 (fun _=>?_);clear hK K hS0 hS1 hS2;refine wpAnyH_done (by kernel_rfl) ?_ _
 have bT:BoxN (W1.alloc (.cells #[.int .i64 ak,.int .u64 au,.int .u64 at_,.int .i64 tr,.bool pd] 153)).drew (w.heap.size+2) 153 #[.int .i64 ak,.int .u64 au,.int .u64 at_,.int .i64 tr,.bool pd]:=by
  have h:=BoxN.new W1 153 #[.int .i64 ak,.int .u64 au,.int .u64 at_,.int .i64 tr,.bool pd];rw [hs0] at h;exact h
 have bR2:=bR.below hb2 (by omega);have hBf:=hB0.trans (hb2.mono (by omega));clear hS hP hb1 hb2 hB0 bN bR;generalize (W1.alloc (.cells #[.int .i64 ak,.int .u64 au,.int .u64 at_,.int .i64 tr,.bool pd] 153)).drew=W2 at *;have y0:=bT.cell 0 (v:=.int .i64 ak) rfl;have y1:=bT.cell 1 (v:=.int .u64 au) rfl;have z0:=bR2.cell 0 (v:=.int .i64 0) rfl;have z1:=bR2.cell 1 (v:=.int .u64 0) rfl;have f0:=bR2.frozen 0;have f1:=bR2.frozen 1;have hfin:=(bR2.set 0 (.int .i64 ak)).set 1 (.int .u64 au);have r0:=hfin.cell 0 (v:=.int .i64 ak) (by simp);have r1:=hfin.cell 1 (v:=.int .u64 au) (by simp);go_wp2;exact bodyPost_ret (v:=.agg #[.int .i64 ak,.int .u64 au]) (by simp [results,results134,go_sem,r0,r1]) rfl ⟨rfl,(hBf.setCell (p:=⟨w.heap.size+1,0,none⟩) (by show w.heap.size<=w.heap.size+1;omega) _).setCell (p:=⟨w.heap.size+1,1,none⟩) (by show w.heap.size<=w.heap.size+1;omega) _⟩
theorem Tryz.Xo9 (ak au at_ tr:Int) (pd:Bool) (pth:ByteArray) (la:Int) (w:World):Sem.run prog (Instr.field 131 (.agg #[.int .i64 ak,.int .u64 au,.int .u64 at_,.int .i64 tr,.bool pd,.string pth,.int .u64 la]) 0) w=.ok (.agg #[.int .i64 ak,.int .u64 au,.int .u64 at_,.int .i64 tr,.bool pd]) w:=by kernel_rfl
theorem Tryz.Xpi (ak au at_ tr:Int) (pd:Bool) (w:World):Sem.run prog (Instr.field 129 (.agg #[.int .i64 ak,.int .u64 au,.int .u64 at_,.int .i64 tr,.bool pd]) 0) w=.ok (.agg #[.int .i64 ak,.int .u64 au]) w:=by kernel_rfl
theorem Tryz.Xfv (vb mt ml:Nat) (x:Int × Int) (ak au at_ tr:Int) (pd:Bool) (pth:List UInt8) (la:Int) (w:World) (hP:∀ W,Below w.heap.size w W->W.cell? ⟨vb,3,none⟩=some (.map (some mt))/\(Instr.lookup 120 (.map (some mt)) (nmV x) true).run prog W=.ok (.tuple #[.agg #[.int .i64 0,.int .u64 0,.int .u64 0,.int .i64 0,.bool false],.bool false]) W)
  (hP2:∀ W,Below w.heap.size w W->W.cell? ⟨vb,4,none⟩=some (.map (some ml))/\(Instr.lookup 121 (.map (some ml)) (nmV x) false).run prog W=.ok (.agg #[.int .i64 ak,.int .u64 au,.int .u64 at_,.int .i64 tr,.bool pd,.string ⟨pth.toArray⟩,.int .u64 la]) W) :
  Calls prog 134 #[.pointer (some ⟨vb,0,none⟩),nmV x] w fun e w'=>e=.returned (nmV (ak,au))/\Below w.heap.size w w':=by
 have hB0:Below w.heap.size w ((w.alloc (.cells #[.int .i64 x.1,.int .u64 x.2] 114)).alloc (.cells #[.int .i64 0,.int .u64 0] 114)):=((Below.refl _ w).alloc (Nat.le_refl _) _).alloc (by simp) _;have bN:=(BoxN.new w 114 #[.int .i64 x.1,.int .u64 x.2]).alloc (.cells #[.int .i64 0,.int .u64 0] 114);have bR:=BoxN.new (w.alloc (.cells #[.int .i64 x.1,.int .u64 x.2] 114)) 114 #[.int .i64 0,.int .u64 0];rw [World.size_alloc] at bR
 have hs0:((w.alloc (.cells #[.int .i64 x.1,.int .u64 x.2] 114)).alloc (.cells #[.int .i64 0,.int .u64 0] 114)).heap.size=w.heap.size+2:=by simp
 unfold nmV at hP hP2 ⊢;go_enter func134,ntmps134
 go_wp2_with fail
 generalize (w.alloc (.cells #[.int .i64 x.1,.int .u64 x.2] 114)).alloc (.cells #[.int .i64 0,.int .u64 0] 114)=W1 at *
 have hS:∀ W,Below (w.heap.size+2) W1 W->LkP vb 3 mt w.heap.size 120 x.1 x.2 (.tuple #[.agg #[.int .i64 0,.int .u64 0,.int .u64 0,.int .i64 0,.bool false],.bool false]) W:=fun W hb=>by
  have bN':=bN.below hb (by omega);obtain⟨h1,h2⟩:=hP W (hB0.trans (hb.mono (by omega)));exact⟨h1,bN'.cell 0 rfl,bN'.cell 1 rfl,h2⟩
 have hb1:Below (w.heap.size+2) W1 W1.drew:=(Below.refl _ _).drew;refine wp_region_held_drew (S:=(LkP vb 3 mt w.heap.size 120 x.1 x.2 (.tuple #[.agg #[.int .i64 0,.int .u64 0,.int .u64 0,.int .i64 0,.bool false],.bool false]))) (by kernel_rfl) (hS _ hb1) (fun hS0=>?_);refine Xt 0 ?v0 rfl ?y0 hS0 ?_
 case y0=>(rintro w ⟨q0,q1,q2,q3⟩;go_simp;try with_reducible rfl)
 refine Xt 1 ?v1 rfl ?y1 hS0 ?_
 case y1=>(rintro w ⟨q0,q1,q2,q3⟩;go_simp;try with_reducible rfl)
 refine Xt 2 ?v2 rfl ?y2 hS0 ?_
 case y2=>(rintro w ⟨q0,q1,q2,q3⟩;go_simp;try with_reducible rfl)
 refine Xt 3 ?v3 rfl ?y3 hS0 ?_
 case y3=>(rintro w ⟨q0,q1,q2,q3⟩;go_simp;try with_reducible rfl)
 refine Xt 4 ?v4 rfl ?y4 hS0 ?_
 case y4=>(rintro w ⟨q0,q1,q2,q3⟩;go_simp;try with_reducible rfl)
 refine Xt 5 ?v5 rfl ?y5 hS0 ?_
 case y5=>(rintro w ⟨q0,q1,q2,q3⟩;go_simp;try with_reducible rfl)
 refine Xt 6 ?v6 rfl ?y6 hS0 ?_
 case y6=>(rintro w ⟨q0,q1,q2,q3⟩;go_simp;try with_reducible rfl)
 refine Xt 7 ?v7 rfl ?y7 hS0 ?_
 case y7=>(rintro w ⟨q0,q1,q2,q3⟩;go_simp;try with_reducible rfl)
 refine Xt 8 ?v8 rfl ?y8 hS0 ?_
 case y8=>(rintro w ⟨q0,q1,q2,q3⟩;go_simp;try with_reducible rfl)
 refine Xh 9 rfl fun K hK=>?_;go_simp;refine hK.out _ _ (hS _ (hb1.alloc (by simp [hs0]) _)) (fun hS1=>?_);clear hK K;refine Xh 10 rfl fun K hK=>?_;go_simp;have hb2:Below (w.heap.size+2) W1 (W1.alloc (.cells #[.int .i64 0,.int .u64 0,.int .u64 0,.int .i64 0,.bool false] 153)).drew:=((Below.refl _ _).alloc (by omega) _).drew;refine hK.out _ _ (hS _ hb2) (fun hS2=>?_);clear hK K;refine Xh 11 rfl fun K hK=>?_;go_simp;refine hK.out _ _ hS2 (fun _=>?_);clear hK K hS0 hS1 hS2;refine wpAnyH_done (by kernel_rfl) ?_ _;have bR2:=bR.below hb2 (by omega);have bN2:=bN.below hb2 (by omega);have hBf:=hB0.trans (hb2.mono (by omega));obtain⟨hc4,hl4⟩:=hP2 _ hBf.drew;clear hS hP hP2 hb1 hb2 hB0 bN bR;generalize (W1.alloc (.cells #[.int .i64 0,.int .u64 0,.int .u64 0,.int .i64 0,.bool false] 153)).drew=W2 at *;have hc5:W2.cell? ⟨vb,4,none⟩=some (.map (some ml)):=hc4;have y0:=bN2.cell 0 (v:=.int .i64 x.1) rfl;have y1:=bN2.cell 1 (v:=.int .u64 x.2) rfl;have z0:=bR2.cell 0 (v:=.int .i64 0) rfl;have z1:=bR2.cell 1 (v:=.int .u64 0) rfl;have f0:=bR2.frozen 0;have f1:=bR2.frozen 1;have hfin:=(bR2.set 0 (.int .i64 ak)).set 1 (.int .u64 au);have r0:=hfin.cell 0 (v:=.int .i64 ak) (by simp);have r1:=hfin.cell 1 (v:=.int .u64 au) (by simp);have e1:=Xo9 ak au at_ tr pd ⟨pth.toArray⟩ la;have e2:=Xpi ak au at_ tr pd
 go_wp2_with fail
 go_region
 go_wp2;exact bodyPost_ret (v:=.agg #[.int .i64 ak,.int .u64 au]) (by simp [results,results134,go_sem,r0,r1]) rfl ⟨rfl,((hBf.setCell (p:=⟨w.heap.size+1,0,none⟩) (by show w.heap.size<=w.heap.size+1;omega) _).setCell (p:=⟨w.heap.size+1,1,none⟩) (by show w.heap.size<=w.heap.size+1;omega) _).drew⟩
end Go.Proofs
