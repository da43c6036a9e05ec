import Derived.Test.YtjbekgjdempbiaaGreatDoorJQueG
import Derived.Test.YtjbekgjdempbiaaGreatDoorJKpC
import Derived.Test.YtjbekgjdempbiaaGreatDoorJKpA
import Derived.Test.YtjbekgjdempbiaaGreatDoorJTkO
import Derived.Test.YtjbekgjdempbiaaGreatDoorJFndA
set_option maxRecDepth 100000
set_option maxHeartbeats 8000000
namespace Go.Proofs
open Go.RowKit Go.Sort Go.Lib Go.Shelf Go.Maps Go.WideMaps
theorem tmL_eq:∀ {ls:List LineD} {now:Int},(∀ l∈ls,l.tm≤now)→tmL now ls=now
 | [],_,_=>rfl
 | a :: ls,now,h=>by
  have h1:=h a (by simp)
  show tmL (max now a.tm) ls=now
  rw [show max now a.tm=now by omega];exact tmL_eq (fun l hl=>h l (List.mem_cons_of_mem _ hl))
theorem oldS_some {fd:Option (Nat × List UInt8)} {c:List UInt8} (h:oldS fd=c) (hc:c ≠ []):∃ b,fd=some (b,c):=by
 cases fd with
 | none=>exact absurd h.symm hc
 | some p =>
  obtain⟨b,x⟩:=p;have:x=c:=h;exact⟨b,by rw [this]⟩
theorem boxN_type {W:World} {b:Nat} {t t':TypeId} {cs cs':Array Value} (h:BoxN W b t cs) (h':BoxN W b t' cs'):t=t':=by
 have e:=h.symm.trans h';simp at e;exact e.2
theorem Tryz.lost {B hb rb:Nat} {σ:SS} {w:World} (hS:Sys B w hb rb σ) (hbw:B≤w.heap.size) (hc:σ.c ≠ []) (hl:σ.c.length<4294967281) (now:Int) (htm:σ.tm≤now) (hn1:now≤18446744073709551615) (ke pa:Int) (p0 : -9223372036854775808≤pa) (p1:pa≤9223372036854775807) :
  Calls prog 32 #[.pointer (some ⟨hb,0,none⟩),.int .i64 ke,.int .i64 pa] w fun e w1=>e=.returned (.tuple #[])∧Spares [hb,σ.k.db] w w1∧∀ w2,Below w1.heap.size w1 w2→∀ cc dd:Int,
   Calls prog 33 #[.pointer (some ⟨hb,0,none⟩),.int .u64 now,fallV (-1) (-1) cc dd] w2 fun e w'=>e=.returned (.int .i64 0)∧(∃ k vx,Sys B w' hb rb ⟨k,vx,now,σ.s,σ.c⟩)∧Below B w2 w'∧Spares [hb,σ.k.db] w2 w':=by
 obtain⟨k,vx,tm,s,c⟩:=σ;simp only at hc hl htm ⊢;obtain⟨fd,fn,hD,e1,e2⟩:=hS.wh.d;obtain⟨bd,rfl⟩:=oldS_some e1 hc;obtain⟨ls,hok,hs,hcc,hle⟩:=hS.wh.log.ex;simp only at hs hcc hle
 have hnel:ls ≠ []:=fun e=>by rw [e] at hcc;exact hc hcc
 obtain⟨ra,rc,hR⟩:=hS.rvb;have t0:=hS.wh.v.t0;simp only at t0;have hh:=hS.host;simp only at hh;have hdb:=hD.box;have ltm:=hS.wh.turns9;have b9:=hS.b9;have lo:=hS.low;have hlow:=hS.hlow;have low1:B≤k.db:=lo k.db (by simp [Blk.turns]);have low2:B≤k.md:=lo k.md (by simp [Blk.turns]);have hnr:=hh.ne hR (by decide);have hdr:=hdb.ne hR (by decide);refine(hLose_one hb k.db rb k.md k.mn bd _ c fn _ _ ke pa p0 p1 w hh hD).mono ?_;rintro e w1 ⟨rfl,bH1,mn',hge,hD1,hS1⟩;refine⟨rfl,hS1,fun w2 hb2 cc dd=>?_⟩;have hz:=hS1.size
 have hBw:Below B w w2:=(hS1.below hbw (fun b hb=>by
  simp only [List.mem_cons,List.not_mem_nil,or_false] at hb
  rcases hb with rfl | rfl
  ·exact hlow
  ·exact low1)).trans (hb2.mono (by omega))
 have hR2:=(hS1.box hR (by simp only [List.mem_cons,List.not_mem_nil,or_false,not_or];exact⟨Ne.symm hnr,Ne.symm hdr⟩)).below hb2 (Nat.lt_of_lt_of_le hR.lt hz);subst hs hcc;have h:=hOpen_one B hb k.db rb k.md mn' bd bd _ ra rc (-1) (-1) now cc dd ls hok hnel hl w2 (bH1.below hb2 bH1.lt) (hD1.below hb2) hR2 ⟨hlow,low1,hS.rlow,low2,by omega⟩ (by have:=hb2.size;omega) b9 (hS.wh.v.va.env.below hBw (Nat.le_trans (by decide) b9)) (hS.err.below (hBw.mono b9)) (by omega) hn1;rw [tmL_eq (fun l hl=>Int.le_trans (hle l hl) htm)] at h;exact h
theorem Tryz.kFail {B hb rb:Nat} {σ:SS} {w:World} (hS:Sys B w hb rb σ) (hbw:B≤w.heap.size) (hc:σ.c ≠ []) (hl:σ.c.length<4294967281) (now:Int) (htm:σ.tm≤now) (hn1:now≤18446744073709551615) (lose:Int) (l0 : -9223372036854775808≤lose) (l1:lose≤9223372036854775807) (i:Nat) (hi:i<8) :
  Calls prog 19 #[.pointer (some ⟨hb,0,none⟩),.int .i64 lose,.int .i64 i,.int .u64 now] w fun e w'=>e=.returned (.bool true)∧(∃ k vx tm',(tm'=σ.tm∨tm'=now)∧Sys B w' hb rb ⟨k,vx,tm',σ.s,σ.c⟩)∧Below B w w'∧∃ bs,Spares bs w w'∧∀ b∈bs,∀ t cs,BoxN w b t cs→t=78∨t=100:=by
 have hP:=fun W=>kPick lose 256 l0 l1 (by omega) (by omega) W
 have hw:=fun W=>well W
 have hL:=lost hS hbw hc hl now htm hn1 lose 0 (by omega) (by omega);obtain⟨p,hp,hp256⟩:=pick_nat lose 256 (by omega);rw [hp] at hP;unfold fallV at hw hL;go_enter func19,ntmps19
 go_wp2_with (go_at_call 17;refine(hP _).mono ?_;rintro e w1 ⟨rfl,rfl⟩)
 rotate_left
 ·refine hL.mono ?_
  rintro e w2 ⟨rfl,hS2,hO⟩
  go_wp2_with fail
  refine(hw _).mono ?_;rintro e w3 ⟨rfl,hb3⟩;have hO3:=hO w3 hb3 0 0
  go_wp2_with (go_at_call 33;refine hO3.mono ?_;rintro e w4 ⟨rfl,⟨k',vx',hS4⟩,hB4,hS4'⟩)
  go_ret;have hSp:Spares [hb,σ.k.db] w1 w4:=(hS2.trans (Spares.of_below hb3)).trans hS4';obtain⟨fd,fn,hD,-,-⟩:=hS.wh.d;refine⟨rfl,⟨k',vx',now,.inr rfl,hS4⟩,hSp.below hbw (fun b hb'=>?_),_,hSp,fun b hb' t cs hB=>?_⟩
  ·simp only [List.mem_cons,List.not_mem_nil,or_false] at hb'
   rcases hb' with rfl | rfl
   ·exact hS.hlow
   ·exact hS.low _ (by simp [Blk.turns])
  ·simp only [List.mem_cons,List.not_mem_nil,or_false] at hb'
   rcases hb' with rfl | rfl
   ·exact .inl (boxN_type hB hS.host)
   ·exact .inr (boxN_type hB hD.box)
 ·go_ret
  exact⟨rfl,⟨σ.k,σ.vx,σ.tm,.inl rfl,hS⟩,Below.refl _ _,[],Spares.of_below (Below.refl _ _),by simp⟩
theorem Tryz.Sys.cne {B hb rb:Nat} {σ:SS} {w:World} (hS:Sys B w hb rb σ) (h:σ.s.ln≠0):σ.c ≠ []:=fun e=>by
 obtain⟨ls,-,hs,hc,-⟩:=hS.wh.log.ex;rw [hc] at e;have h1:=lines_le ls;rw [e] at h1;have h2:ls = []:=List.eq_nil_of_length_eq_zero (by simpa using h1);rw [hs,h2] at h;exact h rfl
theorem Tryz.Sys.notTick {B hb rb:Nat} {σ:SS} {w:World} (hS:Sys B w hb rb σ) {b:Nat} {t:TypeId} {cs:Array Value} (hB:BoxN w b t cs) (h1:t≠126) (h2:t≠100) (h3:t≠88) (h4:t≠144):b∉htBs σ.k rb σ.vx.due:=fun hq=>by
 obtain⟨ra,rc,hR⟩:=hS.rvb;simp only [htBs,tickBs,List.mem_append,List.mem_cons] at hq
 rcases hq with hq | rfl | e | e
 ·exact hS.wh.no hB h1 h2 hq
 ·exact hB.ne hR h3 rfl
 ·simp [Value.ownBlock] at e
 ·obtain⟨-,cs',h5⟩:=row_box hS.due (g:=b) (by simpa using e)
  exact hB.ne h5 h4 rfl
theorem Tryz.Sys.lowTick {B hb rb:Nat} {σ:SS} {w:World} (hS:Sys B w hb rb σ):∀ q∈htBs σ.k rb σ.vx.due,B≤q:=fun q hq=>by
 simp only [htBs,tickBs,List.mem_append,List.mem_cons] at hq
 rcases hq with hq | rfl | e | e
 ·exact hS.low q hq
 ·exact hS.rlow
 ·simp [Value.ownBlock] at e
 ·exact(row_box hS.due (by simpa using e)).1
def tk1 (tm f:Int) (l:LeaE):List LeaE × List (Int × Nat):=if l.at_≤tm then (if (f % 2==1)=true then ([failL tm l],[(2,l.n)]) else ([],[(2,l.n)])) else ([l],[])
section
variable {B hb rb:Nat} {k:Blk} {vx:VX} {tm:Int} {tn ln:Nat} {tks:List TokE} {lks:List LeaE} {c:List UInt8} {w:World}
end
def leaP (at_ last:Int):LeaE:=⟨2,1,0,at_,0,false,[112],last⟩
end Go.Proofs
namespace Go.Proofs
open Go.RowKit Go.Sort Go.Lib Go.Shelf Go.Maps
inductive ClimbN (tks:List TokE) (top:Int × Int) (b:Bool):Nat→Int × Int→Prop where
 | here (hb:b=true) {x:Int × Int} (hx:x=top):ClimbN tks top b 0 x
 | off (hb:b=false) {x:Int × Int} (hx:x≠top) (hw:NmWf x) (hn:∀ t∈tks,x≠(1,(t.n:Int))):ClimbN tks top b 0 x
 | up {m:Nat} {x:Int × Int} (t:TokE) (ht:t∈tks) (hx:x≠top) (he:x=(1,(t.n:Int))) (h:ClimbN tks top b m (t.ak,(t.au:Int))):ClimbN tks top b (m+1) x
def Tryz.WiR (tks:List TokE) (top:Int × Int) (b:Bool) (w wr:World) (m:Nat):Prop:=∃ y,ClimbN tks top b m y∧BoxN wr w.heap.size 114 #[.int .i64 y.1,.int .u64 y.2]∧BoxN wr (w.heap.size+1) 114 #[.int .i64 top.1,.int .u64 top.2]∧Below w.heap.size w wr
theorem Tryz.isWithin (vb mt ml:Nat) (vx:VX) (tm tn ln:Int) (tks:List TokE) (lks:List LeaE) (w:World) (hV:VaultAt w vb mt ml vx tm tn ln tks lks) (x top:Int × Int) (n:Nat) (b:Bool) (hC:ClimbN tks top b n x) :
  Calls prog 88 #[.pointer (some ⟨vb,0,none⟩),nmV x,nmV top] w fun e w'=>e=.returned (.bool b)∧Below w.heap.size w w':=by
 obtain⟨p1,p2⟩:=top;have bN:=(BoxN.new w 114 #[.int .i64 x.1,.int .u64 x.2]).alloc (.cells #[.int .i64 p1,.int .u64 p2] 114);have bT:=BoxN.new (w.alloc (.cells #[.int .i64 x.1,.int .u64 x.2] 114)) 114 #[.int .i64 p1,.int .u64 p2];rw [World.size_alloc] at bT;have hB0:Below w.heap.size w ((w.alloc (.cells #[.int .i64 x.1,.int .u64 x.2] 114)).alloc (.cells #[.int .i64 p1,.int .u64 p2] 114)):=((Below.refl _ w).alloc (Nat.le_refl _) _).alloc (by simp) _;have lv:=hV.v.lt
 have hst:∃ m,WiR tks (p1,p2) b w ((w.alloc (.cells #[.int .i64 x.1,.int .u64 x.2] 114)).alloc (.cells #[.int .i64 p1,.int .u64 p2] 114)) m:=⟨n,x,hC,bN,bT,hB0⟩
 clear bN bT hB0 hC;unfold nmV;go_enter func88,ntmps88
 go_wp2_with fail
 generalize (w.alloc (.cells #[.int .i64 x.1,.int .u64 x.2] 114)).alloc (.cells #[.int .i64 p1,.int .u64 p2] 114)=W0 at *
 go_loopw [] (fun wr=>∃ m,WiR tks (p1,p2) b w wr m) (fun wr=>leastOf (WiR tks (p1,p2) b w wr))
 case atStart=>exact hst
 case round =>
  clear hst;have hm:=leastOf_spec hrel;clear hrel
  obtain⟨m,hme⟩:∃ m,leastOf (WiR tks (p1,p2) b w wr)=m:=⟨_,rfl⟩
  rw [hme] at hm;have HM:=hid_intro hme;clear hme;obtain⟨⟨y1,y2⟩,hC,bN,bT,hB⟩:=hm;simp only at bN
  obtain⟨W1,hW1⟩:∃ W1,W1=wr:=⟨_,rfl⟩
  subst hW1
  obtain⟨N,hs0⟩:∃ N,W1.heap.size=N:=⟨_,rfl⟩
  have lT:=bT.lt;have lN:=bN.lt;have hzw:=hB.size;have n0:=bN.cell 0 (v:=.int .i64 y1) rfl;have n1:=bN.cell 1 (v:=.int .u64 y2) rfl;have t0:=bT.cell 0 (v:=.int .i64 p1) rfl;have t1:=bT.cell 1 (v:=.int .u64 p2) rfl;have hb1:Below N W1 W1.drew:=(Below.refl _ _).drew
  cases hC with
  | here hb hx =>
   subst hb;obtain⟨rfl,rfl⟩:=Prod.mk.inj hx;go_wp2;go_ret;exact⟨rfl,hB⟩
  | off hb hx hw hn =>
   subst hb
   have hS:∀ W,Below N W1 W→LkP vb 3 mt w.heap.size 120 y1 y2 (.tuple #[.agg #[.int .i64 0,.int .u64 0,.int .u64 0,.int .i64 0,.bool false],.bool false]) W:=fun W hb=>by
    have bN':=bN.below hb (by omega);have hV':=hV.below (hB.trans (hb.mono (by omega)));exact⟨hV'.v.cell 3 rfl,bN'.cell 0 rfl,bN'.cell 1 rfl,hV'.lookT_no hw hn⟩
   by_cases h1:y1=p1
   ·have h2:y2≠p2:=fun e=>hx (Prod.ext h1 e)
    subst h1
    go_wp2_with fail
    refine wp_region_held_drew (S:=(LkP vb 3 mt w.heap.size 120 y1 y2 (.tuple #[.agg #[.int .i64 0,.int .u64 0,.int .u64 0,.int .i64 0,.bool false],.bool false]))) (by kernel_rfl) (hS _ hb1) (fun hS0=>?_);refine wpAnyH_take (i:=0) (v:=?v0a) rfl (by kernel_rfl) (by kernel_rfl) (by kernel_rfl) (fun _ _ _ h=>h) (Or.inl ⟨by kernel_rfl,?y0a⟩) hS0 ?_
    case y0a=>(intro w hSw;obtain⟨q0,q1,q2,q3⟩:=hSw;go_simp;try with_reducible rfl)
    refine wpAnyH_take (i:=1) (v:=?v1a) rfl (by kernel_rfl) (by kernel_rfl) (by kernel_rfl) (fun _ _ _ h=>h) (Or.inl ⟨by kernel_rfl,?y1a⟩) hS0 ?_
    case y1a=>(intro w hSw;obtain⟨q0,q1,q2,q3⟩:=hSw;go_simp;try with_reducible rfl)
    refine wpAnyH_take (i:=2) (v:=?v2a) rfl (by kernel_rfl) (by kernel_rfl) (by kernel_rfl) (fun _ _ _ h=>h) (Or.inl ⟨by kernel_rfl,?y2a⟩) hS0 ?_
    case y2a=>(intro w hSw;obtain⟨q0,q1,q2,q3⟩:=hSw;go_simp;try with_reducible rfl)
    refine wpAnyH_take (i:=3) (v:=?v3a) rfl (by kernel_rfl) (by kernel_rfl) (by kernel_rfl) (fun _ _ _ h=>h) (Or.inl ⟨by kernel_rfl,?y3a⟩) hS0 ?_
    case y3a=>(intro w hSw;obtain⟨q0,q1,q2,q3⟩:=hSw;go_simp;try with_reducible rfl)
    refine wpAnyH_take (i:=4) (v:=?v4a) rfl (by kernel_rfl) (by kernel_rfl) (by kernel_rfl) (fun _ _ _ h=>h) (Or.inl ⟨by kernel_rfl,?y4a⟩) hS0 ?_
    case y4a=>(intro w hSw;obtain⟨q0,q1,q2,q3⟩:=hSw;go_simp;try with_reducible rfl)
    refine wpAnyH_take (i:=5) (v:=?v5a) rfl (by kernel_rfl) (by kernel_rfl) (by kernel_rfl) (fun _ _ _ h=>h) (Or.inl ⟨by kernel_rfl,?y5a⟩) hS0 ?_
    case y5a=>(intro w hSw;obtain⟨q0,q1,q2,q3⟩:=hSw;go_simp;try with_reducible rfl)
    refine wpAnyH_take (i:=6) (v:=?v6a) rfl (by kernel_rfl) (by kernel_rfl) (by kernel_rfl) (fun _ _ _ h=>h) (Or.inl ⟨by kernel_rfl,?y6a⟩) hS0 ?_
    case y6a=>(intro w hSw;obtain⟨q0,q1,q2,q3⟩:=hSw;go_simp;try with_reducible rfl)
    refine wpAnyH_take (i:=7) (v:=?v7a) rfl (by kernel_rfl) (by kernel_rfl) (by kernel_rfl) (fun _ _ _ h=>h) (Or.inl ⟨by kernel_rfl,?y7a⟩) hS0 ?_
    case y7a=>(intro w hSw;obtain⟨q0,q1,q2,q3⟩:=hSw;go_simp;try with_reducible rfl)
    refine wpAnyH_take (i:=8) (v:=?v8a) rfl (by kernel_rfl) (by kernel_rfl) (by kernel_rfl) (fun _ _ _ h=>h) (Or.inl ⟨by kernel_rfl,?y8a⟩) hS0 ?_
    case y8a=>(intro w hSw;obtain⟨q0,q1,q2,q3⟩:=hSw;go_simp;try with_reducible rfl)
    refine wpAnyH_ready (rs:=[9]) (by kernel_rfl) (by simp) ?_;refine AllReadyH.cons rfl (fun K hK=>?_) AllReadyH.nil;go_simp;refine hK.out _ _ (hS _ (hb1.alloc (by simp [hs0]) _)) (fun hS1=>?_);clear hK K;refine wpAnyH_ready (rs:=[10]) (by kernel_rfl) (by simp) ?_;refine AllReadyH.cons rfl (fun K hK=>?_) AllReadyH.nil;go_simp;have hb2:Below N W1 (W1.alloc (.cells #[.int .i64 0,.int .u64 0,.int .u64 0,.int .i64 0,.bool false] 153)).drew:=((Below.refl _ _).alloc (by omega) _).drew;refine hK.out _ _ (hS _ hb2) (fun hS2=>?_);clear hK K;refine wpAnyH_ready (rs:=[11]) (by kernel_rfl) (by simp) ?_;refine AllReadyH.cons rfl (fun K hK=>?_) AllReadyH.nil;go_simp;refine hK.out _ _ hS2 (fun _=>?_);clear hK K hS0 hS1 hS2;refine wpAnyH_done (by kernel_rfl) ?_ _;go_wp2;go_ret;exact⟨rfl,hB.trans (hb2.mono (by omega))⟩
   ·go_wp2_with fail
    refine wp_region_held_drew (S:=(LkP vb 3 mt w.heap.size 120 y1 y2 (.tuple #[.agg #[.int .i64 0,.int .u64 0,.int .u64 0,.int .i64 0,.bool false],.bool false]))) (by kernel_rfl) (hS _ hb1) (fun hS0=>?_);refine wpAnyH_take (i:=0) (v:=?v0b) rfl (by kernel_rfl) (by kernel_rfl) (by kernel_rfl) (fun _ _ _ h=>h) (Or.inl ⟨by kernel_rfl,?y0b⟩) hS0 ?_
    case y0b=>(intro w hSw;obtain⟨q0,q1,q2,q3⟩:=hSw;go_simp;try with_reducible rfl)
    refine wpAnyH_take (i:=1) (v:=?v1b) rfl (by kernel_rfl) (by kernel_rfl) (by kernel_rfl) (fun _ _ _ h=>h) (Or.inl ⟨by kernel_rfl,?y1b⟩) hS0 ?_
    case y1b=>(intro w hSw;obtain⟨q0,q1,q2,q3⟩:=hSw;go_simp;try with_reducible rfl)
    refine wpAnyH_take (i:=2) (v:=?v2b) rfl (by kernel_rfl) (by kernel_rfl) (by kernel_rfl) (fun _ _ _ h=>h) (Or.inl ⟨by kernel_rfl,?y2b⟩) hS0 ?_
    case y2b=>(intro w hSw;obtain⟨q0,q1,q2,q3⟩:=hSw;go_simp;try with_reducible rfl)
    refine wpAnyH_take (i:=3) (v:=?v3b) rfl (by kernel_rfl) (by kernel_rfl) (by kernel_rfl) (fun _ _ _ h=>h) (Or.inl ⟨by kernel_rfl,?y3b⟩) hS0 ?_
    case y3b=>(intro w hSw;obtain⟨q0,q1,q2,q3⟩:=hSw;go_simp;try with_reducible rfl)
    refine wpAnyH_take (i:=4) (v:=?v4b) rfl (by kernel_rfl) (by kernel_rfl) (by kernel_rfl) (fun _ _ _ h=>h) (Or.inl ⟨by kernel_rfl,?y4b⟩) hS0 ?_
    case y4b=>(intro w hSw;obtain⟨q0,q1,q2,q3⟩:=hSw;go_simp;try with_reducible rfl)
    refine wpAnyH_take (i:=5) (v:=?v5b) rfl (by kernel_rfl) (by kernel_rfl) (by kernel_rfl) (fun _ _ _ h=>h) (Or.inl ⟨by kernel_rfl,?y5b⟩) hS0 ?_
    case y5b=>(intro w hSw;obtain⟨q0,q1,q2,q3⟩:=hSw;go_simp;try with_reducible rfl)
    refine wpAnyH_take (i:=6) (v:=?v6b) rfl (by kernel_rfl) (by kernel_rfl) (by kernel_rfl) (fun _ _ _ h=>h) (Or.inl ⟨by kernel_rfl,?y6b⟩) hS0 ?_
    case y6b=>(intro w hSw;obtain⟨q0,q1,q2,q3⟩:=hSw;go_simp;try with_reducible rfl)
    refine wpAnyH_take (i:=7) (v:=?v7b) rfl (by kernel_rfl) (by kernel_rfl) (by kernel_rfl) (fun _ _ _ h=>h) (Or.inl ⟨by kernel_rfl,?y7b⟩) hS0 ?_
    case y7b=>(intro w hSw;obtain⟨q0,q1,q2,q3⟩:=hSw;go_simp;try with_reducible rfl)
    refine wpAnyH_take (i:=8) (v:=?v8b) rfl (by kernel_rfl) (by kernel_rfl) (by kernel_rfl) (fun _ _ _ h=>h) (Or.inl ⟨by kernel_rfl,?y8b⟩) hS0 ?_
    case y8b=>(intro w hSw;obtain⟨q0,q1,q2,q3⟩:=hSw;go_simp;try with_reducible rfl)
    refine wpAnyH_ready (rs:=[9]) (by kernel_rfl) (by simp) ?_;refine AllReadyH.cons rfl (fun K hK=>?_) AllReadyH.nil;go_simp;refine hK.out _ _ (hS _ (hb1.alloc (by simp [hs0]) _)) (fun hS1=>?_);clear hK K;refine wpAnyH_ready (rs:=[10]) (by kernel_rfl) (by simp) ?_;refine AllReadyH.cons rfl (fun K hK=>?_) AllReadyH.nil;go_simp;have hb2:Below N W1 (W1.alloc (.cells #[.int .i64 0,.int .u64 0,.int .u64 0,.int .i64 0,.bool false] 153)).drew:=((Below.refl _ _).alloc (by omega) _).drew;refine hK.out _ _ (hS _ hb2) (fun hS2=>?_);clear hK K;refine wpAnyH_ready (rs:=[11]) (by kernel_rfl) (by simp) ?_;refine AllReadyH.cons rfl (fun K hK=>?_) AllReadyH.nil;go_simp;refine hK.out _ _ hS2 (fun _=>?_);clear hK K hS0 hS1 hS2;refine wpAnyH_done (by kernel_rfl) ?_ _;go_wp2;go_ret;exact⟨rfl,hB.trans (hb2.mono (by omega))⟩
  | @up m' _ t ht hx he h =>
   have hS:∀ W,Below N W1 W→LkP vb 3 mt w.heap.size 120 y1 y2 (.tuple #[.agg #[.int .i64 t.ak,.int .u64 t.au,.int .u64 t.at_,.int .i64 t.tr,.bool t.pd],.bool true]) W:=fun W hb=>by
    have bN':=bN.below hb (by omega);have hV':=hV.below (hB.trans (hb.mono (by omega)));have hl:=hV'.lookT ht;rw [← he] at hl;exact⟨hV'.v.cell 3 rfl,bN'.cell 0 rfl,bN'.cell 1 rfl,hl⟩
   have hBt:BoxN (W1.alloc (.cells #[.int .i64 t.ak,.int .u64 t.au,.int .u64 t.at_,.int .i64 t.tr,.bool t.pd] 153)).drew N 153 #[.int .i64 t.ak,.int .u64 t.au,.int .u64 t.at_,.int .i64 t.tr,.bool t.pd]:=by
    have h:=BoxN.new W1 153 #[.int .i64 t.ak,.int .u64 t.au,.int .u64 t.at_,.int .i64 t.tr,.bool t.pd];rw [hs0] at h;exact h
   have hfin:∀ W2,Below N W1 W2→WiR tks (p1,p2) b w ((W2.setCell ⟨w.heap.size,0,none⟩ (.int .i64 t.ak)).setCell ⟨w.heap.size,1,none⟩ (.int .u64 t.au)) m':=fun W2 hb2=>⟨(t.ak,(t.au:Int)),h,((bN.below hb2 (by omega)).set 0 (.int .i64 t.ak)).set 1 (.int .u64 t.au),((bT.below hb2 (by omega)).other (by omega) 0 _).other (by omega) 1 _,((hB.trans (hb2.mono (by omega))).setCell (p:=⟨w.heap.size,0,none⟩) (Nat.le_refl _) _).setCell (p:=⟨w.heap.size,1,none⟩) (Nat.le_refl _) _⟩
   have HF:=hid_intro hfin;clear hfin h
   by_cases h1:y1=p1
   ·have h2:y2≠p2:=fun e=>hx (Prod.ext h1 e)
    subst h1
    go_wp2_with fail
    refine wp_region_held_drew (S:=(LkP vb 3 mt w.heap.size 120 y1 y2 (.tuple #[.agg #[.int .i64 t.ak,.int .u64 t.au,.int .u64 t.at_,.int .i64 t.tr,.bool t.pd],.bool true]))) (by kernel_rfl) (hS _ hb1) (fun hS0=>?_);refine wpAnyH_take (i:=0) (v:=?v0c) rfl (by kernel_rfl) (by kernel_rfl) (by kernel_rfl) (fun _ _ _ h=>h) (Or.inl ⟨by kernel_rfl,?y0c⟩) hS0 ?_
    case y0c=>(intro w hSw;obtain⟨q0,q1,q2,q3⟩:=hSw;go_simp;try with_reducible rfl)
    refine wpAnyH_take (i:=1) (v:=?v1c) rfl (by kernel_rfl) (by kernel_rfl) (by kernel_rfl) (fun _ _ _ h=>h) (Or.inl ⟨by kernel_rfl,?y1c⟩) hS0 ?_
    case y1c=>(intro w hSw;obtain⟨q0,q1,q2,q3⟩:=hSw;go_simp;try with_reducible rfl)
    refine wpAnyH_take (i:=2) (v:=?v2c) rfl (by kernel_rfl) (by kernel_rfl) (by kernel_rfl) (fun _ _ _ h=>h) (Or.inl ⟨by kernel_rfl,?y2c⟩) hS0 ?_
    case y2c=>(intro w hSw;obtain⟨q0,q1,q2,q3⟩:=hSw;go_simp;try with_reducible rfl)
    refine wpAnyH_take (i:=3) (v:=?v3c) rfl (by kernel_rfl) (by kernel_rfl) (by kernel_rfl) (fun _ _ _ h=>h) (Or.inl ⟨by kernel_rfl,?y3c⟩) hS0 ?_
    case y3c=>(intro w hSw;obtain⟨q0,q1,q2,q3⟩:=hSw;go_simp;try with_reducible rfl)
    refine wpAnyH_take (i:=4) (v:=?v4c) rfl (by kernel_rfl) (by kernel_rfl) (by kernel_rfl) (fun _ _ _ h=>h) (Or.inl ⟨by kernel_rfl,?y4c⟩) hS0 ?_
    case y4c=>(intro w hSw;obtain⟨q0,q1,q2,q3⟩:=hSw;go_simp;try with_reducible rfl)
    refine wpAnyH_take (i:=5) (v:=?v5c) rfl (by kernel_rfl) (by kernel_rfl) (by kernel_rfl) (fun _ _ _ h=>h) (Or.inl ⟨by kernel_rfl,?y5c⟩) hS0 ?_
    case y5c=>(intro w hSw;obtain⟨q0,q1,q2,q3⟩:=hSw;go_simp;try with_reducible rfl)
    refine wpAnyH_take (i:=6) (v:=?v6c) rfl (by kernel_rfl) (by kernel_rfl) (by kernel_rfl) (fun _ _ _ h=>h) (Or.inl ⟨by kernel_rfl,?y6c⟩) hS0 ?_
    case y6c=>(intro w hSw;obtain⟨q0,q1,q2,q3⟩:=hSw;go_simp;try with_reducible rfl)
    refine wpAnyH_take (i:=7) (v:=?v7c) rfl (by kernel_rfl) (by kernel_rfl) (by kernel_rfl) (fun _ _ _ h=>h) (Or.inl ⟨by kernel_rfl,?y7c⟩) hS0 ?_
    case y7c=>(intro w hSw;obtain⟨q0,q1,q2,q3⟩:=hSw;go_simp;try with_reducible rfl)
    refine wpAnyH_take (i:=8) (v:=?v8c) rfl (by kernel_rfl) (by kernel_rfl) (by kernel_rfl) (fun _ _ _ h=>h) (Or.inl ⟨by kernel_rfl,?y8c⟩) hS0 ?_
    case y8c=>(intro w hSw;obtain⟨q0,q1,q2,q3⟩:=hSw;go_simp;try with_reducible rfl)
    refine wpAnyH_ready (rs:=[9]) (by kernel_rfl) (by simp) ?_;refine AllReadyH.cons rfl (fun K hK=>?_) AllReadyH.nil;go_simp;refine hK.out _ _ (hS _ (hb1.alloc (by simp [hs0]) _)) (fun hS1=>?_);clear hK K;refine wpAnyH_ready (rs:=[10]) (by kernel_rfl) (by simp) ?_;refine AllReadyH.cons rfl (fun K hK=>?_) AllReadyH.nil;go_simp;have hb2:Below N W1 (W1.alloc (.cells #[.int .i64 t.ak,.int .u64 t.au,.int .u64 t.at_,.int .i64 t.tr,.bool t.pd] 153)).drew:=((Below.refl _ _).alloc (by omega) _).drew;refine hK.out _ _ (hS _ hb2) (fun hS2=>?_);clear hK K;refine wpAnyH_ready (rs:=[11]) (by kernel_rfl) (by simp) ?_;refine AllReadyH.cons rfl (fun K hK=>?_) AllReadyH.nil;go_simp;refine hK.out _ _ hS2 (fun _=>?_);clear hK K hS0 hS1 hS2;refine wpAnyH_done (by kernel_rfl) ?_ _;have bN2:=bN.below hb2 (by omega);have r:=(hid_elim HF) _ hb2;generalize (W1.alloc (.cells #[.int .i64 t.ak,.int .u64 t.au,.int .u64 t.at_,.int .i64 t.tr,.bool t.pd] 153)).drew=W2 at *;have u0:=hBt.cell 0 (v:=.int .i64 t.ak) rfl;have u1:=hBt.cell 1 (v:=.int .u64 t.au) rfl;have z0:=bN2.cell 0 (v:=.int .i64 y1) rfl;have z1:=bN2.cell 1 (v:=.int .u64 y2) rfl;have f0:=bN2.frozen 0;have f1:=bN2.frozen 1;clear hS n0 n1 t0 t1;go_wp2;exact⟨⟨_,r⟩,by rw [hid_elim HM];exact Nat.lt_succ_of_le (leastOf_le r)⟩
   ·go_wp2_with fail
    refine wp_region_held_drew (S:=(LkP vb 3 mt w.heap.size 120 y1 y2 (.tuple #[.agg #[.int .i64 t.ak,.int .u64 t.au,.int .u64 t.at_,.int .i64 t.tr,.bool t.pd],.bool true]))) (by kernel_rfl) (hS _ hb1) (fun hS0=>?_);refine wpAnyH_take (i:=0) (v:=?v0d) rfl (by kernel_rfl) (by kernel_rfl) (by kernel_rfl) (fun _ _ _ h=>h) (Or.inl ⟨by kernel_rfl,?y0d⟩) hS0 ?_
    case y0d=>(intro w hSw;obtain⟨q0,q1,q2,q3⟩:=hSw;go_simp;try with_reducible rfl)
    refine wpAnyH_take (i:=1) (v:=?v1d) rfl (by kernel_rfl) (by kernel_rfl) (by kernel_rfl) (fun _ _ _ h=>h) (Or.inl ⟨by kernel_rfl,?y1d⟩) hS0 ?_
    case y1d=>(intro w hSw;obtain⟨q0,q1,q2,q3⟩:=hSw;go_simp;try with_reducible rfl)
    refine wpAnyH_take (i:=2) (v:=?v2d) rfl (by kernel_rfl) (by kernel_rfl) (by kernel_rfl) (fun _ _ _ h=>h) (Or.inl ⟨by kernel_rfl,?y2d⟩) hS0 ?_
    case y2d=>(intro w hSw;obtain⟨q0,q1,q2,q3⟩:=hSw;go_simp;try with_reducible rfl)
    refine wpAnyH_take (i:=3) (v:=?v3d) rfl (by kernel_rfl) (by kernel_rfl) (by kernel_rfl) (fun _ _ _ h=>h) (Or.inl ⟨by kernel_rfl,?y3d⟩) hS0 ?_
    case y3d=>(intro w hSw;obtain⟨q0,q1,q2,q3⟩:=hSw;go_simp;try with_reducible rfl)
    refine wpAnyH_take (i:=4) (v:=?v4d) rfl (by kernel_rfl) (by kernel_rfl) (by kernel_rfl) (fun _ _ _ h=>h) (Or.inl ⟨by kernel_rfl,?y4d⟩) hS0 ?_
    case y4d=>(intro w hSw;obtain⟨q0,q1,q2,q3⟩:=hSw;go_simp;try with_reducible rfl)
    refine wpAnyH_take (i:=5) (v:=?v5d) rfl (by kernel_rfl) (by kernel_rfl) (by kernel_rfl) (fun _ _ _ h=>h) (Or.inl ⟨by kernel_rfl,?y5d⟩) hS0 ?_
    case y5d=>(intro w hSw;obtain⟨q0,q1,q2,q3⟩:=hSw;go_simp;try with_reducible rfl)
    refine wpAnyH_take (i:=6) (v:=?v6d) rfl (by kernel_rfl) (by kernel_rfl) (by kernel_rfl) (fun _ _ _ h=>h) (Or.inl ⟨by kernel_rfl,?y6d⟩) hS0 ?_
    case y6d=>(intro w hSw;obtain⟨q0,q1,q2,q3⟩:=hSw;go_simp;try with_reducible rfl)
    refine wpAnyH_take (i:=7) (v:=?v7d) rfl (by kernel_rfl) (by kernel_rfl) (by kernel_rfl) (fun _ _ _ h=>h) (Or.inl ⟨by kernel_rfl,?y7d⟩) hS0 ?_
    case y7d=>(intro w hSw;obtain⟨q0,q1,q2,q3⟩:=hSw;go_simp;try with_reducible rfl)
    refine wpAnyH_take (i:=8) (v:=?v8d) rfl (by kernel_rfl) (by kernel_rfl) (by kernel_rfl) (fun _ _ _ h=>h) (Or.inl ⟨by kernel_rfl,?y8d⟩) hS0 ?_
    case y8d=>(intro w hSw;obtain⟨q0,q1,q2,q3⟩:=hSw;go_simp;try with_reducible rfl)
    refine wpAnyH_ready (rs:=[9]) (by kernel_rfl) (by simp) ?_;refine AllReadyH.cons rfl (fun K hK=>?_) AllReadyH.nil;go_simp;refine hK.out _ _ (hS _ (hb1.alloc (by simp [hs0]) _)) (fun hS1=>?_);clear hK K;refine wpAnyH_ready (rs:=[10]) (by kernel_rfl) (by simp) ?_;refine AllReadyH.cons rfl (fun K hK=>?_) AllReadyH.nil;go_simp;have hb2:Below N W1 (W1.alloc (.cells #[.int .i64 t.ak,.int .u64 t.au,.int .u64 t.at_,.int .i64 t.tr,.bool t.pd] 153)).drew:=((Below.refl _ _).alloc (by omega) _).drew;refine hK.out _ _ (hS _ hb2) (fun hS2=>?_);clear hK K;refine wpAnyH_ready (rs:=[11]) (by kernel_rfl) (by simp) ?_;refine AllReadyH.cons rfl (fun K hK=>?_) AllReadyH.nil;go_simp;refine hK.out _ _ hS2 (fun _=>?_);clear hK K hS0 hS1 hS2;refine wpAnyH_done (by kernel_rfl) ?_ _;have bN2:=bN.below hb2 (by omega);have r:=(hid_elim HF) _ hb2;generalize (W1.alloc (.cells #[.int .i64 t.ak,.int .u64 t.au,.int .u64 t.at_,.int .i64 t.tr,.bool t.pd] 153)).drew=W2 at *;have u0:=hBt.cell 0 (v:=.int .i64 t.ak) rfl;have u1:=hBt.cell 1 (v:=.int .u64 t.au) rfl;have z0:=bN2.cell 0 (v:=.int .i64 y1) rfl;have z1:=bN2.cell 1 (v:=.int .u64 y2) rfl;have f0:=bN2.frozen 0;have f1:=bN2.frozen 1;clear hS n0 n1 t0 t1;go_wp2;exact⟨⟨_,r⟩,by rw [hid_elim HM];exact Nat.lt_succ_of_le (leastOf_le r)⟩
theorem Tryz.vRevPre1 (pb:Nat) (pre:List UInt8) (l:LeaE) (w:World) (hP:BoxN w pb 9 #[.string ⟨pre.toArray⟩]) :
  Calls prog 93 #[.agg l.cells,.pointer (some ⟨pb,0,none⟩)] w fun e w'=>e=.returned (.bool (beginsB l.pth pre))∧Below w.heap.size w w':=by
 have hB0:Below w.heap.size w (w.alloc (.cells l.cells 131)):=(Below.refl _ w).alloc (Nat.le_refl _) _;have p0:=(hP.alloc (.cells l.cells 131)).cell 0 (v:=.string ⟨pre.toArray⟩) rfl
 have hW:=fun W=>within l.pth pre W
 obtain⟨n,ak,au,at_,tr,pd,pth,la⟩:=l;simp only [LeaE.cells] at *;go_enter func93,ntmps93
 go_wp2_with (go_at_call 94;refine(hW _).mono ?_;rintro e w1 ⟨rfl,rfl⟩)
 go_ret;exact⟨rfl,hB0⟩
theorem Tryz.vRevTok1 (vb mt ml:Nat) (vx:VX) (tm tn ln:Int) (tks:List TokE) (lks:List LeaE) (bv tb:Nat) (top:Int × Int) (l:LeaE) (w:World) (hV:VaultAt w vb mt ml vx tm tn ln tks lks) (hv:BoxN w bv 76 #[.pointer (some ⟨vb,0,none⟩)]) (ht:BoxN w tb 114 #[.int .i64 top.1,.int .u64 top.2]) (b:Bool) (n:Nat) (hC:ClimbN tks top b n (l.ak,(l.au:Int))) :
  Calls prog 87 #[.agg l.cells,.pointer (some ⟨bv,0,none⟩),.pointer (some ⟨tb,0,none⟩)] w fun e w'=>e=.returned (.bool b)∧Below w.heap.size w w':=by
 have hB0:Below w.heap.size w (w.alloc (.cells l.cells 131)):=(Below.refl _ w).alloc (Nat.le_refl _) _;have p0:=(hv.alloc (.cells l.cells 131)).cell 0 (v:=.pointer (some ⟨vb,0,none⟩)) rfl;have q0:=(ht.alloc (.cells l.cells 131)).cell 0 (v:=.int .i64 top.1) rfl;have q1:=(ht.alloc (.cells l.cells 131)).cell 1 (v:=.int .u64 top.2) rfl;have hW:=isWithin vb mt ml vx tm tn ln tks lks _ (hV.below hB0) (l.ak,(l.au:Int)) top n b hC;obtain⟨ln',ak,au,at_,tr,pd,pth,la⟩:=l;simp only [LeaE.cells,nmV] at *;go_enter func87,ntmps87
 go_wp2_with (go_at_call 88;refine hW.mono ?_;rintro e w1 ⟨rfl,hb1⟩)
 go_ret;exact⟨rfl,hB0.trans (hb1.mono hB0.size)⟩
end Go.Proofs
