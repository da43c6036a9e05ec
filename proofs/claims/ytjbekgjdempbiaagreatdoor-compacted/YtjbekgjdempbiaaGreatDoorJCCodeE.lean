import Derived.Test.YtjbekgjdempbiaaGreatDoorJCVKeep
import Derived.Test.YtjbekgjdempbiaaGreatDoorJCDiskB
import Derived.Test.YtjbekgjdempbiaaGreatDoorJValid
set_option maxRecDepth 100000
set_option maxHeartbeats 8000000
namespace Go.Proofs
open Go.RowKit Go.Sort Go.Lib Go.Shelf Go.Maps
theorem Tryz.Whole.lts {W:World} {k:Blk} {vx:VX} {tm:Int} {s:VSt} {c:List UInt8} {l f:Int} (hW:Whole W k vx tm s c l f):∀ b∈k.turns,b<W.heap.size:=fun b hb=>by
 obtain⟨fd,fn,hd,-,-⟩:=hW.d;have h1:=hW.v.va.v.lt;obtain⟨h2,h2'⟩:=hW.v.va.held.lt;obtain⟨h3,h4,h5⟩:=hd.lt;simp only [Blk.turns,List.mem_cons,List.not_mem_nil,or_false] at hb
 rcases hb with rfl | rfl | rfl | rfl | rfl | rfl <;> assumption
theorem Tryz.Xmj (k:Blk) (vx:VX) (tm:Int) (s:VSt) (c:List UInt8) (l f:Int) (i:Item) (w:World) (hW:Whole w k vx tm s c l f) (hl:l<0) (hl1 : -999999990<=l) (hf:f<0) (hf1 : -999999990<=f) (hc:c.length<=900000000000) (hF:i.Fits s) :
  Calls prog 66 #[.pointer (some ⟨k.vb,0,none⟩),.slice (some ⟨w.heap.size,0,none⟩) 1 1] (w.alloc (.cells i.rec_.cells 135)) fun e w'=>e=.returned .nilIface/\Whole w' k vx tm (i.app s) (c++keepLine tm [i]) (l-2) (f-2)/\Spares k.turns w w':=by
 have hB:Below w.heap.size w (w.alloc (.cells i.rec_.cells 135)):=(Below.refl _ _).alloc (Nat.le_refl _) _;have bN:=BoxN.new w 135 i.rec_.cells;have hlt:=hW.lts
 have h:=vKeep k vx tm s c l f [i] w.heap.size 1 _ (hW.below hB) hl hl1 hf hf1 hc (fun a r hr j v hv=>by
  cases a with
  | succ a=>simp at hr
  | zero =>
   obtain rfl:i.rec_=r:=by simpa using hr
   have:=bN.cell j hv
   simpa using this) (by simp) (fun hm=>by have:=hlt _ hm;omega) (by simp) (by simp) ⟨hF,trivial⟩
 refine h.mono ?_;rintro e w' ⟨rfl,h1,h2⟩;exact⟨rfl,h1,(Spares.of_below hB).trans h2⟩
theorem Xha {t:Xd} {l:List Xd} (h:∀ x∈l,x.n<t.n):Yf t l=l ++ [t]:=by
 unfold Yf;rw [if_neg];intro hx;obtain⟨x,hx,e⟩:=List.any_eq_true.1 hx;have:=h x hx
 have:x.n=t.n:=by simpa using e
 omega
theorem Tryz.X0.lenL {W:World} {vb mt ml:Nat} {vx:VX} {tm tn ln:Int} {tks:List Xe} {lks:List Xd} (h:X0 W vb mt ml vx tm tn ln tks lks) (ty:TypeId):(Builtin.len_ #[121] ty #[.map (some ml)]).run prog W=.ok (.int .i64 lks.length) W:=by
 obtain⟨n,_,hm⟩:=h.held.mapL;have:=hm.len underlying121 ty;rw [Xo.Zs _ h.ok.ksL.1] at this
 simpa using this
def newT (n m:Nat):Xe:=⟨n,1,m,18446744073709551615,0,false⟩
def mayE (lv pv:Bool) (ttl most:Int) (nl:Nat) (tm:Int):Int:=
 if lv=false then 1 else if pv=false then 2 else if ttl=0\/most<ttl then 3 else if 14<=nl then 4 else if tm=18446744073709551615 then 3 else 0
def Tryz.Xog (k:Int):Value:=if k=0 then .nilIface else .iface 33 (.int .i64 k)
theorem Tryz.Ma {k:Int} (h:k≠0):Xog k=.iface 33 (.int .i64 k):=if_neg h
theorem Tryz.Xlp (vb mt ml:Nat) (vx:VX) (tm tn ln:Int) (tks:List Xe) (lks:List Xd) (w:World) (hV:X0 w vb mt ml vx tm tn ln tks lks) (x:Int × Int) (lv:Bool) (pth:List UInt8) (hpl:pth.length<=1000000) (ttl most:Int)
  (hF:∀ W,Below w.heap.size w W->Calls prog 83 #[.pointer (some ⟨vb,0,none⟩),nmV x] W fun e w'=>e=.returned (.bool lv)/\Below W.heap.size W w') :
  Calls prog 64 #[.pointer (some ⟨vb,0,none⟩),nmV x,.string ⟨pth.toArray⟩,.int .u64 ttl,.int .u64 most] w fun e w'=>e=.returned (Xog (mayE lv (pathI pth) ttl most lks.length tm))/\Below w.heap.size w w':=by
 have hb0:Below w.heap.size w (w.alloc (.cells #[.int .i64 x.1,.int .u64 x.2] 114)):=(Below.refl _ w).alloc (Nat.le_refl _) _;have hF1:=hF _ hb0
 have hVal:=fun W=>valid pth W hpl
 have hlen:=fun W (hb:Below w.heap.size w W)=>(hV.below hb).lenL
 have hcell:=fun W (hb:Below w.heap.size w W)=>(hV.below hb).v.cell 4 (v:=.map (some ml)) rfl
 have htime:=fun W (hb:Below w.heap.size w W)=>(hV.below hb).v.cell 2 (v:=.int .u64 tm) rfl
 have hr:Hid (mayE lv (pathI pth) ttl most lks.length tm=if lv=false then 1 else if pathI pth=false then 2 else if ttl=0\/most<ttl then 3 else if 14<=lks.length then 4 else if tm=18446744073709551615 then 3 else 0):=Xb rfl;generalize mayE lv (pathI pth) ttl most lks.length tm=r at *;generalize pathI pth=pv at *;unfold nmV at hF1 ⊢;clear hF;cases lv
 ·obtain rfl:r=1:=by rw [Xa hr];rfl
  rw [Ma (by decide)];clear hr;go_enter func64,ntmps64
  go_wp2_with (go_at_call 83;refine hF1.mono ?_;rintro e w1 ⟨rfl,hb1⟩)
  go_ret;exact⟨rfl,hb0.trans (hb1.mono (by simp))⟩
 cases pv
 ·obtain rfl:r=2:=by rw [Xa hr];rfl
  rw [Ma (by decide)];clear hr;go_enter func64,ntmps64
  go_wp2_with (first
   | (go_at_call 83;refine hF1.mono ?_;rintro e w1 ⟨rfl,hb1⟩)
   | (go_at_call 92;refine(hVal _).mono ?_;rintro e w2 ⟨rfl,hb2⟩))
  go_ret;exact⟨rfl,(hb0.trans (hb1.mono (by simp))).trans (hb2.mono (by have:=hb1.size;simp at this;omega))⟩
 by_cases h3:ttl=0\/most<ttl
 ·obtain rfl:r=3:=by rw [Xa hr,if_neg (by simp),if_neg (by simp),if_pos h3]
  rw [Ma (by decide)];clear hr
  by_cases h0:ttl=0
  focus
   subst h0;clear h3
  rotate_left
  focus
   have h0':(ttl==0)=false:=by simpa using h0
   have h3':most<ttl:=h3.resolve_left h0;clear h3 h0
  rotate_left
  all_goals
   go_enter func64,ntmps64
   go_wp2_with (first
    | (go_at_call 83;refine hF1.mono ?_;rintro e w1 ⟨rfl,hb1⟩)
    | (go_at_call 92;refine(hVal _).mono ?_;rintro e w2 ⟨rfl,hb2⟩))
   go_ret;exact⟨rfl,(hb0.trans (hb1.mono (by simp))).trans (hb2.mono (by have:=hb1.size;simp at this;omega))⟩
 have h0':(ttl==0)=false:=by simp;omega
 have h3':¬ most<ttl:=by omega
 by_cases h4:14<=lks.length
 ·obtain rfl:r=4:=by rw [Xa hr,if_neg (by simp),if_neg (by simp),if_neg h3,if_pos h4]
  rw [Ma (by decide)];clear hr h3;go_enter func64,ntmps64
  go_wp2_with (first
   | (go_at_call 83;refine hF1.mono ?_;rintro e w1 ⟨rfl,hb1⟩)
   | (go_at_call 92;refine(hVal _).mono ?_;rintro e w2 ⟨rfl,hb2⟩;have hb9:=(hb0.trans (hb1.mono (by simp))).trans (hb2.mono (by have:=hb1.size;simp at this;omega));have hl9:=hlen _ hb9;have c9:=hcell _ hb9))
  go_ret;exact⟨rfl,hb9⟩
 by_cases h5:tm=18446744073709551615
 focus
  obtain rfl:r=3:=by rw [Xa hr,if_neg (by simp),if_neg (by simp),if_neg h3,if_neg h4,if_pos h5]
  rw [Ma (by decide)];subst h5;clear hr h3
 rotate_left
 focus
  obtain rfl:r=0:=by rw [Xa hr,if_neg (by simp),if_neg (by simp),if_neg h3,if_neg h4,if_neg h5]
  have h5':(tm==18446744073709551615)=false:=by simpa using h5
  rw [show Xog 0=.nilIface from rfl];clear hr h3 h5
 rotate_left
 all_goals
  go_enter func64,ntmps64
  go_wp2_with (first
   | (go_at_call 83;refine hF1.mono ?_;rintro e w1 ⟨rfl,hb1⟩)
   | (go_at_call 92;refine(hVal _).mono ?_;rintro e w2 ⟨rfl,hb2⟩;have hb9:=(hb0.trans (hb1.mono (by simp))).trans (hb2.mono (by have:=hb1.size;simp at this;omega));have hl9:=hlen _ hb9;have c9:=hcell _ hb9;have t9:=htime _ hb9))
  go_ret;exact⟨rfl,hb9⟩
end Go.Proofs
