import Derived.Test.YtjbekgjdempbiaaGreatDoorJSpare
import Derived.Deep.RegionHeldLaw
import Derived.Deep.RegionLaw
import Derived.Deep.AppendLies
import Derived.Deep.RegionHeld3
set_option maxRecDepth 100000
set_option maxHeartbeats 8000000
namespace Go.Proofs
open Go.RowKit Go.Sort Go.Lib Go.Shelf
def renewAt (tm ttl:Int) (t:ThingD):Int:=max t.at_ (min (plusI tm ttl) t.last)
def issueE (tm:Int) (id pth:List UInt8) (ttl most:Int) (L:List ThingD):Int:=
 if liveI tm id true L<0 then 1 else if pathI pth=false then 2 else if ttl=0∨most<ttl then 3 else if countI false L=14 then 4 else 0
def newTok (k m:Nat):ThingD:=⟨true,k,(m:Int),[],18446744073709551615,0,false,0⟩
abbrev cells3 (g vb i:Nat) (sl:Value) (k m:Nat) (W:World):Prop:=
 W.cell? ⟨vb,0,none⟩=some sl∧W.cell? ⟨vb,2,none⟩=some (.int .i64 k)∧W.cell? ⟨g,i*8+1,none⟩=some (.int .i64 m)
theorem cells3.below {g vb i:Nat} {sl:Value} {k m:Nat} {W W':World} (h:cells3 g vb i sl k m W) (hb:Below W.heap.size W W'):cells3 g vb i sl k m W':=
 ⟨cell_later hb h.1,cell_later hb h.2.1,cell_later hb h.2.2⟩
def newLea (k m:Nat) (pth:List UInt8) (a l:Int):ThingD:=⟨false,k,(m:Int),pth,a,l,false,0⟩
abbrev cells4 (g vb i:Nat) (sl:Value) (tm:Int) (k m:Nat) (W:World):Prop:=
 W.cell? ⟨vb,0,none⟩=some sl∧W.cell? ⟨vb,1,none⟩=some (.int .u64 tm)∧W.cell? ⟨vb,3,none⟩=some (.int .i64 k)∧W.cell? ⟨g,i*8+1,none⟩=some (.int .i64 m)
theorem cells4.below {g vb i:Nat} {sl:Value} {tm:Int} {k m:Nat} {W W':World} (h:cells4 g vb i sl tm k m W) (hb:Below W.heap.size W W'):cells4 g vb i sl tm k m W':=
 ⟨cell_later hb h.1,cell_later hb h.2.1,cell_later hb h.2.2.1,cell_later hb h.2.2.2⟩
end Go.Proofs
namespace Go.Proofs
open Go.RowKit Go.Sort Go.Lib Go.Shelf Go.Maps
attribute [local go_sem] Oper.semAt_some
def neverI:Int:=18446744073709551615
def minAt (xs:List InfoD):Int:=xs.foldl (fun m x=>min m x.at_) neverI
theorem minAt_snoc (xs:List InfoD) (x:InfoD):minAt (xs ++ [x])=min (minAt xs) x.at_:=by simp [minAt]
theorem Tryz.vNext (vb mt ml:Nat) (vx:VX) (tm tn ln:Int) (tks:List TokE) (lks:List LeaE) (w:World) (hV:VaultAt w vb mt ml vx tm tn ln tks lks) :
  CallsIn Fence.wide 9 prog 45 #[.pointer (some ⟨vb,0,none⟩)] w fun e w'=>e=.returned (.int .u64 (minAt (infosOf tm tks lks)))∧Below w.heap.size w w':=by
 have hfa:Fence.wide.fn 48:=trivial;refine callsIn_of_wp_marks func45 rfl trivial ?_ rfl;simp only [ntmps45,List.size_toArray,List.length_cons,List.length_nil,Nat.reduceAdd,Nat.reduceSub,Array.replicate_succ,Array.replicate_zero,List.push_toArray,List.append_toArray,List.nil_append,List.cons_append]
 gi_wp2_with (gi_at_call 48;refine(callsIn_wide.2 (vAll vb _)).mono ?_;rintro e w' ⟨rfl,rfl⟩)
 have bL:=(Boxed.new w 31 (.int .u64 neverI)).alloc (.cells #[.pointer (some ⟨vb,0,none⟩)] 76);have bV:=BoxN.new (w.alloc (.cells #[.int .u64 neverI] 31)) 76 #[.pointer (some ⟨vb,0,none⟩)];have hB0:Below w.heap.size w ((w.alloc (.cells #[.int .u64 neverI] 31)).alloc (.cells #[.pointer (some ⟨vb,0,none⟩)] 76)):=((Below.refl _ w).alloc (Nat.le_refl _) _).alloc (by simp) _
 have hsz:((w.alloc (.cells #[.int .u64 neverI] 31)).alloc (.cells #[.pointer (some ⟨vb,0,none⟩)] 76)).heap.size=w.heap.size+2:=by simp
 simp only [World.size_alloc] at bV;have hV0:=hV.below hB0
 obtain⟨W0,hW0⟩:∃ W0,(w.alloc (.cells #[.int .u64 neverI] 31)).alloc (.cells #[.pointer (some ⟨vb,0,none⟩)] 76)=W0:=⟨_,rfl⟩
 rw [hW0] at bV bL hB0 hsz hV0
 change Code.wpIn _ _ _ _ _ _ ((w.alloc (.cells #[.int .u64 neverI] 31)).alloc (.cells #[.pointer (some ⟨vb,0,none⟩)] 76))
 rw [hW0];clear hW0
 refine wpIn_rangeO (n:=9) (by omega) (gf:=78) (lb:=#[.pointer (some ⟨w.heap.size+1,0,none⟩)]) rfl enters78
  (vAll_seq 8 (by omega) badNext goodNext (w.heap.size+1) vb mt ml vx tm tn ln tks lks hV.ok W0 bV hV0.v hV0.held) keepsT_t keepsT_b (Below.refl _ _) (fun _=>rfl)
  (fun pre V=>Boxed V w.heap.size 31 (.int .u64 (minAt pre))∧Below w.heap.size w V)
  (fun _ _ _=>False)
  (OwnFrom.and (Own.from (boxed_own _ _ (fun pre:List InfoD=>.int .u64 (minAt pre))) _) (ownFrom_below (Nat.le_refl _) (by omega)))
  (fun _ _ _ _ _ hs _ _=>hs)
  (fun s V hs=>⟨hV.env.below hs.2 hV.six,Nat.le_trans hV.six hs.2.size⟩)
  ⟨bL,hB0⟩
  (fun x a' V=>∃ Bx,w.heap.size<Bx∧BoxN V Bx 49 x.cells∧a' = { tmps:=#[.pointer (some ⟨vb,0,none⟩),undef,.int .u64 0,.pointer (some ⟨w.heap.size,0,none⟩),.pointer (some ⟨Bx,0,none⟩),.pointer (some ⟨vb,0,none⟩),.func (.func 78) #[] #[.pointer (some ⟨w.heap.size+1,0,none⟩)],.agg x.cells,undef,undef,undef,undef,undef],defers:=[] })
  (fun x a' _ X Y row hs hg hr=>by obtain⟨Bx,h1,h2,h3⟩:=hs;exact⟨Bx,h1,boxN_own Bx 49 (fun(_:Unit)=>x.cells) () X Y row h2 hg (fun r e=>(hr r e).2),h3⟩)
  ?assign ?body ?done ?stop
 case assign =>
  rintro l pre x V K ⟨b1,hB1⟩ hK;obtain⟨id,st,at_,tr,tok,pth⟩:=x;simp only [InfoD.cells,infoCells]
  gi_wp2
  exact hK _ _ ((KeepsOthers.alloc _ _).from _) (KeepsT.alloc _ _) ⟨b1.alloc _,hB1.alloc hB1.size _⟩ ⟨V.heap.size,b1.lt,BoxN.new V 49 _,rfl⟩
 case body =>
  rintro l pre x a' V hl ⟨b1,hB1⟩ ⟨Bx,hBx,bX,rfl⟩ hlt;have hms:=minAt_snoc pre x;obtain⟨id,st,at_,tr,tok,pth⟩:=x;simp only [InfoD.cells,infoCells] at bX hms ⊢;have HM:=hid_intro hms;clear hms;generalize minAt pre=m at *;have c1:=b1.cell;have f1:=b1.frozen;have x2:=bX.cell 2 (v:=.int .u64 at_) rfl
  gi_wp2
  exact⟨(KeepsOthers.setCell _ _ _).from _,KeepsT.boxed_set b1 (by decide) _,by rw [show minAt _=_ from hid_elim HM];exact b1.set _,hB1.setCell (p:=⟨w.heap.size,0,none⟩) (Nat.le_refl _) _⟩
 case done =>
  rintro D zs V hD rfl ⟨b1,hB1⟩ hK;have cS:=b1.cell
  gi_wp2
  refine⟨by simp,.inl ⟨_,_,rfl,run_takeDeferred hK,?_⟩⟩;exact⟨_,results_tmp rfl _ _ _,rfl,hB1.trans (belowK_b (w:=w) (Nat.le_refl _) V D _ _ (by omega) hK rfl rfl)⟩
 case stop =>
  rintro D c pre V _ _ h _;exact h.elim
theorem Tryz.hNext (hb vb mt ml:Nat) (vx:VX) (tm tn ln:Int) (tks:List TokE) (lks:List LeaE) (w:World) (dv rv:Value) (hH:BoxN w hb 78 #[dv,rv,.pointer (some ⟨vb,0,none⟩)]) (hV:VaultAt w vb mt ml vx tm tn ln tks lks) :
  Calls prog 21 #[.pointer (some ⟨hb,0,none⟩)] w fun e w'=>e=.returned (.int .u64 (minAt (infosOf tm tks lks)))∧Below w.heap.size w w':=by
 have hN:=callsIn_wide.1 (vNext vb mt ml vx tm tn ln tks lks w hV);generalize minAt (infosOf tm tks lks)=m at *;have c2:=hH.cell 2 (v:=.pointer (some ⟨vb,0,none⟩)) rfl;go_enter func21,ntmps21
 go_wp2_with (go_at_call 45;refine hN.mono ?_;rintro e w' ⟨rfl,hb⟩)
 go_ret;exact⟨rfl,hb⟩
end Go.Proofs
