import Derived.Test.YtjbekgjdempbiaaGreatDoorJFndB
import Derived.Test.YtjbekgjdempbiaaGreatDoorJRounds
import Derived.Test.YtjbekgjdempbiaaGreatDoorJVKeep
import Derived.RangeFuncCalls
import Derived.Test.YtjbekgjdempbiaaGreatDoorProg
import Derived.Shelf.Strconv.Atoi
import Derived.Shelf.Pu.Clone
import Derived.Ground.MpProg
import Derived.Ground.NamesProg
import Derived.Test.YtjbekgjdempbiaaGreatDoorJRefL
set_option maxRecDepth 100000
set_option maxHeartbeats 8000000
namespace Go.Proofs
open Go.RowKit Go.Sort Go.Lib Go.Shelf Go.Maps Go.WideMaps
attribute [local go_sem] Oper.semAt_some
theorem Tryz.backward_one (g cap:Nat) (w:World):Calls prog 181 #[.slice (some ⟨g,0,none⟩) 1 cap] w fun e w'=>e=.returned (.func (.func 212) #[] #[.pointer (some ⟨w.heap.size,0,none⟩)])∧w'=w.alloc (.cells #[.slice (some ⟨g,0,none⟩) 1 cap] 272):=by
 go_enter func181,ntmps181;go_wp2;go_ret;exact⟨rfl,rfl⟩
theorem Tryz.backward1_one (n bx g cap:Nat) (hn:1≤n) (w:World) (hb:BoxN w bx 272 #[.slice (some ⟨g,0,none⟩) 1 cap]) (hg:w.cell? ⟨g,0,none⟩=some (.int .u64 0)) (hgl:g<w.heap.size) :
  SeqO (α:=Unit) n prog 212 #[.pointer (some ⟨bx,0,none⟩)] (fun _=>#[.int .i64 0,.int .u64 0]) (fun _=>True) (fun _ _=>True) (fun xs=>xs = [()]) (fun pre=>pre = [()]) 1 w:=by
 intro l J Jx W hbW _ _ _ hY h0;have c0:=(hb.below hbW hb.lt).cell 0 (v:=.slice (some ⟨g,0,none⟩) 1 cap) rfl;have g0:W.cell? ⟨g,0,none⟩=some (.int .u64 0):=(hbW.cell (p:=⟨g,0,none⟩) hgl).trans hg;obtain⟨fn,tmps,assign,body,hy,hR⟩:=hY [] () W h0 (by simp);refine callsIn_of_wp func212 rfl trivial ?_ rfl;simp only [ntmps212,List.size_toArray,List.length_cons,List.length_nil,Nat.reduceAdd,Nat.reduceSub,Array.replicate_succ,Array.replicate_zero,List.push_toArray,List.append_toArray,List.nil_append,List.cons_append]
 gi_wp2
 gi_loopw [3] (fun i wr=>(i=.int .i64 0∧wr=W)∨(i=.int .i64 (-1)∧J [()] wr)) (fun i _=>(intOf i+1).toNat)
 case atStart=>exact .inl ⟨rfl,rfl⟩
 case round =>
  rcases hrel with⟨rfl,rfl⟩ | ⟨rfl,hJ1⟩
  ·gi_wp2
   refine hR.mono ?_;rintro e W3 (⟨rfl,hJ4,-,-⟩ | ⟨rfl,hJx3,-⟩)
   ·gi_wp2
    go_roundw
    case rel=>exact .inr ⟨rfl,hJ4⟩
    case measure=>simp [intOf]
   ·gi_wp2
    refine bodyPost_ret (results_none rfl _ _ _) rfl ?_;exact⟨⟨_,rfl⟩,.inr ⟨[()],rfl,hJx3⟩⟩
  ·gi_wp2
   go_end0
   exact⟨⟨_,rfl⟩,.inl ⟨[()],rfl,hJ1⟩⟩
theorem keepsFrom_set {B b i:Nat} {V W:World} {v:Value} (h:KeepsFrom B V W) (hb:b<B):KeepsFrom B V (W.setCell ⟨b,i,none⟩ v):=
 h.trans (KeepsFrom.of_grownBy (row:=some b) ⟨rfl,rfl,rfl,by simp,fun k _ hne=>set_other _ _ _ _ _ (fun e=>hne (by rw [e]))⟩ (fun k e=>by cases e;exact hb))
theorem BytesAt.below {B g:Nat} {W W':World} {c:List UInt8} (h:BytesAt W g c) (hb:Below B W W') (hg:g<B):BytesAt W' g c:=fun j hj=>by
 have e:=cell_of_block (hb.block g hg) j;exact⟨e.1.trans (h j hj).1,e.2.trans (h j hj).2⟩
theorem Tryz.fromBytes {W:World} {g cap:Nat} {c:List UInt8} (h:BytesAt W g c):(convert 267 9 (.slice (some ⟨g,0,none⟩) c.length cap)).run prog W=.ok (.string ⟨c.toArray⟩) W:=
 run_convert_bytes_back W 267 9 5 ⟨g,0,none⟩ cap c underlying267 underlying5 underlying9 (fun j hj=>by
  rw [add_cell]
  exact(h j hj).1)
theorem below_setSame {B:Nat} {w W:World} {b i:Nat} {t:TypeId} {cs:Array Value} {v:Value} (h:Below B w W) (hb:BoxN W b t cs) (hv:cs[i]? = some v):Below B w (W.setCell ⟨b,i,none⟩ v):=by
 have e:cs.setIfInBounds i v=cs:=by
  apply Array.ext
  ·simp
  ·intro j h1 h2
   rw [Array.getElem_setIfInBounds (by simpa using h2)]
   split
   ·rename_i hij
    subst hij;obtain⟨h3,h4⟩:=Array.getElem?_eq_some_iff.1 hv;exact h4.symm
   ·rfl
 have h1:BoxN (W.setCell ⟨b,i,none⟩ v) b t cs:=by
  have:=hb.set i v
  rwa [e] at this
 exact⟨h.os,h.tape,h.output,by simpa using h.size,fun k hk=>by
  by_cases hkb:k=b
  ·subst hkb
   exact h1.trans (hb.symm.trans (h.block k hk))
  ·rw [set_other _ _ _ _ _ hkb]
   exact h.block k hk⟩
theorem Tryz.jFind_one (jb db md mn b:Nat) (c2:Value) (c:List UInt8) (fd:Option (Nat × List UInt8)) (l f:Int) (w:World) (hJ:BoxN w jb 212 #[diskV db,.int .u64 0,c2]) (hD:DiskAt w db md mn fd (some (b,c)) (.slice none 0 0) l f) (hc:c.length<4294967281) (ha:∀ b∈c,b.toNat<128) (hbg:begB c=true) (hE:Env w) (h9:9≤w.heap.size) (hG:ErrT w) :
  CallsIn Fence.wide 9 prog 146 #[.pointer (some ⟨jb,0,none⟩)] w fun e w'=>e=.returned (.tuple #[.string ⟨c.toArray⟩,.nilIface])∧Below w.heap.size w w':=by
 have j0:=hJ.cell 0 (v:=diskV db) rfl;unfold diskV at j0;have lJ:=hJ.lt
 have hm:=fun W=>method_read db W
 have hB0:Below w.heap.size w (((w.alloc (.cells #[.pointer (some ⟨jb,0,none⟩)] 117)).alloc (.cells #[.string ⟨#[]⟩] 9)).alloc (.cells #[.nilIface] 81)):=(((Below.refl _ w).alloc (Nat.le_refl _) _).alloc (by simp) _).alloc (by simp;omega) _;have bP:=((BoxN.new w 117 #[.pointer (some ⟨jb,0,none⟩)]).alloc (.cells #[.string ⟨#[]⟩] 9)).alloc (.cells #[.nilIface] 81);have bS:=(BoxN.new (w.alloc (.cells #[.pointer (some ⟨jb,0,none⟩)] 117)) 9 #[.string ⟨#[]⟩]).alloc (.cells #[.nilIface] 81);have bE:=BoxN.new ((w.alloc (.cells #[.pointer (some ⟨jb,0,none⟩)] 117)).alloc (.cells #[.string ⟨#[]⟩] 9)) 81 #[.nilIface];simp only [World.size_alloc] at bS bE;have hN:=numbersOn_one db md mn b c fd l f _ (hD.below hB0) (hE.below hB0 (Nat.le_trans (by decide) h9)) (Nat.le_trans (Nat.le_trans (by decide) h9) hB0.size);unfold diskV at hN;have j0w:=cell_later hB0 j0;have hf1:Fence.wide.fn 180:=trivial;have hf2:Fence.wide.fn 181:=trivial;have hf3:Fence.wide.fn 182:=trivial;have hf4:Fence.wide.fn 175:=trivial;have hf5:Fence.wide.fn 307:=trivial;refine callsIn_of_wp_marks func146 rfl trivial ?_ rfl;simp only [ntmps146,List.size_toArray,List.length_cons,List.length_nil,Nat.reduceAdd,Nat.reduceSub,Array.replicate_succ,Array.replicate_zero,List.push_toArray,List.append_toArray,List.nil_append,List.cons_append]
 gi_wp2_with (first
  | (gi_at_call 180;refine(callsIn_wide.2 hN).mono ?_;rintro e w1 ⟨g,cap,rfl,g0,gl,hb1⟩)
  | (gi_at_call 181;refine(callsIn_wide.2 (backward_one _ _ _)).mono ?_;rintro e w2 ⟨rfl,rfl⟩))
 have hB1:=hB0.trans (hb1.mono (by simp;omega));have bP1:=(bP.below hb1 (by simp;omega)).alloc (.cells #[.slice (some ⟨g,0,none⟩) 1 cap] 272);have bS1:=(bS.below hb1 (by simp)).alloc (.cells #[.slice (some ⟨g,0,none⟩) 1 cap] 272);have bE1:=(bE.below hb1 (by simp)).alloc (.cells #[.slice (some ⟨g,0,none⟩) 1 cap] 272);have bX1:=BoxN.new w1 272 #[.slice (some ⟨g,0,none⟩) 1 cap];have hB2:=hB1.alloc hB1.size (.cells #[.slice (some ⟨g,0,none⟩) 1 cap] 272)
 have hsz:(w1.alloc (.cells #[.slice (some ⟨g,0,none⟩) 1 cap] 272)).heap.size=w1.heap.size+1:=by simp
 have g0':(w1.alloc (.cells #[.slice (some ⟨g,0,none⟩) 1 cap] 272)).cell? ⟨g,0,none⟩=some (.int .u64 0):=cell_later ((Below.refl _ w1).alloc (Nat.le_refl _) _) g0;have hz1:=hB1.size
 obtain⟨W2,hW2⟩:∃ W2,w1.alloc (.cells #[.slice (some ⟨g,0,none⟩) 1 cap] 272)=W2:=⟨_,rfl⟩
 rw [hW2] at bP1 bS1 bE1 bX1 hB2 hsz g0' ⊢;clear hW2 bP bS bE hN j0w
 have hown:∀ sv:Value,OwnFrom W2.heap.size (fun(_:List Unit) V=>((BoxN V w.heap.size 117 #[.pointer (some ⟨jb,0,none⟩)]∧BoxN V (w.heap.size+1) 9 #[sv])∧BoxN V (w.heap.size+1+1) 81 #[.nilIface])∧Below w.heap.size w V):=fun sv =>
  OwnFrom.and (OwnFrom.and (OwnFrom.and (Own.from (boxN_own _ _ (fun _=>#[.pointer (some ⟨jb,0,none⟩)])) _) (Own.from (boxN_own _ _ (fun _=>#[sv])) _)) (Own.from (boxN_own _ _ (fun _=>#[.nilIface])) _)) (ownFrom_below (Nat.le_refl _) (by omega))
 refine wpIn_rangeO (n:=9) (by omega) (gf:=212) (lb:=#[.pointer (some ⟨w1.heap.size,0,none⟩)]) rfl (enters_of func212 (by kernel_rfl) rfl) (backward1_one 8 w1.heap.size g cap (by decide) W2 bX1 g0' (by omega)) (fun _ _=>trivial) (fun _ _ _ _ _ _ _ _=>trivial) (Below.refl _ _) (fun _=>rfl)
  (fun pre V=>pre = []∧((BoxN V w.heap.size 117 #[.pointer (some ⟨jb,0,none⟩)]∧BoxN V (w.heap.size+1) 9 #[.string ⟨#[]⟩])∧BoxN V (w.heap.size+1+1) 81 #[.nilIface])∧Below w.heap.size w V)
  (fun cd pre V=>cd=Code.ret∧((BoxN V w.heap.size 117 #[.pointer (some ⟨jb,0,none⟩)]∧BoxN V (w.heap.size+1) 9 #[.string ⟨c.toArray⟩])∧BoxN V (w.heap.size+1+1) 81 #[.nilIface])∧Below w.heap.size w V)
  ?ownI ?ownX
  (fun _ _ _=>trivial)
  ⟨rfl,⟨⟨bP1,bS1⟩,bE1⟩,hB2⟩
  (fun _ a' V=>a' = { tmps:=#[.pointer (some ⟨jb,0,none⟩),.pointer (some ⟨w.heap.size,0,none⟩),.pointer (some ⟨w.heap.size+1,0,none⟩),.pointer (some ⟨w.heap.size+1+1,0,none⟩),.slice (some ⟨g,0,none⟩) 1 cap,.nilIface,undef,.int .u64 0,undef,undef,.tuple #[.slice (some ⟨g,0,none⟩) 1 cap,.nilIface],.pointer (some ⟨jb,0,none⟩),.pointer (some ⟨jb,0,none⟩),.pointer (some ⟨jb,0,none⟩),.iface 74 (.pointer (some ⟨db,0,none⟩)),.tuple #[.slice (some ⟨g,0,none⟩) 1 cap,.nilIface],.slice (some ⟨g,0,none⟩) 1 cap,.nilIface,.nilIface,.bool false,undef,.slice (some ⟨g,0,none⟩) 1 cap,.func (.func 212) #[] #[.pointer (some ⟨w1.heap.size,0,none⟩)],.int .i64 0,.int .u64 0,undef,undef,undef,undef,undef,undef,undef,undef,undef,undef,undef,undef,undef,undef,undef,undef,undef,undef,undef,undef,undef,undef,undef,undef,undef,undef,undef,undef],defers:=[] }) ?ownA
  ?assign ?body ?done ?stop
 case ownI=>exact fun s A B row hs hg hr=>⟨hs.1,hown (.string ⟨#[]⟩) s A B row hs.2 hg hr⟩
 case ownX=>exact fun cd s A B row hs hg hr=>⟨hs.1,hown (.string ⟨c.toArray⟩) s A B row hs.2 hg hr⟩
 case assign =>
  rintro ll pre x V K ⟨rfl,⟨⟨bPV,bSV⟩,bEV⟩,hBV⟩ hK
  gi_wp2
  exact hK _ _ (KeepsFrom.refl _ _) trivial ⟨by simp,⟨⟨bPV,bSV⟩,bEV⟩,hBV⟩ rfl
 case ownA=>exact fun _ _ _ _ _ _ hs _ _=>hs
 case body =>
  rintro ll pre x _ V hl ⟨rfl,⟨⟨bPV,bSV⟩,bEV⟩,hBV⟩ rfl hlt;have p0:=bPV.cell 0 (v:=.pointer (some ⟨jb,0,none⟩)) rfl;have p0d:V.drew.cell? ⟨w.heap.size,0,none⟩=some (.pointer (some ⟨jb,0,none⟩)):=p0;have jV:=cell_later hBV j0;have jVd:V.drew.cell? ⟨jb,0,none⟩=some (.iface 74 (.pointer (some ⟨db,0,none⟩))):=jV;have hRd:=dRead_one db md mn b c fd l f V.drew (hD.below hBV.drew)
  gi_wp2_with fail
  refine wpIn_region_any (by kernel_rfl) (wpAnyIn_inRound ll (by kernel_rfl) _ _ _ _ ?_)
  change wpAnyIn _ _ _ _ _ _ _ _ _ (World.drew _)
  refine wpAnyIn_take (i:=4) (v:=.int .u64 0) rfl rfl (by kernel_rfl) (by kernel_rfl) (by kernel_rfl) (fun _ _ _ h=>h) ⟨Or.inl ⟨by rfl,?_⟩,fun _=>rfl⟩ ?_
  ·intro w;go_simp
  refine wpAnyIn_ready (rs:=[0,5]) (by kernel_rfl) (by simp) ?_;refine AllReadyIn.cons rfl (fun K hK=>?_) (AllReadyIn.cons rfl (fun K hK=>?_) (AllReadyIn.nil))
  ·go_simp
   refine hK _ _ ?_;clear hK K;refine wpAnyIn_take (i:=1) (v:=.pointer (some ⟨jb,0,none⟩)) rfl rfl (by kernel_rfl) (by kernel_rfl) (by kernel_rfl) (fun _ _ _ h=>h) ⟨Or.inl ⟨by rfl,?_⟩,fun _=>rfl⟩ ?_
   ·intro w;go_simp
   refine wpAnyIn_take (i:=2) (v:=.pointer (some ⟨jb,0,none⟩)) rfl rfl (by kernel_rfl) (by kernel_rfl) (by kernel_rfl) (fun _ _ _ h=>h) ⟨Or.inl ⟨by rfl,?_⟩,fun _=>rfl⟩ ?_
   ·intro w;go_simp
   refine wpAnyIn_ready (rs:=[3,5]) (by kernel_rfl) (by simp) ?_;refine AllReadyIn.cons rfl (fun K hK=>?_) (AllReadyIn.cons rfl (fun K hK=>?_) (AllReadyIn.nil))
   ·go_simp
    refine hK _ _ ?_;clear hK K;refine wpAnyIn_take (i:=6) (v:=.iface 74 (.pointer (some ⟨db,0,none⟩))) rfl rfl (by kernel_rfl) (by kernel_rfl) (by kernel_rfl) (fun _ _ _ h=>h) ⟨Or.inl ⟨by rfl,?_⟩,fun _=>rfl⟩ ?_
    ·intro w;go_simp
    refine wpAnyIn_take (i:=7) (v:=.iface 74 (.pointer (some ⟨db,0,none⟩))) rfl rfl (by kernel_rfl) (by kernel_rfl) (by kernel_rfl) (fun _ _ _ h=>h) ⟨Or.inl ⟨by rfl,?_⟩,fun _=>rfl⟩ ?_
    ·intro w;go_simp
    refine wpAnyIn_ready (rs:=[5]) (by kernel_rfl) (by simp) ?_;refine AllReadyIn.cons rfl (fun K hK=>?_) (AllReadyIn.nil)
    ·go_simp
     refine(callsIn_wide.2 (fileOf0 _)).mono ?_;rintro e V2 ⟨rfl,rfl⟩;refine hK _ _ ?_;clear hK K;refine wpAnyIn_ready (rs:=[8]) (by kernel_rfl) (by simp) ?_;refine AllReadyIn.cons rfl (fun K hK=>?_) (AllReadyIn.nil)
     ·go_simp
      refine(callsIn_wide.2 hRd).mono ?_;rintro e V2 ⟨g,cap,rfl,hby,⟨hg1,hg2⟩,hb2⟩;refine hK _ _ ?_;clear hK K;refine wpAnyIn_take (i:=9) (v:=.tuple #[.slice (some ⟨g,0,none⟩) c.length cap,.nilIface]) rfl rfl (by kernel_rfl) (by kernel_rfl) (by kernel_rfl) (fun _ _ _ h=>h) ⟨Or.inl ⟨by rfl,?_⟩,fun _=>rfl⟩ ?_
      ·intro w;go_simp
      refine wpAnyIn_take (i:=10) (v:=.slice (some ⟨g,0,none⟩) c.length cap) rfl rfl (by kernel_rfl) (by kernel_rfl) (by kernel_rfl) (fun _ _ _ h=>h) ⟨Or.inl ⟨by rfl,?_⟩,fun _=>rfl⟩ ?_
      ·intro w;go_simp
      refine wpAnyIn_take (i:=11) (v:=.nilIface) rfl rfl (by kernel_rfl) (by kernel_rfl) (by kernel_rfl) (fun _ _ _ h=>h) ⟨Or.inl ⟨by rfl,?_⟩,fun _=>rfl⟩ ?_
      ·intro w;go_simp
      refine wpAnyIn_ready (rs:=[12]) (by kernel_rfl) (by simp) ?_;refine AllReadyIn.cons rfl (fun K hK=>?_) (AllReadyIn.nil)
      ·go_simp
       refine hK _ _ ?_;clear hK K;refine wpAnyIn_ready (rs:=[13]) (by kernel_rfl) (by simp) ?_;refine AllReadyIn.cons rfl (fun K hK=>?_) (AllReadyIn.nil)
       ·go_simp
        refine hK _ _ ?_;clear hK K;refine wpAnyIn_done (by kernel_rfl) ?_ _;have hB2d:Below w.heap.size w V2:=hBV.drew.trans (hb2.mono hBV.size);have hbV2:Below V.heap.size V V2:=(Below.refl _ V).drew.trans hb2;have hcv2:=fromBytes (cap:=cap) hby;have hBW:=beginsWhole c hc ha V2 (hE.below hB2d (Nat.le_trans (by decide) h9)) (Nat.le_trans h9 hB2d.size) (hG.below (hB2d.mono h9));rw [hbg] at hBW;clear hRd hm
        gi_wp2_with fail
        refine(CallsIn.inRound ll (callsIn_wide.2 hBW)).mono ?_;rintro e V3 ⟨rfl,hb3⟩;have hbV3:=hbV2.trans (hb3.mono hbV2.size);have hB3:=hBV.trans (hbV3.mono hBV.size);have bP3:=bPV.below hbV3 bPV.lt;have bS3:=bSV.below hbV3 bSV.lt;have bE3:=bEV.below hbV3 bEV.lt;have bJ3:=hJ.below hB3 hJ.lt;have hby3:=hby.below hb3 hg2;have p3:=bP3.cell 0 (v:=.pointer (some ⟨jb,0,none⟩)) rfl;have j3:=bJ3.cell 1 (v:=.int .u64 0) rfl;have j3f:=bJ3.frozen 1;have hB4:=below_setSame hB3 (i:=1) (v:=.int .u64 0) bJ3 rfl;have hbJ4:=below_setSame (Below.refl V3.heap.size V3) (i:=1) (v:=.int .u64 0) bJ3 rfl;have hcv4:=fromBytes (cap:=cap) (hby3.below hbJ4 (Nat.lt_of_lt_of_le hg2 hb3.size));have s3:=(bS3.below hbJ4 bS3.lt).cell 0 (v:=.string ⟨#[]⟩) rfl;have s3f:=(bS3.below hbJ4 bS3.lt).frozen 0;have e3:=(bE3.below hbJ4 bE3.lt).cell 0 (v:=.nilIface) rfl;have e3f:=(bE3.below hbJ4 bE3.lt).frozen 0
        gi_wp2
        have bP5:=((bP3.below hbJ4 bP3.lt).other (B':=w.heap.size+1) (by omega) 0 (.string ⟨c.toArray⟩)).other (B':=w.heap.size+1+1) (by omega) 0 .nilIface;have bS5:=((bS3.below hbJ4 bS3.lt).set 0 (.string ⟨c.toArray⟩)).other (B':=w.heap.size+1+1) (by omega) 0 .nilIface;have bE5:=((bE3.below hbJ4 bE3.lt).other (B':=w.heap.size+1) (by omega) 0 (.string ⟨c.toArray⟩)).set 0 .nilIface;have hB5:=(hB4.setCell (p:=⟨w.heap.size+1,0,none⟩) (by simp) (.string ⟨c.toArray⟩)).setCell (p:=⟨w.heap.size+1+1,0,none⟩) (by simp;omega) .nilIface;have hlE:=bE1.lt;exact⟨keepsFrom_set (keepsFrom_set (keepsFrom_set (keepsFrom_below _ hbV3) (by omega)) (by omega)) (by omega),rfl,⟨⟨bP5,bS5⟩,bE5⟩,hB5⟩
   ·go_simp
    refine(callsIn_wide.2 (fileOf0 _)).mono ?_;rintro e V2 ⟨rfl,rfl⟩;refine hK _ _ ?_;clear hK K;refine wpAnyIn_ready (rs:=[3]) (by kernel_rfl) (by simp) ?_;refine AllReadyIn.cons rfl (fun K hK=>?_) (AllReadyIn.nil)
    ·go_simp
     refine hK _ _ ?_;clear hK K;refine wpAnyIn_take (i:=6) (v:=.iface 74 (.pointer (some ⟨db,0,none⟩))) rfl rfl (by kernel_rfl) (by kernel_rfl) (by kernel_rfl) (fun _ _ _ h=>h) ⟨Or.inl ⟨by rfl,?_⟩,fun _=>rfl⟩ ?_
     ·intro w;go_simp
     refine wpAnyIn_take (i:=7) (v:=.iface 74 (.pointer (some ⟨db,0,none⟩))) rfl rfl (by kernel_rfl) (by kernel_rfl) (by kernel_rfl) (fun _ _ _ h=>h) ⟨Or.inl ⟨by rfl,?_⟩,fun _=>rfl⟩ ?_
     ·intro w;go_simp
     refine wpAnyIn_ready (rs:=[8]) (by kernel_rfl) (by simp) ?_;refine AllReadyIn.cons rfl (fun K hK=>?_) (AllReadyIn.nil)
     ·go_simp
      refine(callsIn_wide.2 hRd).mono ?_;rintro e V2 ⟨g,cap,rfl,hby,⟨hg1,hg2⟩,hb2⟩;refine hK _ _ ?_;clear hK K;refine wpAnyIn_take (i:=9) (v:=.tuple #[.slice (some ⟨g,0,none⟩) c.length cap,.nilIface]) rfl rfl (by kernel_rfl) (by kernel_rfl) (by kernel_rfl) (fun _ _ _ h=>h) ⟨Or.inl ⟨by rfl,?_⟩,fun _=>rfl⟩ ?_
      ·intro w;go_simp
      refine wpAnyIn_take (i:=10) (v:=.slice (some ⟨g,0,none⟩) c.length cap) rfl rfl (by kernel_rfl) (by kernel_rfl) (by kernel_rfl) (fun _ _ _ h=>h) ⟨Or.inl ⟨by rfl,?_⟩,fun _=>rfl⟩ ?_
      ·intro w;go_simp
      refine wpAnyIn_take (i:=11) (v:=.nilIface) rfl rfl (by kernel_rfl) (by kernel_rfl) (by kernel_rfl) (fun _ _ _ h=>h) ⟨Or.inl ⟨by rfl,?_⟩,fun _=>rfl⟩ ?_
      ·intro w;go_simp
      refine wpAnyIn_ready (rs:=[12]) (by kernel_rfl) (by simp) ?_;refine AllReadyIn.cons rfl (fun K hK=>?_) (AllReadyIn.nil)
      ·go_simp
       refine hK _ _ ?_;clear hK K;refine wpAnyIn_ready (rs:=[13]) (by kernel_rfl) (by simp) ?_;refine AllReadyIn.cons rfl (fun K hK=>?_) (AllReadyIn.nil)
       ·go_simp
        refine hK _ _ ?_;clear hK K;refine wpAnyIn_done (by kernel_rfl) ?_ _;have hB2d:Below w.heap.size w V2:=hBV.drew.trans (hb2.mono hBV.size);have hbV2:Below V.heap.size V V2:=(Below.refl _ V).drew.trans hb2;have hcv2:=fromBytes (cap:=cap) hby;have hBW:=beginsWhole c hc ha V2 (hE.below hB2d (Nat.le_trans (by decide) h9)) (Nat.le_trans h9 hB2d.size) (hG.below (hB2d.mono h9));rw [hbg] at hBW;clear hRd hm
        gi_wp2_with fail
        refine(CallsIn.inRound ll (callsIn_wide.2 hBW)).mono ?_;rintro e V3 ⟨rfl,hb3⟩;have hbV3:=hbV2.trans (hb3.mono hbV2.size);have hB3:=hBV.trans (hbV3.mono hBV.size);have bP3:=bPV.below hbV3 bPV.lt;have bS3:=bSV.below hbV3 bSV.lt;have bE3:=bEV.below hbV3 bEV.lt;have bJ3:=hJ.below hB3 hJ.lt;have hby3:=hby.below hb3 hg2;have p3:=bP3.cell 0 (v:=.pointer (some ⟨jb,0,none⟩)) rfl;have j3:=bJ3.cell 1 (v:=.int .u64 0) rfl;have j3f:=bJ3.frozen 1;have hB4:=below_setSame hB3 (i:=1) (v:=.int .u64 0) bJ3 rfl;have hbJ4:=below_setSame (Below.refl V3.heap.size V3) (i:=1) (v:=.int .u64 0) bJ3 rfl;have hcv4:=fromBytes (cap:=cap) (hby3.below hbJ4 (Nat.lt_of_lt_of_le hg2 hb3.size));have s3:=(bS3.below hbJ4 bS3.lt).cell 0 (v:=.string ⟨#[]⟩) rfl;have s3f:=(bS3.below hbJ4 bS3.lt).frozen 0;have e3:=(bE3.below hbJ4 bE3.lt).cell 0 (v:=.nilIface) rfl;have e3f:=(bE3.below hbJ4 bE3.lt).frozen 0
        gi_wp2
        have bP5:=((bP3.below hbJ4 bP3.lt).other (B':=w.heap.size+1) (by omega) 0 (.string ⟨c.toArray⟩)).other (B':=w.heap.size+1+1) (by omega) 0 .nilIface;have bS5:=((bS3.below hbJ4 bS3.lt).set 0 (.string ⟨c.toArray⟩)).other (B':=w.heap.size+1+1) (by omega) 0 .nilIface;have bE5:=((bE3.below hbJ4 bE3.lt).other (B':=w.heap.size+1) (by omega) 0 (.string ⟨c.toArray⟩)).set 0 .nilIface;have hB5:=(hB4.setCell (p:=⟨w.heap.size+1,0,none⟩) (by simp) (.string ⟨c.toArray⟩)).setCell (p:=⟨w.heap.size+1+1,0,none⟩) (by simp;omega) .nilIface;have hlE:=bE1.lt;exact⟨keepsFrom_set (keepsFrom_set (keepsFrom_set (keepsFrom_below _ hbV3) (by omega)) (by omega)) (by omega),rfl,⟨⟨bP5,bS5⟩,bE5⟩,hB5⟩
  ·go_simp
   refine(callsIn_wide.2 (fileOf0 _)).mono ?_;rintro e V2 ⟨rfl,rfl⟩;refine hK _ _ ?_;clear hK K;refine wpAnyIn_ready (rs:=[0]) (by kernel_rfl) (by simp) ?_;refine AllReadyIn.cons rfl (fun K hK=>?_) (AllReadyIn.nil)
   ·go_simp
    refine hK _ _ ?_;clear hK K;refine wpAnyIn_take (i:=1) (v:=.pointer (some ⟨jb,0,none⟩)) rfl rfl (by kernel_rfl) (by kernel_rfl) (by kernel_rfl) (fun _ _ _ h=>h) ⟨Or.inl ⟨by rfl,?_⟩,fun _=>rfl⟩ ?_
    ·intro w;go_simp
    refine wpAnyIn_take (i:=2) (v:=.pointer (some ⟨jb,0,none⟩)) rfl rfl (by kernel_rfl) (by kernel_rfl) (by kernel_rfl) (fun _ _ _ h=>h) ⟨Or.inl ⟨by rfl,?_⟩,fun _=>rfl⟩ ?_
    ·intro w;go_simp
    refine wpAnyIn_ready (rs:=[3]) (by kernel_rfl) (by simp) ?_;refine AllReadyIn.cons rfl (fun K hK=>?_) (AllReadyIn.nil)
    ·go_simp
     refine hK _ _ ?_;clear hK K;refine wpAnyIn_take (i:=6) (v:=.iface 74 (.pointer (some ⟨db,0,none⟩))) rfl rfl (by kernel_rfl) (by kernel_rfl) (by kernel_rfl) (fun _ _ _ h=>h) ⟨Or.inl ⟨by rfl,?_⟩,fun _=>rfl⟩ ?_
     ·intro w;go_simp
     refine wpAnyIn_take (i:=7) (v:=.iface 74 (.pointer (some ⟨db,0,none⟩))) rfl rfl (by kernel_rfl) (by kernel_rfl) (by kernel_rfl) (fun _ _ _ h=>h) ⟨Or.inl ⟨by rfl,?_⟩,fun _=>rfl⟩ ?_
     ·intro w;go_simp
     refine wpAnyIn_ready (rs:=[8]) (by kernel_rfl) (by simp) ?_;refine AllReadyIn.cons rfl (fun K hK=>?_) (AllReadyIn.nil)
     ·go_simp
      refine(callsIn_wide.2 hRd).mono ?_;rintro e V2 ⟨g,cap,rfl,hby,⟨hg1,hg2⟩,hb2⟩;refine hK _ _ ?_;clear hK K;refine wpAnyIn_take (i:=9) (v:=.tuple #[.slice (some ⟨g,0,none⟩) c.length cap,.nilIface]) rfl rfl (by kernel_rfl) (by kernel_rfl) (by kernel_rfl) (fun _ _ _ h=>h) ⟨Or.inl ⟨by rfl,?_⟩,fun _=>rfl⟩ ?_
      ·intro w;go_simp
      refine wpAnyIn_take (i:=10) (v:=.slice (some ⟨g,0,none⟩) c.length cap) rfl rfl (by kernel_rfl) (by kernel_rfl) (by kernel_rfl) (fun _ _ _ h=>h) ⟨Or.inl ⟨by rfl,?_⟩,fun _=>rfl⟩ ?_
      ·intro w;go_simp
      refine wpAnyIn_take (i:=11) (v:=.nilIface) rfl rfl (by kernel_rfl) (by kernel_rfl) (by kernel_rfl) (fun _ _ _ h=>h) ⟨Or.inl ⟨by rfl,?_⟩,fun _=>rfl⟩ ?_
      ·intro w;go_simp
      refine wpAnyIn_ready (rs:=[12]) (by kernel_rfl) (by simp) ?_;refine AllReadyIn.cons rfl (fun K hK=>?_) (AllReadyIn.nil)
      ·go_simp
       refine hK _ _ ?_;clear hK K;refine wpAnyIn_ready (rs:=[13]) (by kernel_rfl) (by simp) ?_;refine AllReadyIn.cons rfl (fun K hK=>?_) (AllReadyIn.nil)
       ·go_simp
        refine hK _ _ ?_;clear hK K;refine wpAnyIn_done (by kernel_rfl) ?_ _;have hB2d:Below w.heap.size w V2:=hBV.drew.trans (hb2.mono hBV.size);have hbV2:Below V.heap.size V V2:=(Below.refl _ V).drew.trans hb2;have hcv2:=fromBytes (cap:=cap) hby;have hBW:=beginsWhole c hc ha V2 (hE.below hB2d (Nat.le_trans (by decide) h9)) (Nat.le_trans h9 hB2d.size) (hG.below (hB2d.mono h9));rw [hbg] at hBW;clear hRd hm
        gi_wp2_with fail
        refine(CallsIn.inRound ll (callsIn_wide.2 hBW)).mono ?_;rintro e V3 ⟨rfl,hb3⟩;have hbV3:=hbV2.trans (hb3.mono hbV2.size);have hB3:=hBV.trans (hbV3.mono hBV.size);have bP3:=bPV.below hbV3 bPV.lt;have bS3:=bSV.below hbV3 bSV.lt;have bE3:=bEV.below hbV3 bEV.lt;have bJ3:=hJ.below hB3 hJ.lt;have hby3:=hby.below hb3 hg2;have p3:=bP3.cell 0 (v:=.pointer (some ⟨jb,0,none⟩)) rfl;have j3:=bJ3.cell 1 (v:=.int .u64 0) rfl;have j3f:=bJ3.frozen 1;have hB4:=below_setSame hB3 (i:=1) (v:=.int .u64 0) bJ3 rfl;have hbJ4:=below_setSame (Below.refl V3.heap.size V3) (i:=1) (v:=.int .u64 0) bJ3 rfl;have hcv4:=fromBytes (cap:=cap) (hby3.below hbJ4 (Nat.lt_of_lt_of_le hg2 hb3.size));have s3:=(bS3.below hbJ4 bS3.lt).cell 0 (v:=.string ⟨#[]⟩) rfl;have s3f:=(bS3.below hbJ4 bS3.lt).frozen 0;have e3:=(bE3.below hbJ4 bE3.lt).cell 0 (v:=.nilIface) rfl;have e3f:=(bE3.below hbJ4 bE3.lt).frozen 0
        gi_wp2
        have bP5:=((bP3.below hbJ4 bP3.lt).other (B':=w.heap.size+1) (by omega) 0 (.string ⟨c.toArray⟩)).other (B':=w.heap.size+1+1) (by omega) 0 .nilIface;have bS5:=((bS3.below hbJ4 bS3.lt).set 0 (.string ⟨c.toArray⟩)).other (B':=w.heap.size+1+1) (by omega) 0 .nilIface;have bE5:=((bE3.below hbJ4 bE3.lt).other (B':=w.heap.size+1) (by omega) 0 (.string ⟨c.toArray⟩)).set 0 .nilIface;have hB5:=(hB4.setCell (p:=⟨w.heap.size+1,0,none⟩) (by simp) (.string ⟨c.toArray⟩)).setCell (p:=⟨w.heap.size+1+1,0,none⟩) (by simp;omega) .nilIface;have hlE:=bE1.lt;exact⟨keepsFrom_set (keepsFrom_set (keepsFrom_set (keepsFrom_below _ hbV3) (by omega)) (by omega)) (by omega),rfl,⟨⟨bP5,bS5⟩,bE5⟩,hB5⟩
 case done =>
  rintro D zs V hD0 rfl ⟨h,-⟩ _;exact absurd h (by simp)
 case stop =>
  rintro D cd pre V hD0 _ ⟨rfl,⟨⟨bPV,bSV⟩,bEV⟩,hBV⟩ hK;have s0:=bSV.cell 0 (v:=.string ⟨c.toArray⟩) rfl;have e0:=bEV.cell 0 (v:=.nilIface) rfl
  gi_wp2
  refine⟨by simp,.inl ⟨_,_,rfl,run_takeDeferred hK,?_⟩⟩;have bS6:BoxN (V.putObj D (.deferred none)) (w.heap.size+1) 9 #[.string ⟨c.toArray⟩]:=(World.putObj_heap_other (by have:=bE1.lt;omega)).trans bSV;have bE6:BoxN (V.putObj D (.deferred none)) (w.heap.size+1+1) 81 #[.nilIface]:=(World.putObj_heap_other (by have:=bE1.lt;omega)).trans bEV;have q1:=bS6.cell 0 (v:=.string ⟨c.toArray⟩) rfl;have q2:=bE6.cell 0 (v:=.nilIface) rfl;exact⟨.tuple #[.string ⟨c.toArray⟩,.nilIface],by simp [results,results146,go_sem,q1,q2],rfl,hBV.trans (belowK_b (w:=w) (Nat.le_refl _) V D _ _ (by omega) hK rfl rfl)⟩
end Go.Proofs
namespace Go.Proofs
open Go.Shelf
def Tryz.laysAtoi_ren:Go.Shelf.Ren:=⟨fun | 172=>237 | 244=>267 | 245=>162 | 247=>282 | 279=>191 | 280=>192 | 281=>193 | 282=>194 | 287=>161 | 316=>217 | 171=>205 | 205=>218 | 321=>189 | 322=>190 | 243=>227 | 246=>250 | 283=>195 | 284=>196 | 285=>197 | 286=>198 | 129=>220 | 317=>219 | 318=>221 | 319=>222 | 320=>223 | 337=>239 | 338=>240 | n=>n,fun | 9=>9 | 3=>3 | 75=>81 | 76=>94 | 4=>4 | 5=>5 | 167=>286 | 37=>267 | 0=>0 | 85=>362 | 2=>2 | 168=>288 | 53=>31 | 175=>85 | 46=>54 | 210=>316 | 127=>324 | 145=>331 | 143=>329 | 21=>21 | 171=>291 | 173=>294 | 212=>318 | 51=>319 | 20=>20 | 213=>320 | 232=>353 | 233=>354 | 80=>137 | n=>n,fun | 15=>1 | 16=>2 | 17=>3 | 18=>4 | 19=>5 | n=>n⟩
theorem Tryz.laysAtoi:Go.Proofs.Lays.n172 prog laysAtoi_ren:={
 mixed:=by kernel_rfl
 f129:=func220.trans (congrArg some (by kernel_rfl))
 f171:=func205.trans (congrArg some (by kernel_rfl))
 f172:=func237.trans (congrArg some (by kernel_rfl))
 f205:=func218.trans (congrArg some (by kernel_rfl))
 f243:=func227.trans (congrArg some (by kernel_rfl))
 f244:=func267.trans (congrArg some (by kernel_rfl))
 f245:=func162.trans (congrArg some (by kernel_rfl))
 f246:=func250.trans (congrArg some (by kernel_rfl))
 f247:=func282.trans (congrArg some (by kernel_rfl))
 f279:=func191.trans (congrArg some (by kernel_rfl))
 f280:=func192.trans (congrArg some (by kernel_rfl))
 f281:=func193.trans (congrArg some (by kernel_rfl))
 f282:=func194.trans (congrArg some (by kernel_rfl))
 f283:=func195.trans (congrArg some (by kernel_rfl))
 f284:=func196.trans (congrArg some (by kernel_rfl))
 f285:=func197.trans (congrArg some (by kernel_rfl))
 f286:=func198.trans (congrArg some (by kernel_rfl))
 f287:=func161.trans (congrArg some (by kernel_rfl))
 f316:=func217.trans (congrArg some (by kernel_rfl))
 f317:=func219.trans (congrArg some (by kernel_rfl))
 f318:=func221.trans (congrArg some (by kernel_rfl))
 f319:=func222.trans (congrArg some (by kernel_rfl))
 f320:=func223.trans (congrArg some (by kernel_rfl))
 f321:=func189.trans (congrArg some (by kernel_rfl))
 f322:=func190.trans (congrArg some (by kernel_rfl))
 f337:=func239.trans (congrArg some (by kernel_rfl))
 f338:=func240.trans (congrArg some (by kernel_rfl))
 t0:=underlying0
 a0:=isAgg0
 z0:=sizeOf0
 v0:=zeroValue0
 t2:=underlying2
 a2:=isAgg2
 z2:=sizeOf2
 v2:=zeroValue2
 t3:=underlying3
 a3:=isAgg3
 z3:=sizeOf3
 v3:=zeroValue3
 t4:=underlying4
 a4:=isAgg4
 z4:=sizeOf4
 v4:=zeroValue4
 t5:=underlying5
 a5:=isAgg5
 z5:=sizeOf5
 v5:=zeroValue5
 t9:=underlying9
 a9:=isAgg9
 z9:=sizeOf9
 v9:=zeroValue9
 t20:=underlying20
 a20:=isAgg20
 z20:=sizeOf20
 v20:=zeroValue20
 t21:=underlying21
 a21:=isAgg21
 z21:=sizeOf21
 v21:=zeroValue21
 t37:=underlying267
 a37:=isAgg267
 z37:=sizeOf267
 v37:=zeroValue267
 t46:=underlying54
 a46:=isAgg54
 z46:=sizeOf54
 v46:=zeroValue54
 t51:=underlying319
 a51:=isAgg319
 z51:=sizeOf319
 v51:=zeroValue319
 t53:=underlying31
 a53:=isAgg31
 z53:=sizeOf31
 v53:=zeroValue31
 t75:=underlying81
 a75:=isAgg81
 z75:=sizeOf81
 v75:=zeroValue81
 t76:=underlying94
 a76:=isAgg94
 z76:=sizeOf94
 v76:=zeroValue94
 t85:=underlying362
 a85:=isAgg362
 z85:=sizeOf362
 v85:=zeroValue362
 t127:=underlying324
 a127:=isAgg324
 z127:=sizeOf324
 v127:=zeroValue324
 t143:=underlying329
 a143:=isAgg329
 z143:=sizeOf329
 v143:=zeroValue329
 t145:=underlying331
 a145:=isAgg331
 z145:=sizeOf331
 v145:=zeroValue331
 t167:=underlying286
 a167:=isAgg286
 z167:=sizeOf286
 v167:=zeroValue286
 t168:=underlying288
 a168:=isAgg288
 z168:=sizeOf288
 v168:=zeroValue288
 t171:=underlying291
 a171:=isAgg291
 z171:=sizeOf291
 v171:=zeroValue291
 t173:=underlying294
 a173:=isAgg294
 z173:=sizeOf294
 v173:=zeroValue294
 t175:=underlying85
 a175:=isAgg85
 z175:=sizeOf85
 v175:=zeroValue85
 t210:=underlying316
 a210:=isAgg316
 z210:=sizeOf316
 v210:=zeroValue316
 t212:=underlying318
 a212:=isAgg318
 z212:=sizeOf318
 v212:=zeroValue318
 t213:=underlying320
 a213:=isAgg320
 z213:=sizeOf320
 t232:=underlying353
 a232:=isAgg353
 z232:=sizeOf353
 v232:=zeroValue353
 t233:=underlying354
 a233:=isAgg354
 z233:=sizeOf354
 v233:=zeroValue354
 g15:=by kernel_rfl
 g16:=by kernel_rfl
 g17:=by kernel_rfl
 g18:=by kernel_rfl
 g19:=by kernel_rfl }
def Tryz.laysClone_ren:Go.Shelf.Ren:=⟨fun | 25=>217 | n=>n,fun | 9=>9 | 3=>3 | 4=>4 | 37=>267 | 0=>0 | 47=>324 | 5=>5 | n=>n,fun | n=>n⟩
theorem Tryz.laysClone:Go.Proofs.LaysPu.n25 prog laysClone_ren:={
 mixed:=by kernel_rfl
 f25:=func217.trans (congrArg some (by kernel_rfl))
 t0:=underlying0
 a0:=isAgg0
 z0:=sizeOf0
 v0:=zeroValue0
 i0:=by kernel_rfl
 t3:=underlying3
 a3:=isAgg3
 z3:=sizeOf3
 v3:=zeroValue3
 i3:=by kernel_rfl
 t4:=underlying4
 a4:=isAgg4
 z4:=sizeOf4
 v4:=zeroValue4
 i4:=by kernel_rfl
 t5:=underlying5
 a5:=isAgg5
 z5:=sizeOf5
 v5:=zeroValue5
 i5:=by kernel_rfl
 t9:=underlying9
 a9:=isAgg9
 z9:=sizeOf9
 v9:=zeroValue9
 i9:=by kernel_rfl
 t37:=underlying267
 a37:=isAgg267
 z37:=sizeOf267
 v37:=zeroValue267
 i37:=by kernel_rfl
 t47:=underlying324
 a47:=isAgg324
 z47:=sizeOf324
 v47:=zeroValue324
 i47:=by kernel_rfl }
end Go.Proofs
namespace Go.Proofs
open Go.RowKit Go.Sort Go.Lib Go.Shelf Go.Maps
theorem map_string (xs:List (List UInt8)) (bs:List ByteArray) (h:bs.map (·.data.toList)=xs):bs.map Value.string=xs.map (fun x=>.string ⟨x.toArray⟩):=by
 rw [← h,List.map_map];exact List.map_congr_left (fun b _=>rfl)
theorem Tryz.split1 (s:List UInt8) (c:UInt8) (w:World) (hs:s.length<4294967281) (hG:ErrT w) (xs:List (List UInt8)) (hx:Lib.split s [c]=xs) :
  Calls prog 184 #[.string ⟨s.toArray⟩,.string ⟨#[c]⟩] w fun e w'=>e=.returned (.slice (some ⟨w.heap.size,0,none⟩) xs.length xs.length)∧w'=w.alloc (.cells (xs.map (fun x=>.string ⟨x.toArray⟩)).toArray 9):=by
 obtain⟨-,m,hm⟩:=hG;have h:=Any.strings_Split laysSplit infoStr ⟨s.toArray⟩ ⟨#[c]⟩ m w (by simpa [ByteArray.size] using hs) hm (Nat.le_refl 1)
 have hd:(Lib.splitB ⟨#[c]⟩ 0 (Lib.countB ⟨s.toArray⟩ ⟨#[c]⟩) ⟨s.toArray⟩).map (·.data.toList)=xs:=by
  rw [Lib.splitB_data];exact hx
 have hl:=Lib.splitB_all ⟨#[c]⟩ (Nat.le_refl 1) 0 _ ⟨s.toArray⟩ rfl;rw [map_string xs _ hd,← hl,show (Lib.splitB ⟨#[c]⟩ 0 (Lib.countB ⟨s.toArray⟩ ⟨#[c]⟩) ⟨s.toArray⟩).length=xs.length by rw [← hd,List.length_map]] at h;exact h
theorem Tryz.atoi (s:List UInt8) (n:Int) (hl:s.length≤18) (h:Lib.atoi s=some n) (w:World) :
  Calls prog 237 #[.string ⟨s.toArray⟩] w fun e w'=>e=.returned (.tuple #[.int .i64 n,.nilIface])∧Below w.heap.size w w':=
 (Any.strconv_Atoi laysAtoi ⟨s.toArray⟩ n (by simpa [ByteArray.size] using hl) h w).mono fun _ _ ⟨h1,t,h2⟩=>⟨h1,by rw [h2];exact Lib.bytesWorld_below _ _ _⟩
theorem Tryz.cloneL (s:List UInt8) (hl:s.length≤281474976710656) (w:World) :
  Calls prog 217 #[.string ⟨s.toArray⟩] w fun e w'=>e=.returned (.string ⟨s.toArray⟩)∧Below w.heap.size w w':=
 AnyPu.stringslite_Clone laysClone ⟨s.toArray⟩ w (by simpa [ByteArray.size] using hl)
theorem Tryz.clone (s:List UInt8) (hl:s.length≤281474976710656) (w:World) :
  Calls prog 238 #[.string ⟨s.toArray⟩] w fun e w'=>e=.returned (.string ⟨s.toArray⟩)∧Below w.heap.size w w':=by
 have hC:=fun W=>cloneL s hl W
 go_enter func238,ntmps238
 go_wp2_with (go_at_call 217;refine(hC _).mono ?_;rintro e w1 ⟨rfl,hb1⟩)
 go_ret;exact⟨rfl,hb1⟩
end Go.Proofs
