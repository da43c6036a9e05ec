import Derived.Test.YtjbekgjdempbiaaGreatDoorJRefB
import Derived.Test.YtjbekgjdempbiaaGreatDoorJMapOps
import Derived.Stop.RegionWithIn
set_option maxRecDepth 100000
set_option maxHeartbeats 8000000
namespace Go.Proofs
open Go.RowKit Go.Sort Go.Lib Go.Shelf
def ofStr (o:Int):List UInt8:=if 0<=o then 116 :: Lib.decDigits o.toNat else []
def ThingD.info (tm:Int) (t:ThingD):InfoD:=⟨t.id,t.state tm,t.at_,t.tries,ofStr t.of_,t.pth⟩
theorem BoxN.c8 {W:World} {b:Nat} {t:TypeId} {c0 c1 c2 c3 c4 c5 c6 c7:Value} (h:BoxN W b t #[c0,c1,c2,c3,c4,c5,c6,c7]) :
  W.cell? ⟨b,0,none⟩=some c0/\W.cell? ⟨b,1,none⟩=some c1/\W.cell? ⟨b,2,none⟩=some c2/\W.cell? ⟨b,3,none⟩=some c3/\W.cell? ⟨b,4,none⟩=some c4/\W.cell? ⟨b,5,none⟩=some c5/\W.cell? ⟨b,6,none⟩=some c6/\W.cell? ⟨b,7,none⟩=some c7:=
 ⟨h.cell 0 rfl,h.cell 1 rfl,h.cell 2 rfl,h.cell 3 rfl,h.cell 4 rfl,h.cell 5 rfl,h.cell 6 rfl,h.cell 7 rfl⟩
theorem BoxN.c6 {W:World} {b:Nat} {t:TypeId} {c0 c1 c2 c3 c4 c5:Value} (h:BoxN W b t #[c0,c1,c2,c3,c4,c5]) :
  (W.cell? ⟨b,0,none⟩=some c0/\W.cell? ⟨b,1,none⟩=some c1/\W.cell? ⟨b,2,none⟩=some c2/\W.cell? ⟨b,3,none⟩=some c3/\W.cell? ⟨b,4,none⟩=some c4/\W.cell? ⟨b,5,none⟩=some c5) /\
  (W.frozen? ⟨b,0,none⟩=false/\W.frozen? ⟨b,1,none⟩=false/\W.frozen? ⟨b,2,none⟩=false/\W.frozen? ⟨b,3,none⟩=false/\W.frozen? ⟨b,4,none⟩=false/\W.frozen? ⟨b,5,none⟩=false):=
 ⟨⟨h.cell 0 rfl,h.cell 1 rfl,h.cell 2 rfl,h.cell 3 rfl,h.cell 4 rfl,h.cell 5 rfl⟩,h.frozen 0,h.frozen 1,h.frozen 2,h.frozen 3,h.frozen 4,h.frozen 5⟩
theorem Xgn {w W:World} {B q:Nat} (h:Below B w W) (hq:B<=q) (v0 v1 v2 v3 v4 v5:Value) :
  Below B w ((((((W.setCell ⟨q,0,none⟩ v0).setCell ⟨q,1,none⟩ v1).setCell ⟨q,2,none⟩ v2).setCell ⟨q,3,none⟩ v3).setCell ⟨q,4,none⟩ v4).setCell ⟨q,5,none⟩ v5):=
 (((((h.setCell (p:=⟨q,0,none⟩) hq v0).setCell (p:=⟨q,1,none⟩) hq v1).setCell (p:=⟨q,2,none⟩) hq v2).setCell (p:=⟨q,3,none⟩) hq v3).setCell (p:=⟨q,4,none⟩) hq v4).setCell (p:=⟨q,5,none⟩) hq v5
abbrev Xrh:Array Value:=#[.string ⟨#[]⟩,.int .i64 0,.int .u64 0,.int .i64 0,.string ⟨#[]⟩,.string ⟨#[]⟩]
theorem Tryz.rInfo (t:ThingD) (vb:Nat) (tm:Int) (w:World) (h1:w.cell? ⟨vb,1,none⟩=some (.int .u64 tm)) (hn:t.n<9223372036854775808) (ho:t.OfOk) :
  Calls prog 101 #[.pointer (some ⟨vb,0,none⟩),.agg t.cells] w fun e w'=>e=.returned (.agg (t.info tm).cells)/\Below w.heap.size w w':=by
 have hS:=fun W (h:W.cell? ⟨vb,1,none⟩=some (.int .u64 tm))=>Xfo t vb tm W h
 have hI:=fun W=>rId t hn W
 simp only [ThingD.info,InfoD.cells];generalize t.state tm=st at *;generalize t.id=tid at *;obtain⟨tk,n,o,p,a,l,dm,tr⟩:=t;simp only [ThingD.cells] at *;have hB0:Below w.heap.size w ((w.alloc (.cells #[.bool tk,.int .i64 n,.int .i64 o,.string ⟨p.toArray⟩,.int .u64 a,.int .u64 l,.bool dm,.int .i64 tr] 105)).alloc (.cells Xrh 49)):=((Below.refl _ w).alloc (Nat.le_refl _) _).alloc (by simp) _;have bT:=(BoxN.new w 105 #[.bool tk,.int .i64 n,.int .i64 o,.string ⟨p.toArray⟩,.int .u64 a,.int .u64 l,.bool dm,.int .i64 tr]).alloc (.cells Xrh 49);have bR:=BoxN.new (w.alloc (.cells #[.bool tk,.int .i64 n,.int .i64 o,.string ⟨p.toArray⟩,.int .u64 a,.int .u64 l,.bool dm,.int .i64 tr] 105)) 49 Xrh;rw [World.size_alloc] at bR;have h1':=cell_later hB0 h1
 rcases ho with ho | ⟨m,ho,hm⟩
 ·simp only at ho
  subst ho;have hof:Hid (ofStr (-1) = []):=Xb rfl;generalize ofStr (-1)=os at *;go_enter func101,ntmps101
  go_wp2_with (first
   | (go_at_call 150;refine(hS _ h1').mono ?_;rintro e w1 ⟨rfl,hb1⟩;have bT1:=bT.below hb1 bT.lt;obtain⟨x0,x1,x2,x3,x4,x5,x6,x7⟩:=bT1.c8)
   | (go_at_call 105;refine(hI _).mono ?_;rintro e w2 ⟨rfl,hb2⟩;have bT2:=bT1.below hb2 bT1.lt;obtain⟨y0,y1,y2,y3,y4,y5,y6,y7⟩:=bT2.c8;have bR2:=(bR.below hb1 bR.lt).below hb2 (bR.below hb1 bR.lt).lt;obtain⟨⟨r0,r1,r2,r3,r4,r5⟩,f0,f1,f2,f3,f4,f5⟩:=bR2.c6;have lt2:=bT2.lt;have ltR:=bR2.lt))
  have hB2:Below w.heap.size w w2:=(hB0.trans (hb1.mono (by simp;omega))).trans (hb2.mono (by have:=hb1.size;simp at this;omega));obtain⟨g0,g1,g2,g3,g4,g5⟩:=((Xh3 bR2 (.string ⟨tid.toArray⟩) (.int .i64 st) (.int .u64 a) (.int .i64 tr) (.string ⟨#[]⟩) (.string ⟨p.toArray⟩)).alloc (.cells #[.string ⟨tid.toArray⟩,.int .i64 st,.int .u64 a,.int .i64 tr,.string ⟨#[]⟩,.string ⟨p.toArray⟩] 49)).c6.1;have hBF:=(Xgn hB2 (Nat.le_succ _) (.string ⟨tid.toArray⟩) (.int .i64 st) (.int .u64 a) (.int .i64 tr) (.string ⟨#[]⟩) (.string ⟨p.toArray⟩)).alloc (by simp only [World.size_setCell];omega) (.cells #[.string ⟨tid.toArray⟩,.int .i64 st,.int .u64 a,.int .i64 tr,.string ⟨#[]⟩,.string ⟨p.toArray⟩] 49);clear hS hI hb1 hb2 hB0 bT bR h1 h1' x0 x1 x2 x3 x4 x5 x6 x7 y0 y1 y2 y3 y4 y5 y6 y7 bT1 bT2;generalize World.alloc _ _=WF at *;exact bodyPost_ret (v:=.agg (Yb tid st a tr [] p)) (by simp [results,results101,go_sem,g0,g1,g2,g3,g4,g5,Yb]) rfl ⟨by rw [Xa hof],hBF⟩
 simp only at ho;subst ho;have hof:Hid (ofStr (m:Int)=116 :: Lib.decDigits m):=Xb (by simp [ofStr])
 have hD:=fun W=>Xmx m hm W
 have hlen:¬ 9223372036854775807<1+(Lib.decDigits m).length:=by have:=Ya m (by omega);omega
 have hlen':¬ 9223372036854775807<(Lib.decDigits m).length+1:=by omega
 generalize ofStr (m:Int)=os at *;generalize Lib.decDigits m=ds at *;go_enter func101,ntmps101
 go_wp2_with (first
  | (go_at_call 150;refine(hS _ h1').mono ?_;rintro e w1 ⟨rfl,hb1⟩;have bT1:=bT.below hb1 bT.lt;obtain⟨x0,x1,x2,x3,x4,x5,x6,x7⟩:=bT1.c8)
  | (go_at_call 105;refine(hI _).mono ?_;rintro e w2 ⟨rfl,hb2⟩;have bT2:=bT1.below hb2 bT1.lt;obtain⟨y0,y1,y2,y3,y4,y5,y6,y7⟩:=bT2.c8;have bR2:=(bR.below hb1 bR.lt).below hb2 (bR.below hb1 bR.lt).lt;have lt2:=bT2.lt;have ltR:=bR2.lt;have bX2:=BoxN.new w2 49 #[.string ⟨tid.toArray⟩,.int .i64 st,.int .u64 a,.int .i64 tr,.string ⟨#[]⟩,.string ⟨p.toArray⟩])
  | (go_at_call 151;refine(hD _).mono ?_;rintro e w3 ⟨rfl,hb3⟩;have bX3:=bX2.below hb3 bX2.lt;have bR3:=(bR2.alloc (.cells #[.string ⟨tid.toArray⟩,.int .i64 st,.int .u64 a,.int .i64 tr,.string ⟨#[]⟩,.string ⟨p.toArray⟩] 49)).below hb3 (by simp;omega);obtain⟨⟨r0,r1,r2,r3,r4,r5⟩,f0,f1,f2,f3,f4,f5⟩:=bR3.c6;obtain⟨⟨z0,z1,z2,z3,z4,z5⟩,k0,k1,k2,k3,k4,k5⟩:=bX3.c6))
 have hB2:Below w.heap.size w w2:=(hB0.trans (hb1.mono (by simp;omega))).trans (hb2.mono (by have:=hb1.size;simp at this;omega));have hB3:Below w.heap.size w w3:=(hB2.alloc (by omega) _).trans (hb3.mono (by simp;omega));obtain⟨g0,g1,g2,g3,g4,g5⟩:=(Xh3 (bR3.other (B':=w2.heap.size) (by omega) 4 (.string (⟨#[116]⟩ ++ ⟨ds.toArray⟩))) (.string ⟨tid.toArray⟩) (.int .i64 st) (.int .u64 a) (.int .i64 tr) (.string (⟨#[116]⟩ ++ ⟨ds.toArray⟩)) (.string ⟨p.toArray⟩)).c6.1;have hBF:=Xgn (hB3.setCell (p:=⟨w2.heap.size,4,none⟩) (by simp;omega) (.string (⟨#[116]⟩ ++ ⟨ds.toArray⟩))) (Nat.le_succ _) (.string ⟨tid.toArray⟩) (.int .i64 st) (.int .u64 a) (.int .i64 tr) (.string (⟨#[116]⟩ ++ ⟨ds.toArray⟩)) (.string ⟨p.toArray⟩);clear hS hI hb1 hb2 hb3 hB0 bT bR h1 h1' x0 x1 x2 x3 x4 x5 x6 x7 y0 y1 y2 y3 y4 y5 y6 y7 bT1 bT2 r0 r1 r2 r3 r4 r5 z0 z1 z2 z3 z4 z5 bX3 bX2 bR3 bR2;generalize World.setCell _ ⟨w.heap.size+1,5,none⟩ _=WF at *;have hos:=Xb (Uw 116 ds);generalize (⟨#[116]⟩:ByteArray) ++ ⟨ds.toArray⟩=sb at *;exact bodyPost_ret (v:=.agg (Yb tid st a tr (116 :: ds) p)) (by simp [results,results101,go_sem,g0,g1,g2,g3,g4,g5,Yb,Xa hos]) rfl ⟨by rw [Xa hof],hBF⟩
def allInfos (tm:Int) (L:List ThingD):List InfoD:=((L.filter (fun t=>t.token))++(L.filter (fun t=>!t.token))).map (ThingD.info tm)
end Go.Proofs
namespace Go.Proofs
open Go.RowKit Go.Sort
def Xnn (ops:Array Oper):Bool:=ops.all fun o=>match o.op with | .defer _=>false | _=>true
theorem Xhy {ops:Array Oper} (h:Xnn ops=true) {i:Nat} {o:Oper} (ho:ops[i]? = some o):∀ c,o.op ≠ .defer c:=fun c hc=>by
 obtain⟨hi,he⟩:=Array.getElem?_eq_some_iff.1 ho;have:=(Array.all_eq_true.1 h) i hi;rw [he,hc] at this;cases this
section
variable {n:Nat} {P:Program} {md:Region.Mode} {ops:Array Oper} {Q:Exit->Act->World->Prop}
theorem Xic (l:Nat) {o:Oper} (hd:∀ c,o.op ≠ .defer c) {a:Act} {w:World} {K:Act->World->Prop} (h:o.wpIn Fence.wide n P a w K Q):o.wpIn (Fence.wide.inRound l) n P a w K Q:=by
 unfold Oper.wpIn at h ⊢;rw [Oper.semAt_eq _ _ _ hd] at h ⊢;exact h
theorem X1 (l:Nat) (hd:Xnn ops=true):∀(fuel:Nat) (listed:Array Bool) (a:Act) (w:World),wpAnyIn Fence.wide n P md ops Q fuel listed a w->wpAnyIn (Fence.wide.inRound l) n P md ops Q fuel listed a w
 | 0,_,_,_,h=>h
 | fuel+1,listed,a,w,h=>by
  refine⟨h.1,fun i hi=>?_⟩;have hs:=h.2 i hi;unfold wpOpIn at hs ⊢
  cases ho:ops[i]? with
  | none=>rw [ho] at hs;exact X1 l hd fuel _ _ _ hs
  | some o =>
   rw [ho] at hs;simp only at hs ⊢
   split
   ·rename_i hw
    rw [if_pos hw] at hs;exact Xic l (Xhy hd ho) (Oper.wpIn_mono (fun a w=>X1 l hd fuel _ a w) hs)
   rename_i hw
   rw [if_neg hw] at hs;exact⟨hs.1,X1 l hd fuel _ _ _ hs.2⟩
end
end Go.Proofs
