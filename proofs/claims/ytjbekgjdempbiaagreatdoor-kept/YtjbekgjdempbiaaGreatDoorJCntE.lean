import Derived.Test.YtjbekgjdempbiaaGreatDoorJDiskC
import Derived.Test.YtjbekgjdempbiaaGreatDoorJRefG
import Derived.Test.YtjbekgjdempbiaaGreatDoorJRecP
import Derived.Test.YtjbekgjdempbiaaGreatDoorJLogA
import Derived.Lib.ItoaLen
import Derived.Test.YtjbekgjdempbiaaGreatDoorJCodeE
set_option maxRecDepth 100000
set_option maxHeartbeats 8000000
namespace Go.Proofs
open Go.RowKit Go.Sort Go.Maps
theorem Xpz {n:Nat} {w W w1:World} {o:Obj} (h:w1=W.alloc o) (hb:Below n w W) (hn:n<=W.heap.size):Below n w w1:=by rw [h];exact hb.alloc hn _
theorem Xvx {W w1:World} {o:Obj} {b:Nat} {t:TypeId} {cs:Array Value} (h:w1=W.alloc o) (hb:BoxN W b t cs):BoxN w1 b t cs:=by rw [h];exact hb.alloc _
theorem Xvo {W w1:World} {t:TypeId} {cs:Array Value} {n:Nat} (h:w1=W.alloc (.cells cs t)) (hn:W.heap.size=n):BoxN w1 n t cs:=by rw [h,<- hn];exact BoxN.new W t cs
abbrev Tryz.PoP (w0:World) (B fb:Nat) (s0 s1 s2 s3 s4 s5 s6 s7:List UInt8) (W:World):Prop:=(W.cell? ⟨fb,1,none⟩=some (.string ⟨s1.toArray⟩)/\W.cell? ⟨fb,2,none⟩=some (.string ⟨s2.toArray⟩)/\W.cell? ⟨fb,3,none⟩=some (.string ⟨s3.toArray⟩)/\W.cell? ⟨fb,7,none⟩=some (.string ⟨s7.toArray⟩))/\BoxN W fb 9 #[.string ⟨s0.toArray⟩,.string ⟨s1.toArray⟩,.string ⟨s2.toArray⟩,.string ⟨s3.toArray⟩,.string ⟨s4.toArray⟩,.string ⟨s5.toArray⟩,.string ⟨s6.toArray⟩,.string ⟨s7.toArray⟩]/\(B+1<W.heap.size/\Below B w0 W)/\BoxN W B 135 #[.int .i64 0,.int .i64 0,.int .u64 0,.int .i64 0,.int .u64 0,.bool false,.int .u64 0,.int .i64 0,.int .u64 0,.string ⟨#[]⟩]
section
variable {w0 W W':World} {B fb:Nat} {s0 s1 s2 s3 s4 s5 s6 s7:List UInt8}
theorem Tryz.PoP.of (h:BoxN W fb 9 #[.string ⟨s0.toArray⟩,.string ⟨s1.toArray⟩,.string ⟨s2.toArray⟩,.string ⟨s3.toArray⟩,.string ⟨s4.toArray⟩,.string ⟨s5.toArray⟩,.string ⟨s6.toArray⟩,.string ⟨s7.toArray⟩]) (h1:B+1<W.heap.size) (h2:Below B w0 W) (h3:BoxN W B 135 #[.int .i64 0,.int .i64 0,.int .u64 0,.int .i64 0,.int .u64 0,.bool false,.int .u64 0,.int .i64 0,.int .u64 0,.string ⟨#[]⟩]):PoP w0 B fb s0 s1 s2 s3 s4 s5 s6 s7 W:=⟨⟨h.cell 1 rfl,h.cell 2 rfl,h.cell 3 rfl,h.cell 7 rfl⟩,h,⟨h1,h2⟩,h3⟩
theorem Tryz.PoP.below (h:PoP w0 B fb s0 s1 s2 s3 s4 s5 s6 s7 W) (hb:Below W.heap.size W W'):PoP w0 B fb s0 s1 s2 s3 s4 s5 s6 s7 W':=by
 obtain⟨-,h1,⟨h2,h3⟩,h4⟩:=h;exact PoP.of (h1.below hb h1.lt) (Nat.lt_of_lt_of_le h2 hb.size) (h3.trans (hb.mono (by omega))) (h4.below hb h4.lt)
theorem Tryz.PoP.drew (h:PoP w0 B fb s0 s1 s2 s3 s4 s5 s6 s7 W):PoP w0 B fb s0 s1 s2 s3 s4 s5 s6 s7 W.drew:=h.below (Below.refl _ W).drew
theorem Tryz.PoP.alloc (h:PoP w0 B fb s0 s1 s2 s3 s4 s5 s6 s7 W) (o:Obj):PoP w0 B fb s0 s1 s2 s3 s4 s5 s6 s7 (W.alloc o):=h.below ((Below.refl _ _).alloc (Nat.le_refl _) _)
theorem Tryz.PoP.set (h:PoP w0 B fb s0 s1 s2 s3 s4 s5 s6 s7 W) {b i:Nat} (hn:b≠fb) (hB:B<b) (v:Value):PoP w0 B fb s0 s1 s2 s3 s4 s5 s6 s7 (W.setCell ⟨b,i,none⟩ v):=by
 obtain⟨-,h1,⟨h2,h3⟩,h4⟩:=h;exact PoP.of (h1.other (Ne.symm hn) i v) (by simpa using h2) (h3.setCell (Nat.le_of_lt hB) v) (h4.other (by omega) i v)
end
theorem Tryz.Xob (txt s0 s1 s2 s3 s4 s5 s6 s7 tt:List UInt8) (kind at_ tr last nk nn ak an:Int) (w:World)
  (hSp:∀ W,Below w.heap.size w W->Calls prog 184 #[.string ⟨txt.toArray⟩,.string ⟨#[32]⟩] W fun e w'=>e=.returned (.slice (some ⟨W.heap.size,0,none⟩) 8 8)/\w'=W.alloc (.cells #[.string ⟨s0.toArray⟩,.string ⟨s1.toArray⟩,.string ⟨s2.toArray⟩,.string ⟨s3.toArray⟩,.string ⟨s4.toArray⟩,.string ⟨s5.toArray⟩,.string ⟨s6.toArray⟩,.string ⟨s7.toArray⟩] 9))
  (hA0:∀ W,Calls prog 237 #[.string ⟨s0.toArray⟩] W fun e w'=>e=.returned (.tuple #[.int .i64 kind,.nilIface])/\Below W.heap.size W w')
  (hP4:∀ W,Below w.heap.size w W->Calls prog 118 #[.string ⟨s4.toArray⟩,.int .i64 10,.int .i64 64] W fun e w'=>∃ er,e=.returned (.tuple #[.int .u64 at_,er])/\Below W.heap.size W w')
  (hA5:∀ W,Calls prog 237 #[.string ⟨s5.toArray⟩] W fun e w'=>e=.returned (.tuple #[.int .i64 tr,.nilIface])/\Below W.heap.size W w')
  (hP6:∀ W,Below w.heap.size w W->Calls prog 118 #[.string ⟨s6.toArray⟩,.int .i64 10,.int .i64 64] W fun e w'=>∃ er,e=.returned (.tuple #[.int .u64 last,er])/\Below W.heap.size W w')
  (hN1:∀ W,Below w.heap.size w W->Calls prog 63 #[.string ⟨s1.toArray⟩] W fun e w'=>e=.returned (.agg #[.int .i64 nk,.int .u64 nn])/\Below W.heap.size W w')
  (hN2:∀ W,Below w.heap.size w W->Calls prog 63 #[.string ⟨s2.toArray⟩] W fun e w'=>e=.returned (.agg #[.int .i64 ak,.int .u64 an])/\Below W.heap.size W w')
  (hFB:∀ W,Calls prog 206 #[.bool true] W fun e w'=>e=.returned (.string ⟨tt.toArray⟩)/\Below W.heap.size W w')
  (hCl:∀ W,Calls prog 238 #[.string ⟨s7.toArray⟩] W fun e w'=>e=.returned (.string ⟨s7.toArray⟩)/\Below W.heap.size W w')
  (hSt:∀ W,Below w.heap.size w W->Calls prog 178 #[.agg #[.int .i64 kind,.int .i64 nk,.int .u64 nn,.int .i64 ak,.int .u64 an,.bool (s3==tt),.int .u64 at_,.int .i64 tr,.int .u64 last,.string ⟨s7.toArray⟩]] W fun e w'=>e=.returned (.string ⟨txt.toArray⟩)/\Below W.heap.size W w') :
  Calls prog 215 #[.string ⟨txt.toArray⟩] w fun e w'=>e=.returned (.tuple #[.agg #[.int .i64 kind,.int .i64 nk,.int .u64 nn,.int .i64 ak,.int .u64 an,.bool (s3==tt),.int .u64 at_,.int .i64 tr,.int .u64 last,.string ⟨s7.toArray⟩],.bool true])/\Below w.heap.size w w':=by
 have hb0:Below w.heap.size w (w.alloc (.cells #[.int .i64 0,.int .i64 0,.int .u64 0,.int .i64 0,.int .u64 0,.bool false,.int .u64 0,.int .i64 0,.int .u64 0,.string ⟨#[]⟩] 135)):=(Below.refl _ w).alloc (Nat.le_refl _) _;have bR0:=BoxN.new w 135 #[.int .i64 0,.int .i64 0,.int .u64 0,.int .i64 0,.int .u64 0,.bool false,.int .u64 0,.int .i64 0,.int .u64 0,.string ⟨#[]⟩];go_enter func215,ntmps215
 go_wp2_with (first
  | (go_at_call 184;refine(hSp _ hb0).mono ?_;rintro e w1 ⟨rfl,hw1⟩;rw [World.size_alloc];have hb1:=Xpz hw1 hb0 (by simp);have bF1:=Xvo hw1 (World.size_alloc _ _);have bR1:=Xvx hw1 bR0;have f0:=bF1.cell 0 (v:=.string ⟨s0.toArray⟩) rfl;clear hw1)
  | (go_at_call_of 237 (Value.string ⟨s0.toArray⟩);refine(hA0 _).mono ?_;rintro e w2 ⟨rfl,hb2⟩;have hbb2:=hb1.trans (hb2.mono hb1.size);have bF2:=bF1.below hb2 bF1.lt;have bR2:=bR1.below hb2 bR1.lt;have f4:=bF2.cell 4 (v:=.string ⟨s4.toArray⟩) rfl)
  | (go_at_call_of 118 (Value.string ⟨s4.toArray⟩);refine(hP4 _ hbb2).mono ?_;rintro e w3 ⟨er,rfl,hb3⟩;have hbb3:=hbb2.trans (hb3.mono hbb2.size);have bF3:=bF2.below hb3 bF2.lt;have bR3:=bR2.below hb3 bR2.lt;have f5:=bF3.cell 5 (v:=.string ⟨s5.toArray⟩) rfl)
  | (go_at_call_of 237 (Value.string ⟨s5.toArray⟩);refine(hA5 _).mono ?_;rintro e w4 ⟨rfl,hb4⟩;have hbb4:=hbb3.trans (hb4.mono hbb3.size);have bF4:=bF3.below hb4 bF3.lt;have bR4:=bR3.below hb4 bR3.lt;have f6:=bF4.cell 6 (v:=.string ⟨s6.toArray⟩) rfl)
  | (go_at_call_of 118 (Value.string ⟨s6.toArray⟩);refine(hP6 _ hbb4).mono ?_;rintro e w5 ⟨er2,rfl,hb5⟩;have hbb5:=hbb4.trans (hb5.mono hbb4.size);have bF5:=bF4.below hb5 bF4.lt;have bR5:=bR4.below hb5 bR4.lt))
 have hS0:PoP w w.heap.size (w.heap.size+1) s0 s1 s2 s3 s4 s5 s6 s7 w5.drew:=PoP.drew (PoP.of bF5 bF5.lt hbb5 bR5)
 have hS1:∀ o,PoP w w.heap.size (w.heap.size+1) s0 s1 s2 s3 s4 s5 s6 s7 (w5.alloc o).drew:=fun o=>PoP.drew (PoP.alloc (PoP.of bF5 bF5.lt hbb5 bR5) o)
 have hgo:∀ {W:World} {o:Obj},PoP w w.heap.size (w.heap.size+1) s0 s1 s2 s3 s4 s5 s6 s7 (W.alloc o)->w.heap.size<W.heap.size:=fun h=>by have:=h.2.2.1.1;simp at this;omega
 clear bF1 bF2 bF3 bF4 bR1 bR2 bR3 bR4 f0 f4 f5 f6 hb0 bR0 hA0 hA5 hP4 hP6 hSp
 go_region_held3 (PoP w w.heap.size (w.heap.size+1) s0 s1 s2 s3 s4 s5 s6 s7) (first
  | with_reducible exact hS0
  | with_reducible exact hS1 _
  | with_reducible exact PoP.below (by assumption) (by assumption)
  | with_reducible assumption
  | with_reducible exact PoP.alloc (PoP.below (PoP.below (PoP.below (PoP.below hS0 hbS6) hbS7) hbS8) hbS9) _
  | with_reducible exact PoP.alloc (by assumption) _
  | exact(PoP.set (PoP.set (PoP.set (PoP.set (PoP.set (PoP.set (PoP.set (PoP.set (PoP.set (PoP.set (by assumption) hzn hzb _) hzn hzb _) hzn hzb _) hzn hzb _) hzn hzb _) hzn hzb _) hzn hzb _) hzn hzb _) hzn hzb _) hzn hzb _)
  | fail) (first
  | (go_at_call_of 63 (Value.string ⟨s1.toArray⟩);refine(hN1 _ (show PoP w w.heap.size (w.heap.size+1) s0 s1 s2 s3 s4 s5 s6 s7 _ from by assumption).2.2.1.2).mono ?_;rintro e w6 ⟨rfl,hbS6⟩;first | (have bZ:=BoxN.below (W:=(w5.alloc (.cells #[.int .i64 0,.int .i64 0,.int .u64 0,.int .i64 0,.int .u64 0,.bool false,.int .u64 0,.int .i64 0,.int .u64 0,.string ⟨#[]⟩] 135)).drew) (BoxN.new w5 135 #[.int .i64 0,.int .i64 0,.int .u64 0,.int .i64 0,.int .u64 0,.bool false,.int .u64 0,.int .i64 0,.int .u64 0,.string ⟨#[]⟩]) hbS6 (by simp);have hzb:w.heap.size<w5.heap.size:=Nat.lt_trans (Nat.lt_succ_self _) bF5.lt;have hzn:=BoxN.ne bZ (show PoP w w.heap.size (w.heap.size+1) s0 s1 s2 s3 s4 s5 s6 s7 _ from PoP.below (by assumption) hbS6).2.1 (by decide)) | (have bZ:=BoxN.below (BoxN.new _ 135 #[.int .i64 0,.int .i64 0,.int .u64 0,.int .i64 0,.int .u64 0,.bool false,.int .u64 0,.int .i64 0,.int .u64 0,.string ⟨#[]⟩]) hbS6 (by simp);have hzb:=hgo (by assumption);have hzn:=BoxN.ne bZ (show PoP w w.heap.size (w.heap.size+1) s0 s1 s2 s3 s4 s5 s6 s7 _ from PoP.below (by assumption) hbS6).2.1 (by decide)) | (have bZ:=BoxN.below bZ hbS6 bZ.lt) | skip)
  | (go_at_call_of 63 (Value.string ⟨s2.toArray⟩);refine(hN2 _ (show PoP w w.heap.size (w.heap.size+1) s0 s1 s2 s3 s4 s5 s6 s7 _ from by assumption).2.2.1.2).mono ?_;rintro e w7 ⟨rfl,hbS7⟩;first | (have bZ:=BoxN.below (BoxN.new _ 135 #[.int .i64 0,.int .i64 0,.int .u64 0,.int .i64 0,.int .u64 0,.bool false,.int .u64 0,.int .i64 0,.int .u64 0,.string ⟨#[]⟩]) hbS7 (by simp);have hzb:=hgo (by assumption);have hzn:=BoxN.ne bZ (show PoP w w.heap.size (w.heap.size+1) s0 s1 s2 s3 s4 s5 s6 s7 _ from PoP.below (by assumption) hbS7).2.1 (by decide)) | (have bZ:=BoxN.below bZ hbS7 bZ.lt) | skip)
  | (go_at_call 206;refine(hFB _).mono ?_;rintro e w8 ⟨rfl,hbS8⟩;first | (have bZ:=BoxN.below (BoxN.new _ 135 #[.int .i64 0,.int .i64 0,.int .u64 0,.int .i64 0,.int .u64 0,.bool false,.int .u64 0,.int .i64 0,.int .u64 0,.string ⟨#[]⟩]) hbS8 (by simp);have hzb:=hgo (by assumption);have hzn:=BoxN.ne bZ (show PoP w w.heap.size (w.heap.size+1) s0 s1 s2 s3 s4 s5 s6 s7 _ from PoP.below (by assumption) hbS8).2.1 (by decide)) | (have bZ:=BoxN.below bZ hbS8 bZ.lt) | skip)
  | (go_at_call 238;refine(hCl _).mono ?_;rintro e w9 ⟨rfl,hbS9⟩;first | (have bZ:=BoxN.below (BoxN.new _ 135 #[.int .i64 0,.int .i64 0,.int .u64 0,.int .i64 0,.int .u64 0,.bool false,.int .u64 0,.int .i64 0,.int .u64 0,.string ⟨#[]⟩]) hbS9 (by simp);have hzb:=hgo (by assumption);have hzn:=BoxN.ne bZ (show PoP w w.heap.size (w.heap.size+1) s0 s1 s2 s3 s4 s5 s6 s7 _ from PoP.below (by assumption) hbS9).2.1 (by decide);have z0:=bZ.cell 0 (v:=.int .i64 0) rfl;have y0:=bZ.frozen 0;have z1:=bZ.cell 1 (v:=.int .i64 0) rfl;have y1:=bZ.frozen 1;have z2:=bZ.cell 2 (v:=.int .u64 0) rfl;have y2:=bZ.frozen 2;have z3:=bZ.cell 3 (v:=.int .i64 0) rfl;have y3:=bZ.frozen 3;have z4:=bZ.cell 4 (v:=.int .u64 0) rfl;have y4:=bZ.frozen 4;have z5:=bZ.cell 5 (v:=.bool false) rfl;have y5:=bZ.frozen 5;have z6:=bZ.cell 6 (v:=.int .u64 0) rfl;have y6:=bZ.frozen 6;have z7:=bZ.cell 7 (v:=.int .i64 0) rfl;have y7:=bZ.frozen 7;have z8:=bZ.cell 8 (v:=.int .u64 0) rfl;have y8:=bZ.frozen 8;have z9:=bZ.cell 9 (v:=.string ⟨#[]⟩) rfl;have y9:=bZ.frozen 9) | (have bZ:=BoxN.below bZ hbS9 bZ.lt;have z0:=bZ.cell 0 (v:=.int .i64 0) rfl;have y0:=bZ.frozen 0;have z1:=bZ.cell 1 (v:=.int .i64 0) rfl;have y1:=bZ.frozen 1;have z2:=bZ.cell 2 (v:=.int .u64 0) rfl;have y2:=bZ.frozen 2;have z3:=bZ.cell 3 (v:=.int .i64 0) rfl;have y3:=bZ.frozen 3;have z4:=bZ.cell 4 (v:=.int .u64 0) rfl;have y4:=bZ.frozen 4;have z5:=bZ.cell 5 (v:=.bool false) rfl;have y5:=bZ.frozen 5;have z6:=bZ.cell 6 (v:=.int .u64 0) rfl;have y6:=bZ.frozen 6;have z7:=bZ.cell 7 (v:=.int .i64 0) rfl;have y7:=bZ.frozen 7;have z8:=bZ.cell 8 (v:=.int .u64 0) rfl;have y8:=bZ.frozen 8;have z9:=bZ.cell 9 (v:=.string ⟨#[]⟩) rfl;have y9:=bZ.frozen 9) | skip))
 clear hN1 hN2 hFB hCl hgo hS0 hS1
 focus
  have bR:=BoxN.new w9 135 #[.int .i64 kind,.int .i64 nk,.int .u64 nn,.int .i64 ak,.int .u64 an,.bool (s3==tt),.int .u64 at_,.int .i64 tr,.int .u64 last,.string ⟨s7.toArray⟩];have hzl:0<=w9.heap.size:=Nat.zero_le _
  have hPl:=(show PoP w w.heap.size (w.heap.size+1) s0 s1 s2 s3 s4 s5 s6 s7 ((w9.alloc (.cells #[.int .i64 kind,.int .i64 nk,.int .u64 nn,.int .i64 ak,.int .u64 an,.bool (s3==tt),.int .u64 at_,.int .i64 tr,.int .u64 last,.string ⟨s7.toArray⟩] 135))) from by assumption)
  have hBl:=hPl.2.2.1.2;have bOl:=hPl.2.2.2;clear hPl
  obtain⟨Wl,hWl⟩:∃ W,(w9.alloc (.cells #[.int .i64 kind,.int .i64 nk,.int .u64 nn,.int .i64 ak,.int .u64 an,.bool (s3==tt),.int .u64 at_,.int .i64 tr,.int .u64 last,.string ⟨s7.toArray⟩] 135))=W:=⟨_,rfl⟩
  obtain⟨rb,hrb⟩:∃ b,w9.heap.size=b:=⟨_,rfl⟩
 rotate_left
 focus
  have bR:BoxN ((((((((((w9.setCell ⟨w8.heap.size,0,none⟩ (.int .i64 kind)).setCell ⟨w8.heap.size,1,none⟩ (.int .i64 nk)).setCell ⟨w8.heap.size,2,none⟩ (.int .u64 nn)).setCell ⟨w8.heap.size,3,none⟩ (.int .i64 ak)).setCell ⟨w8.heap.size,4,none⟩ (.int .u64 an)).setCell ⟨w8.heap.size,5,none⟩ (.bool (s3==tt))).setCell ⟨w8.heap.size,6,none⟩ (.int .u64 at_)).setCell ⟨w8.heap.size,7,none⟩ (.int .i64 tr)).setCell ⟨w8.heap.size,8,none⟩ (.int .u64 last)).setCell ⟨w8.heap.size,9,none⟩ (.string ⟨s7.toArray⟩)) (w8.heap.size) 135 #[.int .i64 kind,.int .i64 nk,.int .u64 nn,.int .i64 ak,.int .u64 an,.bool (s3==tt),.int .u64 at_,.int .i64 tr,.int .u64 last,.string ⟨s7.toArray⟩]:=bZ.sets10 (.int .i64 kind) (.int .i64 nk) (.int .u64 nn) (.int .i64 ak) (.int .u64 an) (.bool (s3==tt)) (.int .u64 at_) (.int .i64 tr) (.int .u64 last) (.string ⟨s7.toArray⟩);have hzl:=hzb;clear bZ hzn hzb z0 y0 z1 y1 z2 y2 z3 y3 z4 y4 z5 y5 z6 y6 z7 y7 z8 y8 z9 y9
  have hPl:=(show PoP w w.heap.size (w.heap.size+1) s0 s1 s2 s3 s4 s5 s6 s7 (((((((((((w9.setCell ⟨w8.heap.size,0,none⟩ (.int .i64 kind)).setCell ⟨w8.heap.size,1,none⟩ (.int .i64 nk)).setCell ⟨w8.heap.size,2,none⟩ (.int .u64 nn)).setCell ⟨w8.heap.size,3,none⟩ (.int .i64 ak)).setCell ⟨w8.heap.size,4,none⟩ (.int .u64 an)).setCell ⟨w8.heap.size,5,none⟩ (.bool (s3==tt))).setCell ⟨w8.heap.size,6,none⟩ (.int .u64 at_)).setCell ⟨w8.heap.size,7,none⟩ (.int .i64 tr)).setCell ⟨w8.heap.size,8,none⟩ (.int .u64 last)).setCell ⟨w8.heap.size,9,none⟩ (.string ⟨s7.toArray⟩))) from by assumption)
  have hBl:=hPl.2.2.1.2;have bOl:=hPl.2.2.2;clear hPl
  obtain⟨Wl,hWl⟩:∃ W,((((((((((w9.setCell ⟨w8.heap.size,0,none⟩ (.int .i64 kind)).setCell ⟨w8.heap.size,1,none⟩ (.int .i64 nk)).setCell ⟨w8.heap.size,2,none⟩ (.int .u64 nn)).setCell ⟨w8.heap.size,3,none⟩ (.int .i64 ak)).setCell ⟨w8.heap.size,4,none⟩ (.int .u64 an)).setCell ⟨w8.heap.size,5,none⟩ (.bool (s3==tt))).setCell ⟨w8.heap.size,6,none⟩ (.int .u64 at_)).setCell ⟨w8.heap.size,7,none⟩ (.int .i64 tr)).setCell ⟨w8.heap.size,8,none⟩ (.int .u64 last)).setCell ⟨w8.heap.size,9,none⟩ (.string ⟨s7.toArray⟩))=W:=⟨_,rfl⟩
  obtain⟨rb,hrb⟩:∃ b,w8.heap.size=b:=⟨_,rfl⟩
 rotate_left
 focus
  have bR:BoxN ((((((((((w9.setCell ⟨w7.heap.size,0,none⟩ (.int .i64 kind)).setCell ⟨w7.heap.size,1,none⟩ (.int .i64 nk)).setCell ⟨w7.heap.size,2,none⟩ (.int .u64 nn)).setCell ⟨w7.heap.size,3,none⟩ (.int .i64 ak)).setCell ⟨w7.heap.size,4,none⟩ (.int .u64 an)).setCell ⟨w7.heap.size,5,none⟩ (.bool (s3==tt))).setCell ⟨w7.heap.size,6,none⟩ (.int .u64 at_)).setCell ⟨w7.heap.size,7,none⟩ (.int .i64 tr)).setCell ⟨w7.heap.size,8,none⟩ (.int .u64 last)).setCell ⟨w7.heap.size,9,none⟩ (.string ⟨s7.toArray⟩)) (w7.heap.size) 135 #[.int .i64 kind,.int .i64 nk,.int .u64 nn,.int .i64 ak,.int .u64 an,.bool (s3==tt),.int .u64 at_,.int .i64 tr,.int .u64 last,.string ⟨s7.toArray⟩]:=bZ.sets10 (.int .i64 kind) (.int .i64 nk) (.int .u64 nn) (.int .i64 ak) (.int .u64 an) (.bool (s3==tt)) (.int .u64 at_) (.int .i64 tr) (.int .u64 last) (.string ⟨s7.toArray⟩);have hzl:=hzb;clear bZ hzn hzb z0 y0 z1 y1 z2 y2 z3 y3 z4 y4 z5 y5 z6 y6 z7 y7 z8 y8 z9 y9
  have hPl:=(show PoP w w.heap.size (w.heap.size+1) s0 s1 s2 s3 s4 s5 s6 s7 (((((((((((w9.setCell ⟨w7.heap.size,0,none⟩ (.int .i64 kind)).setCell ⟨w7.heap.size,1,none⟩ (.int .i64 nk)).setCell ⟨w7.heap.size,2,none⟩ (.int .u64 nn)).setCell ⟨w7.heap.size,3,none⟩ (.int .i64 ak)).setCell ⟨w7.heap.size,4,none⟩ (.int .u64 an)).setCell ⟨w7.heap.size,5,none⟩ (.bool (s3==tt))).setCell ⟨w7.heap.size,6,none⟩ (.int .u64 at_)).setCell ⟨w7.heap.size,7,none⟩ (.int .i64 tr)).setCell ⟨w7.heap.size,8,none⟩ (.int .u64 last)).setCell ⟨w7.heap.size,9,none⟩ (.string ⟨s7.toArray⟩))) from by assumption)
  have hBl:=hPl.2.2.1.2;have bOl:=hPl.2.2.2;clear hPl
  obtain⟨Wl,hWl⟩:∃ W,((((((((((w9.setCell ⟨w7.heap.size,0,none⟩ (.int .i64 kind)).setCell ⟨w7.heap.size,1,none⟩ (.int .i64 nk)).setCell ⟨w7.heap.size,2,none⟩ (.int .u64 nn)).setCell ⟨w7.heap.size,3,none⟩ (.int .i64 ak)).setCell ⟨w7.heap.size,4,none⟩ (.int .u64 an)).setCell ⟨w7.heap.size,5,none⟩ (.bool (s3==tt))).setCell ⟨w7.heap.size,6,none⟩ (.int .u64 at_)).setCell ⟨w7.heap.size,7,none⟩ (.int .i64 tr)).setCell ⟨w7.heap.size,8,none⟩ (.int .u64 last)).setCell ⟨w7.heap.size,9,none⟩ (.string ⟨s7.toArray⟩))=W:=⟨_,rfl⟩
  obtain⟨rb,hrb⟩:∃ b,w7.heap.size=b:=⟨_,rfl⟩
 rotate_left
 focus
  have bR:BoxN ((((((((((w9.setCell ⟨w6.heap.size,0,none⟩ (.int .i64 kind)).setCell ⟨w6.heap.size,1,none⟩ (.int .i64 nk)).setCell ⟨w6.heap.size,2,none⟩ (.int .u64 nn)).setCell ⟨w6.heap.size,3,none⟩ (.int .i64 ak)).setCell ⟨w6.heap.size,4,none⟩ (.int .u64 an)).setCell ⟨w6.heap.size,5,none⟩ (.bool (s3==tt))).setCell ⟨w6.heap.size,6,none⟩ (.int .u64 at_)).setCell ⟨w6.heap.size,7,none⟩ (.int .i64 tr)).setCell ⟨w6.heap.size,8,none⟩ (.int .u64 last)).setCell ⟨w6.heap.size,9,none⟩ (.string ⟨s7.toArray⟩)) (w6.heap.size) 135 #[.int .i64 kind,.int .i64 nk,.int .u64 nn,.int .i64 ak,.int .u64 an,.bool (s3==tt),.int .u64 at_,.int .i64 tr,.int .u64 last,.string ⟨s7.toArray⟩]:=bZ.sets10 (.int .i64 kind) (.int .i64 nk) (.int .u64 nn) (.int .i64 ak) (.int .u64 an) (.bool (s3==tt)) (.int .u64 at_) (.int .i64 tr) (.int .u64 last) (.string ⟨s7.toArray⟩);have hzl:=hzb;clear bZ hzn hzb z0 y0 z1 y1 z2 y2 z3 y3 z4 y4 z5 y5 z6 y6 z7 y7 z8 y8 z9 y9
  have hPl:=(show PoP w w.heap.size (w.heap.size+1) s0 s1 s2 s3 s4 s5 s6 s7 (((((((((((w9.setCell ⟨w6.heap.size,0,none⟩ (.int .i64 kind)).setCell ⟨w6.heap.size,1,none⟩ (.int .i64 nk)).setCell ⟨w6.heap.size,2,none⟩ (.int .u64 nn)).setCell ⟨w6.heap.size,3,none⟩ (.int .i64 ak)).setCell ⟨w6.heap.size,4,none⟩ (.int .u64 an)).setCell ⟨w6.heap.size,5,none⟩ (.bool (s3==tt))).setCell ⟨w6.heap.size,6,none⟩ (.int .u64 at_)).setCell ⟨w6.heap.size,7,none⟩ (.int .i64 tr)).setCell ⟨w6.heap.size,8,none⟩ (.int .u64 last)).setCell ⟨w6.heap.size,9,none⟩ (.string ⟨s7.toArray⟩))) from by assumption)
  have hBl:=hPl.2.2.1.2;have bOl:=hPl.2.2.2;clear hPl
  obtain⟨Wl,hWl⟩:∃ W,((((((((((w9.setCell ⟨w6.heap.size,0,none⟩ (.int .i64 kind)).setCell ⟨w6.heap.size,1,none⟩ (.int .i64 nk)).setCell ⟨w6.heap.size,2,none⟩ (.int .u64 nn)).setCell ⟨w6.heap.size,3,none⟩ (.int .i64 ak)).setCell ⟨w6.heap.size,4,none⟩ (.int .u64 an)).setCell ⟨w6.heap.size,5,none⟩ (.bool (s3==tt))).setCell ⟨w6.heap.size,6,none⟩ (.int .u64 at_)).setCell ⟨w6.heap.size,7,none⟩ (.int .i64 tr)).setCell ⟨w6.heap.size,8,none⟩ (.int .u64 last)).setCell ⟨w6.heap.size,9,none⟩ (.string ⟨s7.toArray⟩))=W:=⟨_,rfl⟩
  obtain⟨rb,hrb⟩:∃ b,w6.heap.size=b:=⟨_,rfl⟩
 rotate_left
 focus
  have bR:BoxN ((((((((((w9.setCell ⟨w5.heap.size,0,none⟩ (.int .i64 kind)).setCell ⟨w5.heap.size,1,none⟩ (.int .i64 nk)).setCell ⟨w5.heap.size,2,none⟩ (.int .u64 nn)).setCell ⟨w5.heap.size,3,none⟩ (.int .i64 ak)).setCell ⟨w5.heap.size,4,none⟩ (.int .u64 an)).setCell ⟨w5.heap.size,5,none⟩ (.bool (s3==tt))).setCell ⟨w5.heap.size,6,none⟩ (.int .u64 at_)).setCell ⟨w5.heap.size,7,none⟩ (.int .i64 tr)).setCell ⟨w5.heap.size,8,none⟩ (.int .u64 last)).setCell ⟨w5.heap.size,9,none⟩ (.string ⟨s7.toArray⟩)) (w5.heap.size) 135 #[.int .i64 kind,.int .i64 nk,.int .u64 nn,.int .i64 ak,.int .u64 an,.bool (s3==tt),.int .u64 at_,.int .i64 tr,.int .u64 last,.string ⟨s7.toArray⟩]:=bZ.sets10 (.int .i64 kind) (.int .i64 nk) (.int .u64 nn) (.int .i64 ak) (.int .u64 an) (.bool (s3==tt)) (.int .u64 at_) (.int .i64 tr) (.int .u64 last) (.string ⟨s7.toArray⟩);have hzl:=hzb;clear bZ hzn hzb z0 y0 z1 y1 z2 y2 z3 y3 z4 y4 z5 y5 z6 y6 z7 y7 z8 y8 z9 y9
  have hPl:=(show PoP w w.heap.size (w.heap.size+1) s0 s1 s2 s3 s4 s5 s6 s7 (((((((((((w9.setCell ⟨w5.heap.size,0,none⟩ (.int .i64 kind)).setCell ⟨w5.heap.size,1,none⟩ (.int .i64 nk)).setCell ⟨w5.heap.size,2,none⟩ (.int .u64 nn)).setCell ⟨w5.heap.size,3,none⟩ (.int .i64 ak)).setCell ⟨w5.heap.size,4,none⟩ (.int .u64 an)).setCell ⟨w5.heap.size,5,none⟩ (.bool (s3==tt))).setCell ⟨w5.heap.size,6,none⟩ (.int .u64 at_)).setCell ⟨w5.heap.size,7,none⟩ (.int .i64 tr)).setCell ⟨w5.heap.size,8,none⟩ (.int .u64 last)).setCell ⟨w5.heap.size,9,none⟩ (.string ⟨s7.toArray⟩))) from by assumption)
  have hBl:=hPl.2.2.1.2;have bOl:=hPl.2.2.2;clear hPl
  obtain⟨Wl,hWl⟩:∃ W,((((((((((w9.setCell ⟨w5.heap.size,0,none⟩ (.int .i64 kind)).setCell ⟨w5.heap.size,1,none⟩ (.int .i64 nk)).setCell ⟨w5.heap.size,2,none⟩ (.int .u64 nn)).setCell ⟨w5.heap.size,3,none⟩ (.int .i64 ak)).setCell ⟨w5.heap.size,4,none⟩ (.int .u64 an)).setCell ⟨w5.heap.size,5,none⟩ (.bool (s3==tt))).setCell ⟨w5.heap.size,6,none⟩ (.int .u64 at_)).setCell ⟨w5.heap.size,7,none⟩ (.int .i64 tr)).setCell ⟨w5.heap.size,8,none⟩ (.int .u64 last)).setCell ⟨w5.heap.size,9,none⟩ (.string ⟨s7.toArray⟩))=W:=⟨_,rfl⟩
  obtain⟨rb,hrb⟩:∃ b,w5.heap.size=b:=⟨_,rfl⟩
 rotate_left
 all_goals
  rw [hWl] at bR hBl bOl ⊢;rw [hrb] at bR hzl ⊢;clear hWl hrb;have q0:=bR.cell 0 (v:=.int .i64 kind) rfl;have q1:=bR.cell 1 (v:=.int .i64 nk) rfl;have q2:=bR.cell 2 (v:=.int .u64 nn) rfl;have q3:=bR.cell 3 (v:=.int .i64 ak) rfl;have q4:=bR.cell 4 (v:=.int .u64 an) rfl;have q5:=bR.cell 5 (v:=.bool (s3==tt)) rfl;have q6:=bR.cell 6 (v:=.int .u64 at_) rfl;have q7:=bR.cell 7 (v:=.int .i64 tr) rfl;have q8:=bR.cell 8 (v:=.int .u64 last) rfl;have q9:=bR.cell 9 (v:=.string ⟨s7.toArray⟩) rfl
  go_wp2_with (go_at_call 178;refine(hSt _ hBl).mono ?_;rintro e w10 ⟨rfl,hb10⟩;have bR10:=bR.below hb10 bR.lt;have bO10:=bOl.below hb10 bOl.lt;clear q0 q1 q2 q3 q4 q5 q6 q7 q8 q9;have q0:=bR10.cell 0 (v:=.int .i64 kind) rfl;have q1:=bR10.cell 1 (v:=.int .i64 nk) rfl;have q2:=bR10.cell 2 (v:=.int .u64 nn) rfl;have q3:=bR10.cell 3 (v:=.int .i64 ak) rfl;have q4:=bR10.cell 4 (v:=.int .u64 an) rfl;have q5:=bR10.cell 5 (v:=.bool (s3==tt)) rfl;have q6:=bR10.cell 6 (v:=.int .u64 at_) rfl;have q7:=bR10.cell 7 (v:=.int .i64 tr) rfl;have q8:=bR10.cell 8 (v:=.int .u64 last) rfl;have q9:=bR10.cell 9 (v:=.string ⟨s7.toArray⟩) rfl;have o0:=bO10.cell 0 (v:=.int .i64 0) rfl;have u0:=bO10.frozen 0;have o1:=bO10.cell 1 (v:=.int .i64 0) rfl;have u1:=bO10.frozen 1;have o2:=bO10.cell 2 (v:=.int .u64 0) rfl;have u2:=bO10.frozen 2;have o3:=bO10.cell 3 (v:=.int .i64 0) rfl;have u3:=bO10.frozen 3;have o4:=bO10.cell 4 (v:=.int .u64 0) rfl;have u4:=bO10.frozen 4;have o5:=bO10.cell 5 (v:=.bool false) rfl;have u5:=bO10.frozen 5;have o6:=bO10.cell 6 (v:=.int .u64 0) rfl;have u6:=bO10.frozen 6;have o7:=bO10.cell 7 (v:=.int .i64 0) rfl;have u7:=bO10.frozen 7;have o8:=bO10.cell 8 (v:=.int .u64 0) rfl;have u8:=bO10.frozen 8;have o9:=bO10.cell 9 (v:=.string ⟨#[]⟩) rfl;have u9:=bO10.frozen 9)
  have bF:=bO10.sets10 (.int .i64 kind) (.int .i64 nk) (.int .u64 nn) (.int .i64 ak) (.int .u64 an) (.bool (s3==tt)) (.int .u64 at_) (.int .i64 tr) (.int .u64 last) (.string ⟨s7.toArray⟩)
  have hBf:=(Below.setCell (p:=⟨w.heap.size,9,none⟩) (Below.setCell (p:=⟨w.heap.size,8,none⟩) (Below.setCell (p:=⟨w.heap.size,7,none⟩) (Below.setCell (p:=⟨w.heap.size,6,none⟩) (Below.setCell (p:=⟨w.heap.size,5,none⟩) (Below.setCell (p:=⟨w.heap.size,4,none⟩) (Below.setCell (p:=⟨w.heap.size,3,none⟩) (Below.setCell (p:=⟨w.heap.size,2,none⟩) (Below.setCell (p:=⟨w.heap.size,1,none⟩) (Below.setCell (p:=⟨w.heap.size,0,none⟩) (hBl.trans (hb10.mono hBl.size)) (Nat.le_refl _) (.int .i64 kind)) (Nat.le_refl _) (.int .i64 nk)) (Nat.le_refl _) (.int .u64 nn)) (Nat.le_refl _) (.int .i64 ak)) (Nat.le_refl _) (.int .u64 an)) (Nat.le_refl _) (.bool (s3==tt))) (Nat.le_refl _) (.int .u64 at_)) (Nat.le_refl _) (.int .i64 tr)) (Nat.le_refl _) (.int .u64 last)) (Nat.le_refl _) (.string ⟨s7.toArray⟩))
  generalize ((((((((((w10.setCell ⟨w.heap.size,0,none⟩ (.int .i64 kind)).setCell ⟨w.heap.size,1,none⟩ (.int .i64 nk)).setCell ⟨w.heap.size,2,none⟩ (.int .u64 nn)).setCell ⟨w.heap.size,3,none⟩ (.int .i64 ak)).setCell ⟨w.heap.size,4,none⟩ (.int .u64 an)).setCell ⟨w.heap.size,5,none⟩ (.bool (s3==tt))).setCell ⟨w.heap.size,6,none⟩ (.int .u64 at_)).setCell ⟨w.heap.size,7,none⟩ (.int .i64 tr)).setCell ⟨w.heap.size,8,none⟩ (.int .u64 last)).setCell ⟨w.heap.size,9,none⟩ (.string ⟨s7.toArray⟩))=Wf at *;have p0:=bF.cell 0 (v:=.int .i64 kind) rfl;have p1:=bF.cell 1 (v:=.int .i64 nk) rfl;have p2:=bF.cell 2 (v:=.int .u64 nn) rfl;have p3:=bF.cell 3 (v:=.int .i64 ak) rfl;have p4:=bF.cell 4 (v:=.int .u64 an) rfl;have p5:=bF.cell 5 (v:=.bool (s3==tt)) rfl;have p6:=bF.cell 6 (v:=.int .u64 at_) rfl;have p7:=bF.cell 7 (v:=.int .i64 tr) rfl;have p8:=bF.cell 8 (v:=.int .u64 last) rfl;have p9:=bF.cell 9 (v:=.string ⟨s7.toArray⟩) rfl;exact bodyPost_ret (v:=.tuple #[.agg #[.int .i64 kind,.int .i64 nk,.int .u64 nn,.int .i64 ak,.int .u64 an,.bool (s3==tt),.int .u64 at_,.int .i64 tr,.int .u64 last,.string ⟨s7.toArray⟩],.bool true]) (by simp [results,results215,go_sem,p0,p1,p2,p3,p4,p5,p6,p7,p8,p9]) rfl ⟨rfl,hBf⟩
end Go.Proofs
namespace Go.Proofs
open Go.RowKit Go.Sort Go.Lib Go.Shelf Go.Maps
theorem Xje {u:Nat} (h:u<=1000000000):Lib.nDigits u<=10:=by
 rcases Nat.lt_or_ge u 1000000000 with h1 | h1
 ·have key:∀(k u:Nat),u<10 ^ (k+1)->Lib.nDigits u<=k+1:=fun k=>by
   induction k with
   | zero=>intro u hu;rw [Lib.nDigits_small (by simpa using hu)];exact Nat.le_refl _
   | succ k ih =>
    intro u hu
    by_cases hs:u<10
    ·rw [Lib.nDigits_small hs];omega
    rw [Lib.nDigits_big hs];have:=ih (u / 10) (by rw [Nat.pow_succ] at hu;omega);omega
  have:=key 8 u (by simpa using h1);omega
 exact Nat.le_of_eq (Lib.nDigits_unique 9 u (by simpa using h1) (by omega))
theorem Xm5 (u:Nat) (h:u<18446744073709551616):(Lib.decDigits u).length<=20:=by rw [Lib.decDigits_length];exact Lib.nDigits_le20 u h
theorem Xee {n:Int} (h0:0<=n) (h1:n<=1000000000):(Lib.itoa n).length<=18:=by
 obtain⟨u,rfl⟩:∃ u:Nat,n=u:=⟨n.toNat,by omega⟩
 unfold Lib.itoa;rw [if_neg (by omega)]
 have:(Lib.decDigits u).length<=10:=by
  rw [Lib.decDigits_length];exact Xje (by omega)
 simpa using Nat.le_trans this (by decide)
theorem Tryz.Xq3 (r:Yf) (hr:r.Xms) (w:World) (hE:Env w) (h9:9<=w.heap.size) (hG:Ja w) :
  Calls prog 215 #[.string ⟨(recStr r).toArray⟩] w fun e w'=>e=.returned (.tuple #[.agg r.cells,.bool true])/\Below w.heap.size w w':=by
 have hok:=hr.ok;have hlen:=Xbg hok;have a0:=hok.t0;have a1:=hok.t1;have b0:=hok.l0;have b1:=hok.l1;have n1:=hok.n1;have m1:=hok.a1;have h6:6<=w.heap.size:=Nat.le_trans (by decide) h9;have d4:=Xm5 r.at_.toNat (by omega);have d6:=Xm5 r.last.toNat (by omega);have l1:=Xan r.nk r.nn n1;have l2:=Xan r.ak r.an m1;have ek:=Xee hr.k.1 (by have:=hr.k.2;omega);have et:=Xee hr.t.1 hr.t.2
 have v4:puV (Lib.decDigits r.at_.toNat)=r.at_:=by rw [Xd0 _ (by omega)];omega
 have v6:puV (Lib.decDigits r.last.toNat)=r.last:=by rw [Xd0 _ (by omega)];omega
 have hN:∀(k:Int) (u:Nat),NmA k u->u<18446744073709551616->(nmStr k u).length<=21->∀ W,Below w.heap.size w W->Calls prog 63 #[.string ⟨(nmStr k u).toArray⟩] W fun e w'=>e=.returned (.agg #[.int .i64 k,.int .u64 (u:Int)])/\Below W.heap.size W w':=fun k u hk hu hl W hb=>by
  have h:=parse ⟨(nmStr k u).toArray⟩ (by show (nmStr k u).toArray.size<=1000000;simp;omega) W (hE.below hb h6) (Nat.le_trans h6 hb.size);simp only at h;rw [Xr5 hk hu] at h;exact h
 have hP:∀(s:List UInt8) (v:Int),s.length<=20->puV s=v->∀ W,Below w.heap.size w W->Calls prog 118 #[.string ⟨s.toArray⟩,.int .i64 10,.int .i64 64] W fun e w'=>∃ er,e=.returned (.tuple #[.int .u64 v,er])/\Below W.heap.size W w':=fun s v hl hv W hb=>by
  have h:=Xhw s (by omega) W (hE.below hb h6);rw [hv] at h;exact h
 have hb:(Lib.formatBool r.pd==Lib.formatBool true)=r.pd:=Xox r.pd
 have hS:=fun W (hb:Below w.heap.size w W)=>Xma (recStr r) 32 W (by omega) (hG.below (hb.mono h9)) _ (Xod hr.p)
 have key:=Xob (recStr r) (Lib.itoa r.kind) (nmStr r.nk r.nn) (nmStr r.ak r.an) (Lib.formatBool r.pd) (Lib.decDigits r.at_.toNat) (Lib.itoa r.tr) (Lib.decDigits r.last.toNat) r.pth (Lib.formatBool true) r.kind r.at_ r.tr r.last r.nk r.nn r.ak r.an w
  hS
  (fun W=>atoi _ _ ek (Xhb hr.k.1) W)
  (hP _ _ d4 v4)
  (fun W=>atoi _ _ et (Xhb hr.t.1) W)
  (hP _ _ d6 v6)
  (hN _ _ hr.n n1 l1)
  (hN _ _ hr.a m1 l2)
  (fun W=>Xnl true W)
  (fun W=>clone r.pth (by have:=hok.p1;omega) W)
  (fun W hb'=>by
   rw [hb]
   exact Xgx r hok W (hE.below hb' h6) (Nat.le_trans h6 hb'.size))
 rw [hb] at key;exact key
theorem Xmm (rs:List Yf) (r:Yf):Yi (rs ++ [r])=Yi rs++r.cells.toList:=by simp [Yi]
theorem Xgu {α:Type} {l:List α} {k:Nat} {x:α} (h:l[k]? = some x):l.take (k+1)=l.take k ++ [x]:=by rw [List.take_add_one,h];rfl
theorem Tryz.Xrn (rs:List Yf) (hne:rs ≠ []) (hr:∀ r∈rs,r.Xms) (hn:rs.length<=1000) (w:World) (hE:Env w) (h9:9<=w.heap.size) (hG:Ja w) :
  Calls prog 186 #[.string ⟨(recTxt rs).toArray⟩] w fun e w'=>∃ v,e=.returned (.tuple #[v,.bool true])/\w'.ownsRow w.heap.size 135 10 v rs.length (Yi rs)/\Below w.heap.size w w':=by
 have hlen:=Zx rs (fun r h=>(hr r h).ok);have hSp:=Xma (recTxt rs) 59 w (by omega) hG _ (Xn0 hne (fun r h=>(hr r h).p));rw [List.length_map] at hSp;obtain⟨i0,hi,hz0,hz1,hz2⟩:=info_parts Xbr;have bS:=BoxN.new w 9 ((rs.map recStr).map (fun x=>Value.string ⟨x.toArray⟩)).toArray;have hB0:Below w.heap.size w (w.alloc (.cells ((rs.map recStr).map (fun x=>Value.string ⟨x.toArray⟩)).toArray 9)):=(Below.refl _ w).alloc (Nat.le_refl _) _
 have hz:(w.alloc (.cells ((rs.map recStr).map (fun x=>Value.string ⟨x.toArray⟩)).toArray 9)).heap.size=w.heap.size+1:=by simp
 have hPO:=fun(r:Yf) (h:r∈rs) W (hb:Below w.heap.size w W)=>Xq3 r (hr r h) W (hE.below hb (by omega)) (Nat.le_trans h9 hb.size) (hG.below (hb.mono h9))
 have hcell:∀(i:Nat) (r:Yf),rs[i]? = some r->((rs.map recStr).map (fun x=>Value.string ⟨x.toArray⟩)).toArray[i]? = some (.string ⟨(recStr r).toArray⟩):=fun i r h=>by simp [h]
 generalize ((rs.map recStr).map (fun x=>Value.string ⟨x.toArray⟩)).toArray=strs at *;generalize recTxt rs=txt at *
 obtain⟨n,hnn⟩:∃ n,rs.length=n:=⟨_,rfl⟩
 rw [hnn] at hn hlen hSp ⊢;have Hn:=Xb hnn;clear hnn hlen hne
 obtain⟨w0,hw0⟩:∃ w0,w.alloc (.cells strs 9)=w0:=⟨_,rfl⟩
 rw [hw0] at hSp bS hB0 hz;have Hz:=Xb hz;clear hw0 hz;go_enter func186,ntmps186
 go_wp2_with (go_at_call 184;refine hSp.mono ?_;rintro e w1 ⟨rfl,hw1⟩;subst w1)
 go_loopw [4,12] (fun v j wq=>∃ i:Nat,i<=n/\j=.int .i64 i/\wq.ownsRow w0.heap.size 135 10 v i (Yi (rs.take i))/\Below w0.heap.size w0 wq) (fun _ j _=>n-(intOf j).toNat)
 case atStart=>exact⟨0,Nat.zero_le _,rfl,World.ownsRow_nil _ _ _ _,Below.refl _ _⟩
 case round =>
  obtain⟨i,hil,rfl,hrow,hB⟩:=hrel;have hzq:=hB.size
  by_cases hin:i<n
  ·obtain⟨r,hri⟩:∃ r,rs[i]? = some r:=⟨rs[i]'(by have:=Xa Hn;omega),by simp [Xa Hn,hin]⟩
   have hsn:=Xb (show Yi (rs.take (i+1))=Yi (rs.take i)++r.cells.toList by rw [Xgu hri,Xmm]);have c0:=(bS.below hB bS.lt).cell i (hcell i r hri);have hP:=hPO r (List.mem_of_getElem? hri) wr (hB0.trans (hB.mono hB0.size))
   obtain⟨fl1,hfl1⟩:∃ f,Yi (rs.take (i+1))=f:=⟨_,rfl⟩
   obtain⟨fl0,hfl0⟩:∃ f,Yi (rs.take i)=f:=⟨_,rfl⟩
   rw [hfl1,hfl0] at hsn;rw [hfl0] at hrow;have Hfl1:=Xb hfl1;clear hfl1 hfl0;generalize recStr r=txr at *;obtain⟨kind,nk,nn,ak,an,pd,at_,tr,last,pth⟩:=r;unfold Yf.cells Xi at hP hsn;simp only at hP hsn;clear hPO hcell hr
   go_wp2_with (first
    | (go_at_call 215;refine hP.mono ?_;rintro e w1 ⟨rfl,hb1⟩;have hrow1:=ownsRow_below hrow hb1;have hwl1:=hb1.size)
    | (at_builtin;refine wpList_append_own _ rfl _ _ 162 rfl w0.heap.size 135 i0 _ 10 88 underlying162 hi hz0 hz1 hz2 rfl (by decide) _ _ _ rfl ((hrow1.alloc _).alloc _) ⟨w1.heap.size+1,0,none⟩ 1 1 [.int .i64 kind,.int .i64 nk,.int .u64 (nn:Int),.int .i64 ak,.int .u64 (an:Int),.bool pd,.int .u64 at_,.int .i64 tr,.int .u64 last,.string ⟨pth.toArray⟩] rfl rfl (fun j u hu=>by rw [Mo];have:=(BoxN.new (w1.alloc (.cells #[.int .i64 kind,.int .i64 nk,.int .u64 (nn:Int),.int .i64 ak,.int .u64 (an:Int),.bool pd,.int .u64 at_,.int .i64 tr,.int .u64 last,.string ⟨pth.toArray⟩] 135)) 135 #[.int .i64 kind,.int .i64 nk,.int .u64 (nn:Int),.int .i64 ak,.int .u64 (an:Int),.bool pd,.int .u64 at_,.int .i64 tr,.int .u64 last,.string ⟨pth.toArray⟩]).cell j (v:=u) (by simpa using hu);rwa [World.size_alloc] at this) (by simp [Value.oneCell']) (by unfold maxLen;omega) (by omega) (by simp;omega) ?_))
   intro v' w2 hown' hgrow hn';clear hn'
   have hbk:∀ q,u4.ownBlock=some q->w0.heap.size<=q:=fun q hq=>(hrow.lt q hq).1
   have hB2:Below w0.heap.size w0 w2:=(((hB.trans (hb1.mono hzq)).alloc (by omega) _).alloc (by simp;omega) _).grown hgrow (by simp;omega) hbk;clear hgrow hrow1 hrow hB hb1 hP c0;go_wp2
   go_roundw
   case rel=>exact⟨i+1,by omega,rfl,by rw [Xa Hfl1,Xa hsn];exact hown',hB2⟩
   case measure=>simp [intOf];omega
  obtain rfl:i=n:=by omega
  rw [List.take_of_length_le (Nat.le_of_eq (Xa Hn))] at hrow;go_wp2
  go_ret2
  exact⟨_,rfl,Vi hrow hB0.size,hB0.trans (hB.mono hB0.size)⟩
end Go.Proofs
namespace Go.Proofs
open Go.RowKit Go.Sort Go.Lib Go.Shelf Go.Maps Go.WideMaps
theorem Tryz.Xom (vb mt ml:Nat) (vx:VX) (tm:Int) (tn ln:Nat) (tks:List Xd) (lks:List Xc) (w:World) (hV:Yn w vb mt ml vx tm tn ln tks lks) (at_:Int) (a0:0<=at_) (a1:at_<=18446744073709551615) :
  Calls prog 100 #[.pointer (some ⟨vb,0,none⟩),.agg (nowR at_).cells] w fun e w'=>e=.returned (.tuple #[])/\Yn w' vb mt ml vx (max tm at_) tn ln tks lks/\Spares [vb] w w':=by
 have hB0:Below w.heap.size w (w.alloc (.cells (Xi 0 0 0 0 0 false at_ 0 0 []) 135)):=(Below.refl _ w).alloc (Nat.le_refl _) _;have bR0:=BoxN.new w 135 (Xi 0 0 0 0 0 false at_ 0 0 []);have hV0:=hV.below hB0;have lV:=hV.va.v.lt;have m2:=hV0.va.v.cell 2 (v:=.int .u64 tm) rfl;have f2:=hV0.va.v.frozen 2;have t0:=hV.t0;have t1:=hV.t1;have bV3:BoxN ((w.setCell ⟨vb,2,none⟩ (.int .u64 (max tm at_))).alloc (.cells (Xi 0 0 0 0 0 false at_ 0 0 []) 135)).drew vb 126 (Y7 vx (max tm at_) mt ml tn ln):=(hV.va.v.set 2 (.int .u64 (max tm at_))).alloc _;have hS:Spares [vb] w ((w.setCell ⟨vb,2,none⟩ (.int .u64 (max tm at_))).alloc (.cells (Xi 0 0 0 0 0 false at_ 0 0 []) 135)).drew:=(((Spares.of_below (Below.refl _ w)).set (by simp) _ _).alloc _).drew
 have hF:Yn ((w.setCell ⟨vb,2,none⟩ (.int .u64 (max tm at_))).alloc (.cells (Xi 0 0 0 0 0 false at_ 0 0 []) 135)).drew vb mt ml vx (max tm at_) tn ln tks lks:=by
  obtain⟨n1,k1,m1⟩:=hV.va.held.mapT;obtain⟨n2,k2,m2⟩:=hV.va.held.mapL;have hb6:=hS.below (B:=6) hV.va.six (fun b hb=>by rw [List.mem_singleton.1 hb];have:=hV.v9;omega);exact⟨⟨bV3,⟨⟨n1,k1,hS.map m1 (by simpa using hV.nes.1)⟩,⟨n2,k2,hS.map m2 (by simpa using hV.nes.2)⟩⟩,hV.va.ok,hV.va.env.below hb6 (Nat.le_refl _),Nat.le_trans hV.va.six hS.size⟩,hV.nt,hV.nl,by omega,by omega,hV.okT,hV.okL,hV.mne,hV.v9,hV.m9,hV.l9⟩
 have HF:=Xb (And.intro hF hS);clear hF hS bV3;unfold nowR Yf.cells;unfold Xi at *;have r6:=bR0.cell 6 (v:=.int .u64 at_) rfl;go_enter func100,ntmps100;go_wp2
 go_region
 go_wp2
 go_end0
 exact⟨rfl,(Xa HF).1,(Xa HF).2⟩
theorem Tryz.Xu2 (vb mt ml:Nat) (vx:VX) (tm:Int) (s:VSt) (w:World) (hV:Yn w vb mt ml vx tm s.tn s.ln s.tks s.lks) (i:Item) (hF:i.Fits s) :
  Calls prog 100 #[.pointer (some ⟨vb,0,none⟩),.agg i.rec_.cells] w fun e w'=>e=.returned (.tuple #[])/\Yn w' vb mt ml vx tm (i.app s).tn (i.app s).ln (i.app s).tks (i.app s).lks/\Spares [vb,mt,ml] w w':=by
 cases i with
 | tok t =>
  obtain⟨h1,h2,h3,h4,h5⟩:=hF;refine(Xgf vb mt ml vx tm s.tn s.ln s.tks s.lks w hV 0 [] t h1 h2 h3 h4 h5).mono ?_;rintro e w' ⟨rfl,hV,hS⟩;exact⟨rfl,hV,hS.mono (by simp)⟩
 | lea t =>
  obtain⟨h1,h2,h3,h4,h5⟩:=hF;refine(Xha vb mt ml vx tm s.tn s.ln s.tks s.lks w hV t h1 h2 h3 h4 h5).mono ?_;rintro e w' ⟨rfl,hV,hS⟩;exact⟨rfl,hV,hS.mono (by simp)⟩
 | gone tk n =>
  refine(Xfa vb mt ml vx tm s.tn s.ln s.tks s.lks w hV tk n hF).mono ?_;rintro e w' ⟨rfl,hV,hS⟩;exact⟨rfl,hV,hS.mono (by simp)⟩
def inS (tm:Int) (l:Yd) (s:VSt):Nat->Int × VSt
 | 0=>(tm,s)
 | q+1=>(max tm l.tm,Yq (l.is.take q) s)
abbrev Tryz.VF (W:World) (vb mt ml:Nat) (vx:VX) (p:Int × VSt):Prop:=Yn W vb mt ml vx p.1 p.2.tn p.2.ln p.2.tks p.2.lks
theorem Tryz.countL (vb mt ml:Nat) (vx:VX) (tm:Int) (l:Yd) (s:VSt) (q:Nat) (r:Yf) (w:World) (hok:l.Ok s) (hr:l.recs[q]? = some r) (hV:VF w vb mt ml vx (inS tm l s q)) :
  Calls prog 100 #[.pointer (some ⟨vb,0,none⟩),.agg r.cells] w fun e w'=>e=.returned (.tuple #[])/\VF w' vb mt ml vx (inS tm l s (q+1))/\Spares [vb,mt,ml] w w':=by
 obtain⟨⟨h0,h1⟩,hF,-,-⟩:=hok
 cases q with
 | zero =>
  obtain rfl:nowR l.tm=r:=by simpa [Yd.recs] using hr
  refine(Xom vb mt ml vx tm s.tn s.ln s.tks s.lks w hV l.tm h0 h1).mono ?_;rintro e w' ⟨rfl,hV,hS⟩;exact⟨rfl,hV,hS.mono (by simp)⟩
 | succ q =>
  obtain⟨i,hi,rfl⟩:∃ i,l.is[q]? = some i/\i.rec_=r:=by simpa [Yd.recs,List.getElem?_map] using hr
  have h:=Xu2 vb mt ml vx (max tm l.tm) (Yq (l.is.take q) s) w hV i (hF.get hi);rw [<- Xdn hi] at h;exact h
end Go.Proofs
