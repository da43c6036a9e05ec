import Derived.Test.YtjbekgjdempbiaaGreatDoorProg
import Derived.Shelf.Strconv.Atoi
import Derived.Shelf.Pu.Clone
import Derived.Ground.MpProg
import Derived.Ground.NamesProg
import Derived.Test.YtjbekgjdempbiaaGreatDoorJFndA
import Derived.Test.YtjbekgjdempbiaaGreatDoorJFndC
import Derived.Test.YtjbekgjdempbiaaGreatDoorJDiskC
import Derived.Test.YtjbekgjdempbiaaGreatDoorJRefH
import Derived.Lib.ItoaLen
set_option maxRecDepth 100000
set_option maxHeartbeats 8000000
namespace Go.Proofs
open Go.Shelf
def Tryz.laysAtoi_ren:Go.Shelf.Ren:=⟨fun | 172=>237 | 244=>267 | 245=>162 | 247=>282 | 279=>191 | 280=>192 | 281=>193 | 282=>194 | 287=>161 | 316=>217 | 171=>205 | 205=>218 | 321=>189 | 322=>190 | 243=>227 | 246=>250 | 283=>195 | 284=>196 | 285=>197 | 286=>198 | 129=>220 | 317=>219 | 318=>221 | 319=>222 | 320=>223 | 337=>239 | 338=>240 | n=>n,fun | 9=>9 | 3=>3 | 75=>81 | 76=>94 | 4=>4 | 5=>5 | 167=>286 | 37=>267 | 0=>0 | 85=>362 | 2=>2 | 168=>288 | 53=>31 | 175=>85 | 46=>54 | 210=>316 | 127=>324 | 145=>331 | 143=>329 | 21=>21 | 171=>291 | 173=>294 | 212=>318 | 51=>319 | 20=>20 | 213=>320 | 232=>353 | 233=>354 | 80=>137 | n=>n,fun | 15=>1 | 16=>2 | 17=>3 | 18=>4 | 19=>5 | n=>n⟩
theorem Tryz.laysAtoi:Go.Proofs.Lays.n172 prog laysAtoi_ren:={
 mixed:=by kernel_rfl
 f129:=func220.trans (congrArg some (by kernel_rfl))
 f171:=func205.trans (congrArg some (by kernel_rfl))
 f172:=func237.trans (congrArg some (by kernel_rfl))
 f205:=func218.trans (congrArg some (by kernel_rfl))
 f243:=func227.trans (congrArg some (by kernel_rfl))
 f244:=func267.trans (congrArg some (by kernel_rfl))
 f245:=func162.trans (congrArg some (by kernel_rfl))
 f246:=func250.trans (congrArg some (by kernel_rfl))
 f247:=func282.trans (congrArg some (by kernel_rfl))
 f279:=func191.trans (congrArg some (by kernel_rfl))
 f280:=func192.trans (congrArg some (by kernel_rfl))
 f281:=func193.trans (congrArg some (by kernel_rfl))
 f282:=func194.trans (congrArg some (by kernel_rfl))
 f283:=func195.trans (congrArg some (by kernel_rfl))
 f284:=func196.trans (congrArg some (by kernel_rfl))
 f285:=func197.trans (congrArg some (by kernel_rfl))
 f286:=func198.trans (congrArg some (by kernel_rfl))
 f287:=func161.trans (congrArg some (by kernel_rfl))
 f316:=func217.trans (congrArg some (by kernel_rfl))
 f317:=func219.trans (congrArg some (by kernel_rfl))
 f318:=func221.trans (congrArg some (by kernel_rfl))
 f319:=func222.trans (congrArg some (by kernel_rfl))
 f320:=func223.trans (congrArg some (by kernel_rfl))
 f321:=func189.trans (congrArg some (by kernel_rfl))
 f322:=func190.trans (congrArg some (by kernel_rfl))
 f337:=func239.trans (congrArg some (by kernel_rfl))
 f338:=func240.trans (congrArg some (by kernel_rfl))
 t0:=underlying0
 a0:=isAgg0
 z0:=sizeOf0
 v0:=zeroValue0
 t2:=underlying2
 a2:=isAgg2
 z2:=sizeOf2
 v2:=zeroValue2
 t3:=underlying3
 a3:=isAgg3
 z3:=sizeOf3
 v3:=zeroValue3
 t4:=underlying4
 a4:=isAgg4
 z4:=sizeOf4
 v4:=zeroValue4
 t5:=underlying5
 a5:=isAgg5
 z5:=sizeOf5
 v5:=zeroValue5
 t9:=underlying9
 a9:=isAgg9
 z9:=sizeOf9
 v9:=zeroValue9
 t20:=underlying20
 a20:=isAgg20
 z20:=sizeOf20
 v20:=zeroValue20
 t21:=underlying21
 a21:=isAgg21
 z21:=sizeOf21
 v21:=zeroValue21
 t37:=underlying267
 a37:=isAgg267
 z37:=sizeOf267
 v37:=zeroValue267
 t46:=underlying54
 a46:=isAgg54
 z46:=sizeOf54
 v46:=zeroValue54
 t51:=underlying319
 a51:=isAgg319
 z51:=sizeOf319
 v51:=zeroValue319
 t53:=underlying31
 a53:=isAgg31
 z53:=sizeOf31
 v53:=zeroValue31
 t75:=underlying81
 a75:=isAgg81
 z75:=sizeOf81
 v75:=zeroValue81
 t76:=underlying94
 a76:=isAgg94
 z76:=sizeOf94
 v76:=zeroValue94
 t85:=underlying362
 a85:=isAgg362
 z85:=sizeOf362
 v85:=zeroValue362
 t127:=underlying324
 a127:=isAgg324
 z127:=sizeOf324
 v127:=zeroValue324
 t143:=underlying329
 a143:=isAgg329
 z143:=sizeOf329
 v143:=zeroValue329
 t145:=underlying331
 a145:=isAgg331
 z145:=sizeOf331
 v145:=zeroValue331
 t167:=underlying286
 a167:=isAgg286
 z167:=sizeOf286
 v167:=zeroValue286
 t168:=underlying288
 a168:=isAgg288
 z168:=sizeOf288
 v168:=zeroValue288
 t171:=underlying291
 a171:=isAgg291
 z171:=sizeOf291
 v171:=zeroValue291
 t173:=underlying294
 a173:=isAgg294
 z173:=sizeOf294
 v173:=zeroValue294
 t175:=underlying85
 a175:=isAgg85
 z175:=sizeOf85
 v175:=zeroValue85
 t210:=underlying316
 a210:=isAgg316
 z210:=sizeOf316
 v210:=zeroValue316
 t212:=underlying318
 a212:=isAgg318
 z212:=sizeOf318
 v212:=zeroValue318
 t213:=underlying320
 a213:=isAgg320
 z213:=sizeOf320
 t232:=underlying353
 a232:=isAgg353
 z232:=sizeOf353
 v232:=zeroValue353
 t233:=underlying354
 a233:=isAgg354
 z233:=sizeOf354
 v233:=zeroValue354
 g15:=by kernel_rfl
 g16:=by kernel_rfl
 g17:=by kernel_rfl
 g18:=by kernel_rfl
 g19:=by kernel_rfl }
def Tryz.laysClone_ren:Go.Shelf.Ren:=⟨fun | 25=>217 | n=>n,fun | 9=>9 | 3=>3 | 4=>4 | 37=>267 | 0=>0 | 47=>324 | 5=>5 | n=>n,fun | n=>n⟩
theorem Tryz.laysClone:Go.Proofs.LaysPu.n25 prog laysClone_ren:={
 mixed:=by kernel_rfl
 f25:=func217.trans (congrArg some (by kernel_rfl))
 t0:=underlying0
 a0:=isAgg0
 z0:=sizeOf0
 v0:=zeroValue0
 i0:=by kernel_rfl
 t3:=underlying3
 a3:=isAgg3
 z3:=sizeOf3
 v3:=zeroValue3
 i3:=by kernel_rfl
 t4:=underlying4
 a4:=isAgg4
 z4:=sizeOf4
 v4:=zeroValue4
 i4:=by kernel_rfl
 t5:=underlying5
 a5:=isAgg5
 z5:=sizeOf5
 v5:=zeroValue5
 i5:=by kernel_rfl
 t9:=underlying9
 a9:=isAgg9
 z9:=sizeOf9
 v9:=zeroValue9
 i9:=by kernel_rfl
 t37:=underlying267
 a37:=isAgg267
 z37:=sizeOf267
 v37:=zeroValue267
 i37:=by kernel_rfl
 t47:=underlying324
 a47:=isAgg324
 z47:=sizeOf324
 v47:=zeroValue324
 i47:=by kernel_rfl }
end Go.Proofs
namespace Go.Proofs
open Go.RowKit Go.Sort Go.Lib Go.Shelf Go.Maps
theorem map_string (xs:List (List UInt8)) (bs:List ByteArray) (h:bs.map (·.data.toList)=xs):bs.map Value.string=xs.map (fun x=>.string ⟨x.toArray⟩):=by
 rw [← h,List.map_map];exact List.map_congr_left (fun b _=>rfl)
theorem Tryz.split1 (s:List UInt8) (c:UInt8) (w:World) (hs:s.length<4294967281) (hG:ErrT w) (xs:List (List UInt8)) (hx:Lib.split s [c]=xs) :
  Calls prog 184 #[.string ⟨s.toArray⟩,.string ⟨#[c]⟩] w fun e w'=>e=.returned (.slice (some ⟨w.heap.size,0,none⟩) xs.length xs.length)∧w'=w.alloc (.cells (xs.map (fun x=>.string ⟨x.toArray⟩)).toArray 9):=by
 obtain⟨-,m,hm⟩:=hG;have h:=Any.strings_Split laysSplit infoStr ⟨s.toArray⟩ ⟨#[c]⟩ m w (by simpa [ByteArray.size] using hs) hm (Nat.le_refl 1)
 have hd:(Lib.splitB ⟨#[c]⟩ 0 (Lib.countB ⟨s.toArray⟩ ⟨#[c]⟩) ⟨s.toArray⟩).map (·.data.toList)=xs:=by
  rw [Lib.splitB_data];exact hx
 have hl:=Lib.splitB_all ⟨#[c]⟩ (Nat.le_refl 1) 0 _ ⟨s.toArray⟩ rfl;rw [map_string xs _ hd,← hl,show (Lib.splitB ⟨#[c]⟩ 0 (Lib.countB ⟨s.toArray⟩ ⟨#[c]⟩) ⟨s.toArray⟩).length=xs.length by rw [← hd,List.length_map]] at h;exact h
theorem Tryz.atoi (s:List UInt8) (n:Int) (hl:s.length≤18) (h:Lib.atoi s=some n) (w:World) :
  Calls prog 237 #[.string ⟨s.toArray⟩] w fun e w'=>e=.returned (.tuple #[.int .i64 n,.nilIface])∧Below w.heap.size w w':=
 (Any.strconv_Atoi laysAtoi ⟨s.toArray⟩ n (by simpa [ByteArray.size] using hl) h w).mono fun _ _ ⟨h1,t,h2⟩=>⟨h1,by rw [h2];exact Lib.bytesWorld_below _ _ _⟩
theorem Tryz.cloneL (s:List UInt8) (hl:s.length≤281474976710656) (w:World) :
  Calls prog 217 #[.string ⟨s.toArray⟩] w fun e w'=>e=.returned (.string ⟨s.toArray⟩)∧Below w.heap.size w w':=
 AnyPu.stringslite_Clone laysClone ⟨s.toArray⟩ w (by simpa [ByteArray.size] using hl)
theorem Tryz.clone (s:List UInt8) (hl:s.length≤281474976710656) (w:World) :
  Calls prog 238 #[.string ⟨s.toArray⟩] w fun e w'=>e=.returned (.string ⟨s.toArray⟩)∧Below w.heap.size w w':=by
 have hC:=fun W=>cloneL s hl W
 go_enter func238,ntmps238
 go_wp2_with (go_at_call 217;refine(hC _).mono ?_;rintro e w1 ⟨rfl,hb1⟩)
 go_ret;exact⟨rfl,hb1⟩
end Go.Proofs
namespace Go.Proofs
open Go.RowKit Go.Sort Go.Maps
theorem below_of {n:Nat} {w W w1:World} {o:Obj} (h:w1=W.alloc o) (hb:Below n w W) (hn:n≤W.heap.size):Below n w w1:=by rw [h];exact hb.alloc hn _
theorem box_of {W w1:World} {o:Obj} {b:Nat} {t:TypeId} {cs:Array Value} (h:w1=W.alloc o) (hb:BoxN W b t cs):BoxN w1 b t cs:=by rw [h];exact hb.alloc _
theorem new_of {W w1:World} {t:TypeId} {cs:Array Value} {n:Nat} (h:w1=W.alloc (.cells cs t)) (hn:W.heap.size=n):BoxN w1 n t cs:=by rw [h,← hn];exact BoxN.new W t cs
abbrev Tryz.PoP (w0:World) (B fb:Nat) (s0 s1 s2 s3 s4 s5 s6 s7:List UInt8) (W:World):Prop:=(W.cell? ⟨fb,1,none⟩=some (.string ⟨s1.toArray⟩)∧W.cell? ⟨fb,2,none⟩=some (.string ⟨s2.toArray⟩)∧W.cell? ⟨fb,3,none⟩=some (.string ⟨s3.toArray⟩)∧W.cell? ⟨fb,7,none⟩=some (.string ⟨s7.toArray⟩))∧BoxN W fb 9 #[.string ⟨s0.toArray⟩,.string ⟨s1.toArray⟩,.string ⟨s2.toArray⟩,.string ⟨s3.toArray⟩,.string ⟨s4.toArray⟩,.string ⟨s5.toArray⟩,.string ⟨s6.toArray⟩,.string ⟨s7.toArray⟩]∧(B+1<W.heap.size∧Below B w0 W)∧BoxN W B 135 #[.int .i64 0,.int .i64 0,.int .u64 0,.int .i64 0,.int .u64 0,.bool false,.int .u64 0,.int .i64 0,.int .u64 0,.string ⟨#[]⟩]
section
variable {w0 W W':World} {B fb:Nat} {s0 s1 s2 s3 s4 s5 s6 s7:List UInt8}
theorem Tryz.PoP.of (h:BoxN W fb 9 #[.string ⟨s0.toArray⟩,.string ⟨s1.toArray⟩,.string ⟨s2.toArray⟩,.string ⟨s3.toArray⟩,.string ⟨s4.toArray⟩,.string ⟨s5.toArray⟩,.string ⟨s6.toArray⟩,.string ⟨s7.toArray⟩]) (h1:B+1<W.heap.size) (h2:Below B w0 W) (h3:BoxN W B 135 #[.int .i64 0,.int .i64 0,.int .u64 0,.int .i64 0,.int .u64 0,.bool false,.int .u64 0,.int .i64 0,.int .u64 0,.string ⟨#[]⟩]):PoP w0 B fb s0 s1 s2 s3 s4 s5 s6 s7 W:=⟨⟨h.cell 1 rfl,h.cell 2 rfl,h.cell 3 rfl,h.cell 7 rfl⟩,h,⟨h1,h2⟩,h3⟩
theorem Tryz.PoP.below (h:PoP w0 B fb s0 s1 s2 s3 s4 s5 s6 s7 W) (hb:Below W.heap.size W W'):PoP w0 B fb s0 s1 s2 s3 s4 s5 s6 s7 W':=by
 obtain⟨-,h1,⟨h2,h3⟩,h4⟩:=h;exact PoP.of (h1.below hb h1.lt) (Nat.lt_of_lt_of_le h2 hb.size) (h3.trans (hb.mono (by omega))) (h4.below hb h4.lt)
theorem Tryz.PoP.drew (h:PoP w0 B fb s0 s1 s2 s3 s4 s5 s6 s7 W):PoP w0 B fb s0 s1 s2 s3 s4 s5 s6 s7 W.drew:=h.below (Below.refl _ W).drew
theorem Tryz.PoP.alloc (h:PoP w0 B fb s0 s1 s2 s3 s4 s5 s6 s7 W) (o:Obj):PoP w0 B fb s0 s1 s2 s3 s4 s5 s6 s7 (W.alloc o):=h.below ((Below.refl _ _).alloc (Nat.le_refl _) _)
theorem Tryz.PoP.set (h:PoP w0 B fb s0 s1 s2 s3 s4 s5 s6 s7 W) {b i:Nat} (hn:b≠fb) (hB:B<b) (v:Value):PoP w0 B fb s0 s1 s2 s3 s4 s5 s6 s7 (W.setCell ⟨b,i,none⟩ v):=by
 obtain⟨-,h1,⟨h2,h3⟩,h4⟩:=h;exact PoP.of (h1.other (Ne.symm hn) i v) (by simpa using h2) (h3.setCell (Nat.le_of_lt hB) v) (h4.other (by omega) i v)
end
theorem Tryz.parseOneG (txt s0 s1 s2 s3 s4 s5 s6 s7 tt:List UInt8) (kind at_ tr last nk nn ak an:Int) (w:World)
  (hSp:∀ W,Below w.heap.size w W→Calls prog 184 #[.string ⟨txt.toArray⟩,.string ⟨#[32]⟩] W fun e w'=>e=.returned (.slice (some ⟨W.heap.size,0,none⟩) 8 8)∧w'=W.alloc (.cells #[.string ⟨s0.toArray⟩,.string ⟨s1.toArray⟩,.string ⟨s2.toArray⟩,.string ⟨s3.toArray⟩,.string ⟨s4.toArray⟩,.string ⟨s5.toArray⟩,.string ⟨s6.toArray⟩,.string ⟨s7.toArray⟩] 9))
  (hA0:∀ W,Calls prog 237 #[.string ⟨s0.toArray⟩] W fun e w'=>e=.returned (.tuple #[.int .i64 kind,.nilIface])∧Below W.heap.size W w')
  (hP4:∀ W,Below w.heap.size w W→Calls prog 118 #[.string ⟨s4.toArray⟩,.int .i64 10,.int .i64 64] W fun e w'=>∃ er,e=.returned (.tuple #[.int .u64 at_,er])∧Below W.heap.size W w')
  (hA5:∀ W,Calls prog 237 #[.string ⟨s5.toArray⟩] W fun e w'=>e=.returned (.tuple #[.int .i64 tr,.nilIface])∧Below W.heap.size W w')
  (hP6:∀ W,Below w.heap.size w W→Calls prog 118 #[.string ⟨s6.toArray⟩,.int .i64 10,.int .i64 64] W fun e w'=>∃ er,e=.returned (.tuple #[.int .u64 last,er])∧Below W.heap.size W w')
  (hN1:∀ W,Below w.heap.size w W→Calls prog 63 #[.string ⟨s1.toArray⟩] W fun e w'=>e=.returned (.agg #[.int .i64 nk,.int .u64 nn])∧Below W.heap.size W w')
  (hN2:∀ W,Below w.heap.size w W→Calls prog 63 #[.string ⟨s2.toArray⟩] W fun e w'=>e=.returned (.agg #[.int .i64 ak,.int .u64 an])∧Below W.heap.size W w')
  (hFB:∀ W,Calls prog 206 #[.bool true] W fun e w'=>e=.returned (.string ⟨tt.toArray⟩)∧Below W.heap.size W w')
  (hCl:∀ W,Calls prog 238 #[.string ⟨s7.toArray⟩] W fun e w'=>e=.returned (.string ⟨s7.toArray⟩)∧Below W.heap.size W w')
  (hSt:∀ W,Below w.heap.size w W→Calls prog 178 #[.agg #[.int .i64 kind,.int .i64 nk,.int .u64 nn,.int .i64 ak,.int .u64 an,.bool (s3==tt),.int .u64 at_,.int .i64 tr,.int .u64 last,.string ⟨s7.toArray⟩]] W fun e w'=>e=.returned (.string ⟨txt.toArray⟩)∧Below W.heap.size W w') :
  Calls prog 215 #[.string ⟨txt.toArray⟩] w fun e w'=>e=.returned (.tuple #[.agg #[.int .i64 kind,.int .i64 nk,.int .u64 nn,.int .i64 ak,.int .u64 an,.bool (s3==tt),.int .u64 at_,.int .i64 tr,.int .u64 last,.string ⟨s7.toArray⟩],.bool true])∧Below w.heap.size w w':=by
 have hb0:Below w.heap.size w (w.alloc (.cells #[.int .i64 0,.int .i64 0,.int .u64 0,.int .i64 0,.int .u64 0,.bool false,.int .u64 0,.int .i64 0,.int .u64 0,.string ⟨#[]⟩] 135)):=(Below.refl _ w).alloc (Nat.le_refl _) _;have bR0:=BoxN.new w 135 #[.int .i64 0,.int .i64 0,.int .u64 0,.int .i64 0,.int .u64 0,.bool false,.int .u64 0,.int .i64 0,.int .u64 0,.string ⟨#[]⟩];go_enter func215,ntmps215
 go_wp2_with (first
  | (go_at_call 184;refine(hSp _ hb0).mono ?_;rintro e w1 ⟨rfl,hw1⟩;rw [World.size_alloc];have hb1:=below_of hw1 hb0 (by simp);have bF1:=new_of hw1 (World.size_alloc _ _);have bR1:=box_of hw1 bR0;have f0:=bF1.cell 0 (v:=.string ⟨s0.toArray⟩) rfl;clear hw1)
  | (go_at_call_of 237 (Value.string ⟨s0.toArray⟩);refine(hA0 _).mono ?_;rintro e w2 ⟨rfl,hb2⟩;have hbb2:=hb1.trans (hb2.mono hb1.size);have bF2:=bF1.below hb2 bF1.lt;have bR2:=bR1.below hb2 bR1.lt;have f4:=bF2.cell 4 (v:=.string ⟨s4.toArray⟩) rfl)
  | (go_at_call_of 118 (Value.string ⟨s4.toArray⟩);refine(hP4 _ hbb2).mono ?_;rintro e w3 ⟨er,rfl,hb3⟩;have hbb3:=hbb2.trans (hb3.mono hbb2.size);have bF3:=bF2.below hb3 bF2.lt;have bR3:=bR2.below hb3 bR2.lt;have f5:=bF3.cell 5 (v:=.string ⟨s5.toArray⟩) rfl)
  | (go_at_call_of 237 (Value.string ⟨s5.toArray⟩);refine(hA5 _).mono ?_;rintro e w4 ⟨rfl,hb4⟩;have hbb4:=hbb3.trans (hb4.mono hbb3.size);have bF4:=bF3.below hb4 bF3.lt;have bR4:=bR3.below hb4 bR3.lt;have f6:=bF4.cell 6 (v:=.string ⟨s6.toArray⟩) rfl)
  | (go_at_call_of 118 (Value.string ⟨s6.toArray⟩);refine(hP6 _ hbb4).mono ?_;rintro e w5 ⟨er2,rfl,hb5⟩;have hbb5:=hbb4.trans (hb5.mono hbb4.size);have bF5:=bF4.below hb5 bF4.lt;have bR5:=bR4.below hb5 bR4.lt))
 have hS0:PoP w w.heap.size (w.heap.size+1) s0 s1 s2 s3 s4 s5 s6 s7 w5.drew:=PoP.drew (PoP.of bF5 bF5.lt hbb5 bR5)
 have hS1:∀ o,PoP w w.heap.size (w.heap.size+1) s0 s1 s2 s3 s4 s5 s6 s7 (w5.alloc o).drew:=fun o=>PoP.drew (PoP.alloc (PoP.of bF5 bF5.lt hbb5 bR5) o)
 have hgo:∀ {W:World} {o:Obj},PoP w w.heap.size (w.heap.size+1) s0 s1 s2 s3 s4 s5 s6 s7 (W.alloc o)→w.heap.size<W.heap.size:=fun h=>by have:=h.2.2.1.1;simp at this;omega
 clear bF1 bF2 bF3 bF4 bR1 bR2 bR3 bR4 f0 f4 f5 f6 hb0 bR0 hA0 hA5 hP4 hP6 hSp
 go_region_held3 (PoP w w.heap.size (w.heap.size+1) s0 s1 s2 s3 s4 s5 s6 s7) (first
  | with_reducible exact hS0
  | with_reducible exact hS1 _
  | with_reducible exact PoP.below (by assumption) (by assumption)
  | with_reducible assumption
  | with_reducible exact PoP.alloc (PoP.below (PoP.below (PoP.below (PoP.below hS0 hbS6) hbS7) hbS8) hbS9) _
  | with_reducible exact PoP.alloc (by assumption) _
  | exact(PoP.set (PoP.set (PoP.set (PoP.set (PoP.set (PoP.set (PoP.set (PoP.set (PoP.set (PoP.set (by assumption) hzn hzb _) hzn hzb _) hzn hzb _) hzn hzb _) hzn hzb _) hzn hzb _) hzn hzb _) hzn hzb _) hzn hzb _) hzn hzb _)
  | fail) (first
  | (go_at_call_of 63 (Value.string ⟨s1.toArray⟩);refine(hN1 _ (show PoP w w.heap.size (w.heap.size+1) s0 s1 s2 s3 s4 s5 s6 s7 _ from by assumption).2.2.1.2).mono ?_;rintro e w6 ⟨rfl,hbS6⟩;first | (have bZ:=BoxN.below (W:=(w5.alloc (.cells #[.int .i64 0,.int .i64 0,.int .u64 0,.int .i64 0,.int .u64 0,.bool false,.int .u64 0,.int .i64 0,.int .u64 0,.string ⟨#[]⟩] 135)).drew) (BoxN.new w5 135 #[.int .i64 0,.int .i64 0,.int .u64 0,.int .i64 0,.int .u64 0,.bool false,.int .u64 0,.int .i64 0,.int .u64 0,.string ⟨#[]⟩]) hbS6 (by simp);have hzb:w.heap.size<w5.heap.size:=Nat.lt_trans (Nat.lt_succ_self _) bF5.lt;have hzn:=BoxN.ne bZ (show PoP w w.heap.size (w.heap.size+1) s0 s1 s2 s3 s4 s5 s6 s7 _ from PoP.below (by assumption) hbS6).2.1 (by decide)) | (have bZ:=BoxN.below (BoxN.new _ 135 #[.int .i64 0,.int .i64 0,.int .u64 0,.int .i64 0,.int .u64 0,.bool false,.int .u64 0,.int .i64 0,.int .u64 0,.string ⟨#[]⟩]) hbS6 (by simp);have hzb:=hgo (by assumption);have hzn:=BoxN.ne bZ (show PoP w w.heap.size (w.heap.size+1) s0 s1 s2 s3 s4 s5 s6 s7 _ from PoP.below (by assumption) hbS6).2.1 (by decide)) | (have bZ:=BoxN.below bZ hbS6 bZ.lt) | skip)
  | (go_at_call_of 63 (Value.string ⟨s2.toArray⟩);refine(hN2 _ (show PoP w w.heap.size (w.heap.size+1) s0 s1 s2 s3 s4 s5 s6 s7 _ from by assumption).2.2.1.2).mono ?_;rintro e w7 ⟨rfl,hbS7⟩;first | (have bZ:=BoxN.below (BoxN.new _ 135 #[.int .i64 0,.int .i64 0,.int .u64 0,.int .i64 0,.int .u64 0,.bool false,.int .u64 0,.int .i64 0,.int .u64 0,.string ⟨#[]⟩]) hbS7 (by simp);have hzb:=hgo (by assumption);have hzn:=BoxN.ne bZ (show PoP w w.heap.size (w.heap.size+1) s0 s1 s2 s3 s4 s5 s6 s7 _ from PoP.below (by assumption) hbS7).2.1 (by decide)) | (have bZ:=BoxN.below bZ hbS7 bZ.lt) | skip)
  | (go_at_call 206;refine(hFB _).mono ?_;rintro e w8 ⟨rfl,hbS8⟩;first | (have bZ:=BoxN.below (BoxN.new _ 135 #[.int .i64 0,.int .i64 0,.int .u64 0,.int .i64 0,.int .u64 0,.bool false,.int .u64 0,.int .i64 0,.int .u64 0,.string ⟨#[]⟩]) hbS8 (by simp);have hzb:=hgo (by assumption);have hzn:=BoxN.ne bZ (show PoP w w.heap.size (w.heap.size+1) s0 s1 s2 s3 s4 s5 s6 s7 _ from PoP.below (by assumption) hbS8).2.1 (by decide)) | (have bZ:=BoxN.below bZ hbS8 bZ.lt) | skip)
  | (go_at_call 238;refine(hCl _).mono ?_;rintro e w9 ⟨rfl,hbS9⟩;first | (have bZ:=BoxN.below (BoxN.new _ 135 #[.int .i64 0,.int .i64 0,.int .u64 0,.int .i64 0,.int .u64 0,.bool false,.int .u64 0,.int .i64 0,.int .u64 0,.string ⟨#[]⟩]) hbS9 (by simp);have hzb:=hgo (by assumption);have hzn:=BoxN.ne bZ (show PoP w w.heap.size (w.heap.size+1) s0 s1 s2 s3 s4 s5 s6 s7 _ from PoP.below (by assumption) hbS9).2.1 (by decide);have z0:=bZ.cell 0 (v:=.int .i64 0) rfl;have y0:=bZ.frozen 0;have z1:=bZ.cell 1 (v:=.int .i64 0) rfl;have y1:=bZ.frozen 1;have z2:=bZ.cell 2 (v:=.int .u64 0) rfl;have y2:=bZ.frozen 2;have z3:=bZ.cell 3 (v:=.int .i64 0) rfl;have y3:=bZ.frozen 3;have z4:=bZ.cell 4 (v:=.int .u64 0) rfl;have y4:=bZ.frozen 4;have z5:=bZ.cell 5 (v:=.bool false) rfl;have y5:=bZ.frozen 5;have z6:=bZ.cell 6 (v:=.int .u64 0) rfl;have y6:=bZ.frozen 6;have z7:=bZ.cell 7 (v:=.int .i64 0) rfl;have y7:=bZ.frozen 7;have z8:=bZ.cell 8 (v:=.int .u64 0) rfl;have y8:=bZ.frozen 8;have z9:=bZ.cell 9 (v:=.string ⟨#[]⟩) rfl;have y9:=bZ.frozen 9) | (have bZ:=BoxN.below bZ hbS9 bZ.lt;have z0:=bZ.cell 0 (v:=.int .i64 0) rfl;have y0:=bZ.frozen 0;have z1:=bZ.cell 1 (v:=.int .i64 0) rfl;have y1:=bZ.frozen 1;have z2:=bZ.cell 2 (v:=.int .u64 0) rfl;have y2:=bZ.frozen 2;have z3:=bZ.cell 3 (v:=.int .i64 0) rfl;have y3:=bZ.frozen 3;have z4:=bZ.cell 4 (v:=.int .u64 0) rfl;have y4:=bZ.frozen 4;have z5:=bZ.cell 5 (v:=.bool false) rfl;have y5:=bZ.frozen 5;have z6:=bZ.cell 6 (v:=.int .u64 0) rfl;have y6:=bZ.frozen 6;have z7:=bZ.cell 7 (v:=.int .i64 0) rfl;have y7:=bZ.frozen 7;have z8:=bZ.cell 8 (v:=.int .u64 0) rfl;have y8:=bZ.frozen 8;have z9:=bZ.cell 9 (v:=.string ⟨#[]⟩) rfl;have y9:=bZ.frozen 9) | skip))
 clear hN1 hN2 hFB hCl hgo hS0 hS1
 ·have bR:=BoxN.new w9 135 #[.int .i64 kind,.int .i64 nk,.int .u64 nn,.int .i64 ak,.int .u64 an,.bool (s3==tt),.int .u64 at_,.int .i64 tr,.int .u64 last,.string ⟨s7.toArray⟩]
  have hzl:0≤w9.heap.size:=Nat.zero_le _
  have hPl:=(show PoP w w.heap.size (w.heap.size+1) s0 s1 s2 s3 s4 s5 s6 s7 ((w9.alloc (.cells #[.int .i64 kind,.int .i64 nk,.int .u64 nn,.int .i64 ak,.int .u64 an,.bool (s3==tt),.int .u64 at_,.int .i64 tr,.int .u64 last,.string ⟨s7.toArray⟩] 135))) from by assumption)
  have hBl:=hPl.2.2.1.2;have bOl:=hPl.2.2.2;clear hPl
  obtain⟨Wl,hWl⟩:∃ W,(w9.alloc (.cells #[.int .i64 kind,.int .i64 nk,.int .u64 nn,.int .i64 ak,.int .u64 an,.bool (s3==tt),.int .u64 at_,.int .i64 tr,.int .u64 last,.string ⟨s7.toArray⟩] 135))=W:=⟨_,rfl⟩
  obtain⟨rb,hrb⟩:∃ b,w9.heap.size=b:=⟨_,rfl⟩
  rw [hWl] at bR hBl bOl ⊢;rw [hrb] at bR hzl ⊢;clear hWl hrb;have q0:=bR.cell 0 (v:=.int .i64 kind) rfl;have q1:=bR.cell 1 (v:=.int .i64 nk) rfl;have q2:=bR.cell 2 (v:=.int .u64 nn) rfl;have q3:=bR.cell 3 (v:=.int .i64 ak) rfl;have q4:=bR.cell 4 (v:=.int .u64 an) rfl;have q5:=bR.cell 5 (v:=.bool (s3==tt)) rfl;have q6:=bR.cell 6 (v:=.int .u64 at_) rfl;have q7:=bR.cell 7 (v:=.int .i64 tr) rfl;have q8:=bR.cell 8 (v:=.int .u64 last) rfl;have q9:=bR.cell 9 (v:=.string ⟨s7.toArray⟩) rfl
  go_wp2_with (go_at_call 178;refine(hSt _ hBl).mono ?_;rintro e w10 ⟨rfl,hb10⟩;have bR10:=bR.below hb10 bR.lt;have bO10:=bOl.below hb10 bOl.lt;clear q0 q1 q2 q3 q4 q5 q6 q7 q8 q9;have q0:=bR10.cell 0 (v:=.int .i64 kind) rfl;have q1:=bR10.cell 1 (v:=.int .i64 nk) rfl;have q2:=bR10.cell 2 (v:=.int .u64 nn) rfl;have q3:=bR10.cell 3 (v:=.int .i64 ak) rfl;have q4:=bR10.cell 4 (v:=.int .u64 an) rfl;have q5:=bR10.cell 5 (v:=.bool (s3==tt)) rfl;have q6:=bR10.cell 6 (v:=.int .u64 at_) rfl;have q7:=bR10.cell 7 (v:=.int .i64 tr) rfl;have q8:=bR10.cell 8 (v:=.int .u64 last) rfl;have q9:=bR10.cell 9 (v:=.string ⟨s7.toArray⟩) rfl;have o0:=bO10.cell 0 (v:=.int .i64 0) rfl;have u0:=bO10.frozen 0;have o1:=bO10.cell 1 (v:=.int .i64 0) rfl;have u1:=bO10.frozen 1;have o2:=bO10.cell 2 (v:=.int .u64 0) rfl;have u2:=bO10.frozen 2;have o3:=bO10.cell 3 (v:=.int .i64 0) rfl;have u3:=bO10.frozen 3;have o4:=bO10.cell 4 (v:=.int .u64 0) rfl;have u4:=bO10.frozen 4;have o5:=bO10.cell 5 (v:=.bool false) rfl;have u5:=bO10.frozen 5;have o6:=bO10.cell 6 (v:=.int .u64 0) rfl;have u6:=bO10.frozen 6;have o7:=bO10.cell 7 (v:=.int .i64 0) rfl;have u7:=bO10.frozen 7;have o8:=bO10.cell 8 (v:=.int .u64 0) rfl;have u8:=bO10.frozen 8;have o9:=bO10.cell 9 (v:=.string ⟨#[]⟩) rfl;have u9:=bO10.frozen 9)
  have bF:=bO10.sets10 (.int .i64 kind) (.int .i64 nk) (.int .u64 nn) (.int .i64 ak) (.int .u64 an) (.bool (s3==tt)) (.int .u64 at_) (.int .i64 tr) (.int .u64 last) (.string ⟨s7.toArray⟩)
  have hBf:=(Below.setCell (p:=⟨w.heap.size,9,none⟩) (Below.setCell (p:=⟨w.heap.size,8,none⟩) (Below.setCell (p:=⟨w.heap.size,7,none⟩) (Below.setCell (p:=⟨w.heap.size,6,none⟩) (Below.setCell (p:=⟨w.heap.size,5,none⟩) (Below.setCell (p:=⟨w.heap.size,4,none⟩) (Below.setCell (p:=⟨w.heap.size,3,none⟩) (Below.setCell (p:=⟨w.heap.size,2,none⟩) (Below.setCell (p:=⟨w.heap.size,1,none⟩) (Below.setCell (p:=⟨w.heap.size,0,none⟩) (hBl.trans (hb10.mono hBl.size)) (Nat.le_refl _) (.int .i64 kind)) (Nat.le_refl _) (.int .i64 nk)) (Nat.le_refl _) (.int .u64 nn)) (Nat.le_refl _) (.int .i64 ak)) (Nat.le_refl _) (.int .u64 an)) (Nat.le_refl _) (.bool (s3==tt))) (Nat.le_refl _) (.int .u64 at_)) (Nat.le_refl _) (.int .i64 tr)) (Nat.le_refl _) (.int .u64 last)) (Nat.le_refl _) (.string ⟨s7.toArray⟩))
  generalize ((((((((((w10.setCell ⟨w.heap.size,0,none⟩ (.int .i64 kind)).setCell ⟨w.heap.size,1,none⟩ (.int .i64 nk)).setCell ⟨w.heap.size,2,none⟩ (.int .u64 nn)).setCell ⟨w.heap.size,3,none⟩ (.int .i64 ak)).setCell ⟨w.heap.size,4,none⟩ (.int .u64 an)).setCell ⟨w.heap.size,5,none⟩ (.bool (s3==tt))).setCell ⟨w.heap.size,6,none⟩ (.int .u64 at_)).setCell ⟨w.heap.size,7,none⟩ (.int .i64 tr)).setCell ⟨w.heap.size,8,none⟩ (.int .u64 last)).setCell ⟨w.heap.size,9,none⟩ (.string ⟨s7.toArray⟩))=Wf at *;have p0:=bF.cell 0 (v:=.int .i64 kind) rfl;have p1:=bF.cell 1 (v:=.int .i64 nk) rfl;have p2:=bF.cell 2 (v:=.int .u64 nn) rfl;have p3:=bF.cell 3 (v:=.int .i64 ak) rfl;have p4:=bF.cell 4 (v:=.int .u64 an) rfl;have p5:=bF.cell 5 (v:=.bool (s3==tt)) rfl;have p6:=bF.cell 6 (v:=.int .u64 at_) rfl;have p7:=bF.cell 7 (v:=.int .i64 tr) rfl;have p8:=bF.cell 8 (v:=.int .u64 last) rfl;have p9:=bF.cell 9 (v:=.string ⟨s7.toArray⟩) rfl;exact bodyPost_ret (v:=.tuple #[.agg #[.int .i64 kind,.int .i64 nk,.int .u64 nn,.int .i64 ak,.int .u64 an,.bool (s3==tt),.int .u64 at_,.int .i64 tr,.int .u64 last,.string ⟨s7.toArray⟩],.bool true]) (by simp [results,results215,go_sem,p0,p1,p2,p3,p4,p5,p6,p7,p8,p9]) rfl ⟨rfl,hBf⟩
 ·have bR:BoxN ((((((((((w9.setCell ⟨w8.heap.size,0,none⟩ (.int .i64 kind)).setCell ⟨w8.heap.size,1,none⟩ (.int .i64 nk)).setCell ⟨w8.heap.size,2,none⟩ (.int .u64 nn)).setCell ⟨w8.heap.size,3,none⟩ (.int .i64 ak)).setCell ⟨w8.heap.size,4,none⟩ (.int .u64 an)).setCell ⟨w8.heap.size,5,none⟩ (.bool (s3==tt))).setCell ⟨w8.heap.size,6,none⟩ (.int .u64 at_)).setCell ⟨w8.heap.size,7,none⟩ (.int .i64 tr)).setCell ⟨w8.heap.size,8,none⟩ (.int .u64 last)).setCell ⟨w8.heap.size,9,none⟩ (.string ⟨s7.toArray⟩)) (w8.heap.size) 135 #[.int .i64 kind,.int .i64 nk,.int .u64 nn,.int .i64 ak,.int .u64 an,.bool (s3==tt),.int .u64 at_,.int .i64 tr,.int .u64 last,.string ⟨s7.toArray⟩]:=bZ.sets10 (.int .i64 kind) (.int .i64 nk) (.int .u64 nn) (.int .i64 ak) (.int .u64 an) (.bool (s3==tt)) (.int .u64 at_) (.int .i64 tr) (.int .u64 last) (.string ⟨s7.toArray⟩)
  have hzl:=hzb;clear bZ hzn hzb z0 y0 z1 y1 z2 y2 z3 y3 z4 y4 z5 y5 z6 y6 z7 y7 z8 y8 z9 y9
  have hPl:=(show PoP w w.heap.size (w.heap.size+1) s0 s1 s2 s3 s4 s5 s6 s7 (((((((((((w9.setCell ⟨w8.heap.size,0,none⟩ (.int .i64 kind)).setCell ⟨w8.heap.size,1,none⟩ (.int .i64 nk)).setCell ⟨w8.heap.size,2,none⟩ (.int .u64 nn)).setCell ⟨w8.heap.size,3,none⟩ (.int .i64 ak)).setCell ⟨w8.heap.size,4,none⟩ (.int .u64 an)).setCell ⟨w8.heap.size,5,none⟩ (.bool (s3==tt))).setCell ⟨w8.heap.size,6,none⟩ (.int .u64 at_)).setCell ⟨w8.heap.size,7,none⟩ (.int .i64 tr)).setCell ⟨w8.heap.size,8,none⟩ (.int .u64 last)).setCell ⟨w8.heap.size,9,none⟩ (.string ⟨s7.toArray⟩))) from by assumption)
  have hBl:=hPl.2.2.1.2;have bOl:=hPl.2.2.2;clear hPl
  obtain⟨Wl,hWl⟩:∃ W,((((((((((w9.setCell ⟨w8.heap.size,0,none⟩ (.int .i64 kind)).setCell ⟨w8.heap.size,1,none⟩ (.int .i64 nk)).setCell ⟨w8.heap.size,2,none⟩ (.int .u64 nn)).setCell ⟨w8.heap.size,3,none⟩ (.int .i64 ak)).setCell ⟨w8.heap.size,4,none⟩ (.int .u64 an)).setCell ⟨w8.heap.size,5,none⟩ (.bool (s3==tt))).setCell ⟨w8.heap.size,6,none⟩ (.int .u64 at_)).setCell ⟨w8.heap.size,7,none⟩ (.int .i64 tr)).setCell ⟨w8.heap.size,8,none⟩ (.int .u64 last)).setCell ⟨w8.heap.size,9,none⟩ (.string ⟨s7.toArray⟩))=W:=⟨_,rfl⟩
  obtain⟨rb,hrb⟩:∃ b,w8.heap.size=b:=⟨_,rfl⟩
  rw [hWl] at bR hBl bOl ⊢;rw [hrb] at bR hzl ⊢;clear hWl hrb;have q0:=bR.cell 0 (v:=.int .i64 kind) rfl;have q1:=bR.cell 1 (v:=.int .i64 nk) rfl;have q2:=bR.cell 2 (v:=.int .u64 nn) rfl;have q3:=bR.cell 3 (v:=.int .i64 ak) rfl;have q4:=bR.cell 4 (v:=.int .u64 an) rfl;have q5:=bR.cell 5 (v:=.bool (s3==tt)) rfl;have q6:=bR.cell 6 (v:=.int .u64 at_) rfl;have q7:=bR.cell 7 (v:=.int .i64 tr) rfl;have q8:=bR.cell 8 (v:=.int .u64 last) rfl;have q9:=bR.cell 9 (v:=.string ⟨s7.toArray⟩) rfl
  go_wp2_with (go_at_call 178;refine(hSt _ hBl).mono ?_;rintro e w10 ⟨rfl,hb10⟩;have bR10:=bR.below hb10 bR.lt;have bO10:=bOl.below hb10 bOl.lt;clear q0 q1 q2 q3 q4 q5 q6 q7 q8 q9;have q0:=bR10.cell 0 (v:=.int .i64 kind) rfl;have q1:=bR10.cell 1 (v:=.int .i64 nk) rfl;have q2:=bR10.cell 2 (v:=.int .u64 nn) rfl;have q3:=bR10.cell 3 (v:=.int .i64 ak) rfl;have q4:=bR10.cell 4 (v:=.int .u64 an) rfl;have q5:=bR10.cell 5 (v:=.bool (s3==tt)) rfl;have q6:=bR10.cell 6 (v:=.int .u64 at_) rfl;have q7:=bR10.cell 7 (v:=.int .i64 tr) rfl;have q8:=bR10.cell 8 (v:=.int .u64 last) rfl;have q9:=bR10.cell 9 (v:=.string ⟨s7.toArray⟩) rfl;have o0:=bO10.cell 0 (v:=.int .i64 0) rfl;have u0:=bO10.frozen 0;have o1:=bO10.cell 1 (v:=.int .i64 0) rfl;have u1:=bO10.frozen 1;have o2:=bO10.cell 2 (v:=.int .u64 0) rfl;have u2:=bO10.frozen 2;have o3:=bO10.cell 3 (v:=.int .i64 0) rfl;have u3:=bO10.frozen 3;have o4:=bO10.cell 4 (v:=.int .u64 0) rfl;have u4:=bO10.frozen 4;have o5:=bO10.cell 5 (v:=.bool false) rfl;have u5:=bO10.frozen 5;have o6:=bO10.cell 6 (v:=.int .u64 0) rfl;have u6:=bO10.frozen 6;have o7:=bO10.cell 7 (v:=.int .i64 0) rfl;have u7:=bO10.frozen 7;have o8:=bO10.cell 8 (v:=.int .u64 0) rfl;have u8:=bO10.frozen 8;have o9:=bO10.cell 9 (v:=.string ⟨#[]⟩) rfl;have u9:=bO10.frozen 9)
  have bF:=bO10.sets10 (.int .i64 kind) (.int .i64 nk) (.int .u64 nn) (.int .i64 ak) (.int .u64 an) (.bool (s3==tt)) (.int .u64 at_) (.int .i64 tr) (.int .u64 last) (.string ⟨s7.toArray⟩)
  have hBf:=(Below.setCell (p:=⟨w.heap.size,9,none⟩) (Below.setCell (p:=⟨w.heap.size,8,none⟩) (Below.setCell (p:=⟨w.heap.size,7,none⟩) (Below.setCell (p:=⟨w.heap.size,6,none⟩) (Below.setCell (p:=⟨w.heap.size,5,none⟩) (Below.setCell (p:=⟨w.heap.size,4,none⟩) (Below.setCell (p:=⟨w.heap.size,3,none⟩) (Below.setCell (p:=⟨w.heap.size,2,none⟩) (Below.setCell (p:=⟨w.heap.size,1,none⟩) (Below.setCell (p:=⟨w.heap.size,0,none⟩) (hBl.trans (hb10.mono hBl.size)) (Nat.le_refl _) (.int .i64 kind)) (Nat.le_refl _) (.int .i64 nk)) (Nat.le_refl _) (.int .u64 nn)) (Nat.le_refl _) (.int .i64 ak)) (Nat.le_refl _) (.int .u64 an)) (Nat.le_refl _) (.bool (s3==tt))) (Nat.le_refl _) (.int .u64 at_)) (Nat.le_refl _) (.int .i64 tr)) (Nat.le_refl _) (.int .u64 last)) (Nat.le_refl _) (.string ⟨s7.toArray⟩))
  generalize ((((((((((w10.setCell ⟨w.heap.size,0,none⟩ (.int .i64 kind)).setCell ⟨w.heap.size,1,none⟩ (.int .i64 nk)).setCell ⟨w.heap.size,2,none⟩ (.int .u64 nn)).setCell ⟨w.heap.size,3,none⟩ (.int .i64 ak)).setCell ⟨w.heap.size,4,none⟩ (.int .u64 an)).setCell ⟨w.heap.size,5,none⟩ (.bool (s3==tt))).setCell ⟨w.heap.size,6,none⟩ (.int .u64 at_)).setCell ⟨w.heap.size,7,none⟩ (.int .i64 tr)).setCell ⟨w.heap.size,8,none⟩ (.int .u64 last)).setCell ⟨w.heap.size,9,none⟩ (.string ⟨s7.toArray⟩))=Wf at *;have p0:=bF.cell 0 (v:=.int .i64 kind) rfl;have p1:=bF.cell 1 (v:=.int .i64 nk) rfl;have p2:=bF.cell 2 (v:=.int .u64 nn) rfl;have p3:=bF.cell 3 (v:=.int .i64 ak) rfl;have p4:=bF.cell 4 (v:=.int .u64 an) rfl;have p5:=bF.cell 5 (v:=.bool (s3==tt)) rfl;have p6:=bF.cell 6 (v:=.int .u64 at_) rfl;have p7:=bF.cell 7 (v:=.int .i64 tr) rfl;have p8:=bF.cell 8 (v:=.int .u64 last) rfl;have p9:=bF.cell 9 (v:=.string ⟨s7.toArray⟩) rfl;exact bodyPost_ret (v:=.tuple #[.agg #[.int .i64 kind,.int .i64 nk,.int .u64 nn,.int .i64 ak,.int .u64 an,.bool (s3==tt),.int .u64 at_,.int .i64 tr,.int .u64 last,.string ⟨s7.toArray⟩],.bool true]) (by simp [results,results215,go_sem,p0,p1,p2,p3,p4,p5,p6,p7,p8,p9]) rfl ⟨rfl,hBf⟩
 ·have bR:BoxN ((((((((((w9.setCell ⟨w7.heap.size,0,none⟩ (.int .i64 kind)).setCell ⟨w7.heap.size,1,none⟩ (.int .i64 nk)).setCell ⟨w7.heap.size,2,none⟩ (.int .u64 nn)).setCell ⟨w7.heap.size,3,none⟩ (.int .i64 ak)).setCell ⟨w7.heap.size,4,none⟩ (.int .u64 an)).setCell ⟨w7.heap.size,5,none⟩ (.bool (s3==tt))).setCell ⟨w7.heap.size,6,none⟩ (.int .u64 at_)).setCell ⟨w7.heap.size,7,none⟩ (.int .i64 tr)).setCell ⟨w7.heap.size,8,none⟩ (.int .u64 last)).setCell ⟨w7.heap.size,9,none⟩ (.string ⟨s7.toArray⟩)) (w7.heap.size) 135 #[.int .i64 kind,.int .i64 nk,.int .u64 nn,.int .i64 ak,.int .u64 an,.bool (s3==tt),.int .u64 at_,.int .i64 tr,.int .u64 last,.string ⟨s7.toArray⟩]:=bZ.sets10 (.int .i64 kind) (.int .i64 nk) (.int .u64 nn) (.int .i64 ak) (.int .u64 an) (.bool (s3==tt)) (.int .u64 at_) (.int .i64 tr) (.int .u64 last) (.string ⟨s7.toArray⟩)
  have hzl:=hzb;clear bZ hzn hzb z0 y0 z1 y1 z2 y2 z3 y3 z4 y4 z5 y5 z6 y6 z7 y7 z8 y8 z9 y9
  have hPl:=(show PoP w w.heap.size (w.heap.size+1) s0 s1 s2 s3 s4 s5 s6 s7 (((((((((((w9.setCell ⟨w7.heap.size,0,none⟩ (.int .i64 kind)).setCell ⟨w7.heap.size,1,none⟩ (.int .i64 nk)).setCell ⟨w7.heap.size,2,none⟩ (.int .u64 nn)).setCell ⟨w7.heap.size,3,none⟩ (.int .i64 ak)).setCell ⟨w7.heap.size,4,none⟩ (.int .u64 an)).setCell ⟨w7.heap.size,5,none⟩ (.bool (s3==tt))).setCell ⟨w7.heap.size,6,none⟩ (.int .u64 at_)).setCell ⟨w7.heap.size,7,none⟩ (.int .i64 tr)).setCell ⟨w7.heap.size,8,none⟩ (.int .u64 last)).setCell ⟨w7.heap.size,9,none⟩ (.string ⟨s7.toArray⟩))) from by assumption)
  have hBl:=hPl.2.2.1.2;have bOl:=hPl.2.2.2;clear hPl
  obtain⟨Wl,hWl⟩:∃ W,((((((((((w9.setCell ⟨w7.heap.size,0,none⟩ (.int .i64 kind)).setCell ⟨w7.heap.size,1,none⟩ (.int .i64 nk)).setCell ⟨w7.heap.size,2,none⟩ (.int .u64 nn)).setCell ⟨w7.heap.size,3,none⟩ (.int .i64 ak)).setCell ⟨w7.heap.size,4,none⟩ (.int .u64 an)).setCell ⟨w7.heap.size,5,none⟩ (.bool (s3==tt))).setCell ⟨w7.heap.size,6,none⟩ (.int .u64 at_)).setCell ⟨w7.heap.size,7,none⟩ (.int .i64 tr)).setCell ⟨w7.heap.size,8,none⟩ (.int .u64 last)).setCell ⟨w7.heap.size,9,none⟩ (.string ⟨s7.toArray⟩))=W:=⟨_,rfl⟩
  obtain⟨rb,hrb⟩:∃ b,w7.heap.size=b:=⟨_,rfl⟩
  rw [hWl] at bR hBl bOl ⊢;rw [hrb] at bR hzl ⊢;clear hWl hrb;have q0:=bR.cell 0 (v:=.int .i64 kind) rfl;have q1:=bR.cell 1 (v:=.int .i64 nk) rfl;have q2:=bR.cell 2 (v:=.int .u64 nn) rfl;have q3:=bR.cell 3 (v:=.int .i64 ak) rfl;have q4:=bR.cell 4 (v:=.int .u64 an) rfl;have q5:=bR.cell 5 (v:=.bool (s3==tt)) rfl;have q6:=bR.cell 6 (v:=.int .u64 at_) rfl;have q7:=bR.cell 7 (v:=.int .i64 tr) rfl;have q8:=bR.cell 8 (v:=.int .u64 last) rfl;have q9:=bR.cell 9 (v:=.string ⟨s7.toArray⟩) rfl
  go_wp2_with (go_at_call 178;refine(hSt _ hBl).mono ?_;rintro e w10 ⟨rfl,hb10⟩;have bR10:=bR.below hb10 bR.lt;have bO10:=bOl.below hb10 bOl.lt;clear q0 q1 q2 q3 q4 q5 q6 q7 q8 q9;have q0:=bR10.cell 0 (v:=.int .i64 kind) rfl;have q1:=bR10.cell 1 (v:=.int .i64 nk) rfl;have q2:=bR10.cell 2 (v:=.int .u64 nn) rfl;have q3:=bR10.cell 3 (v:=.int .i64 ak) rfl;have q4:=bR10.cell 4 (v:=.int .u64 an) rfl;have q5:=bR10.cell 5 (v:=.bool (s3==tt)) rfl;have q6:=bR10.cell 6 (v:=.int .u64 at_) rfl;have q7:=bR10.cell 7 (v:=.int .i64 tr) rfl;have q8:=bR10.cell 8 (v:=.int .u64 last) rfl;have q9:=bR10.cell 9 (v:=.string ⟨s7.toArray⟩) rfl;have o0:=bO10.cell 0 (v:=.int .i64 0) rfl;have u0:=bO10.frozen 0;have o1:=bO10.cell 1 (v:=.int .i64 0) rfl;have u1:=bO10.frozen 1;have o2:=bO10.cell 2 (v:=.int .u64 0) rfl;have u2:=bO10.frozen 2;have o3:=bO10.cell 3 (v:=.int .i64 0) rfl;have u3:=bO10.frozen 3;have o4:=bO10.cell 4 (v:=.int .u64 0) rfl;have u4:=bO10.frozen 4;have o5:=bO10.cell 5 (v:=.bool false) rfl;have u5:=bO10.frozen 5;have o6:=bO10.cell 6 (v:=.int .u64 0) rfl;have u6:=bO10.frozen 6;have o7:=bO10.cell 7 (v:=.int .i64 0) rfl;have u7:=bO10.frozen 7;have o8:=bO10.cell 8 (v:=.int .u64 0) rfl;have u8:=bO10.frozen 8;have o9:=bO10.cell 9 (v:=.string ⟨#[]⟩) rfl;have u9:=bO10.frozen 9)
  have bF:=bO10.sets10 (.int .i64 kind) (.int .i64 nk) (.int .u64 nn) (.int .i64 ak) (.int .u64 an) (.bool (s3==tt)) (.int .u64 at_) (.int .i64 tr) (.int .u64 last) (.string ⟨s7.toArray⟩)
  have hBf:=(Below.setCell (p:=⟨w.heap.size,9,none⟩) (Below.setCell (p:=⟨w.heap.size,8,none⟩) (Below.setCell (p:=⟨w.heap.size,7,none⟩) (Below.setCell (p:=⟨w.heap.size,6,none⟩) (Below.setCell (p:=⟨w.heap.size,5,none⟩) (Below.setCell (p:=⟨w.heap.size,4,none⟩) (Below.setCell (p:=⟨w.heap.size,3,none⟩) (Below.setCell (p:=⟨w.heap.size,2,none⟩) (Below.setCell (p:=⟨w.heap.size,1,none⟩) (Below.setCell (p:=⟨w.heap.size,0,none⟩) (hBl.trans (hb10.mono hBl.size)) (Nat.le_refl _) (.int .i64 kind)) (Nat.le_refl _) (.int .i64 nk)) (Nat.le_refl _) (.int .u64 nn)) (Nat.le_refl _) (.int .i64 ak)) (Nat.le_refl _) (.int .u64 an)) (Nat.le_refl _) (.bool (s3==tt))) (Nat.le_refl _) (.int .u64 at_)) (Nat.le_refl _) (.int .i64 tr)) (Nat.le_refl _) (.int .u64 last)) (Nat.le_refl _) (.string ⟨s7.toArray⟩))
  generalize ((((((((((w10.setCell ⟨w.heap.size,0,none⟩ (.int .i64 kind)).setCell ⟨w.heap.size,1,none⟩ (.int .i64 nk)).setCell ⟨w.heap.size,2,none⟩ (.int .u64 nn)).setCell ⟨w.heap.size,3,none⟩ (.int .i64 ak)).setCell ⟨w.heap.size,4,none⟩ (.int .u64 an)).setCell ⟨w.heap.size,5,none⟩ (.bool (s3==tt))).setCell ⟨w.heap.size,6,none⟩ (.int .u64 at_)).setCell ⟨w.heap.size,7,none⟩ (.int .i64 tr)).setCell ⟨w.heap.size,8,none⟩ (.int .u64 last)).setCell ⟨w.heap.size,9,none⟩ (.string ⟨s7.toArray⟩))=Wf at *;have p0:=bF.cell 0 (v:=.int .i64 kind) rfl;have p1:=bF.cell 1 (v:=.int .i64 nk) rfl;have p2:=bF.cell 2 (v:=.int .u64 nn) rfl;have p3:=bF.cell 3 (v:=.int .i64 ak) rfl;have p4:=bF.cell 4 (v:=.int .u64 an) rfl;have p5:=bF.cell 5 (v:=.bool (s3==tt)) rfl;have p6:=bF.cell 6 (v:=.int .u64 at_) rfl;have p7:=bF.cell 7 (v:=.int .i64 tr) rfl;have p8:=bF.cell 8 (v:=.int .u64 last) rfl;have p9:=bF.cell 9 (v:=.string ⟨s7.toArray⟩) rfl;exact bodyPost_ret (v:=.tuple #[.agg #[.int .i64 kind,.int .i64 nk,.int .u64 nn,.int .i64 ak,.int .u64 an,.bool (s3==tt),.int .u64 at_,.int .i64 tr,.int .u64 last,.string ⟨s7.toArray⟩],.bool true]) (by simp [results,results215,go_sem,p0,p1,p2,p3,p4,p5,p6,p7,p8,p9]) rfl ⟨rfl,hBf⟩
 ·have bR:BoxN ((((((((((w9.setCell ⟨w6.heap.size,0,none⟩ (.int .i64 kind)).setCell ⟨w6.heap.size,1,none⟩ (.int .i64 nk)).setCell ⟨w6.heap.size,2,none⟩ (.int .u64 nn)).setCell ⟨w6.heap.size,3,none⟩ (.int .i64 ak)).setCell ⟨w6.heap.size,4,none⟩ (.int .u64 an)).setCell ⟨w6.heap.size,5,none⟩ (.bool (s3==tt))).setCell ⟨w6.heap.size,6,none⟩ (.int .u64 at_)).setCell ⟨w6.heap.size,7,none⟩ (.int .i64 tr)).setCell ⟨w6.heap.size,8,none⟩ (.int .u64 last)).setCell ⟨w6.heap.size,9,none⟩ (.string ⟨s7.toArray⟩)) (w6.heap.size) 135 #[.int .i64 kind,.int .i64 nk,.int .u64 nn,.int .i64 ak,.int .u64 an,.bool (s3==tt),.int .u64 at_,.int .i64 tr,.int .u64 last,.string ⟨s7.toArray⟩]:=bZ.sets10 (.int .i64 kind) (.int .i64 nk) (.int .u64 nn) (.int .i64 ak) (.int .u64 an) (.bool (s3==tt)) (.int .u64 at_) (.int .i64 tr) (.int .u64 last) (.string ⟨s7.toArray⟩)
  have hzl:=hzb;clear bZ hzn hzb z0 y0 z1 y1 z2 y2 z3 y3 z4 y4 z5 y5 z6 y6 z7 y7 z8 y8 z9 y9
  have hPl:=(show PoP w w.heap.size (w.heap.size+1) s0 s1 s2 s3 s4 s5 s6 s7 (((((((((((w9.setCell ⟨w6.heap.size,0,none⟩ (.int .i64 kind)).setCell ⟨w6.heap.size,1,none⟩ (.int .i64 nk)).setCell ⟨w6.heap.size,2,none⟩ (.int .u64 nn)).setCell ⟨w6.heap.size,3,none⟩ (.int .i64 ak)).setCell ⟨w6.heap.size,4,none⟩ (.int .u64 an)).setCell ⟨w6.heap.size,5,none⟩ (.bool (s3==tt))).setCell ⟨w6.heap.size,6,none⟩ (.int .u64 at_)).setCell ⟨w6.heap.size,7,none⟩ (.int .i64 tr)).setCell ⟨w6.heap.size,8,none⟩ (.int .u64 last)).setCell ⟨w6.heap.size,9,none⟩ (.string ⟨s7.toArray⟩))) from by assumption)
  have hBl:=hPl.2.2.1.2;have bOl:=hPl.2.2.2;clear hPl
  obtain⟨Wl,hWl⟩:∃ W,((((((((((w9.setCell ⟨w6.heap.size,0,none⟩ (.int .i64 kind)).setCell ⟨w6.heap.size,1,none⟩ (.int .i64 nk)).setCell ⟨w6.heap.size,2,none⟩ (.int .u64 nn)).setCell ⟨w6.heap.size,3,none⟩ (.int .i64 ak)).setCell ⟨w6.heap.size,4,none⟩ (.int .u64 an)).setCell ⟨w6.heap.size,5,none⟩ (.bool (s3==tt))).setCell ⟨w6.heap.size,6,none⟩ (.int .u64 at_)).setCell ⟨w6.heap.size,7,none⟩ (.int .i64 tr)).setCell ⟨w6.heap.size,8,none⟩ (.int .u64 last)).setCell ⟨w6.heap.size,9,none⟩ (.string ⟨s7.toArray⟩))=W:=⟨_,rfl⟩
  obtain⟨rb,hrb⟩:∃ b,w6.heap.size=b:=⟨_,rfl⟩
  rw [hWl] at bR hBl bOl ⊢;rw [hrb] at bR hzl ⊢;clear hWl hrb;have q0:=bR.cell 0 (v:=.int .i64 kind) rfl;have q1:=bR.cell 1 (v:=.int .i64 nk) rfl;have q2:=bR.cell 2 (v:=.int .u64 nn) rfl;have q3:=bR.cell 3 (v:=.int .i64 ak) rfl;have q4:=bR.cell 4 (v:=.int .u64 an) rfl;have q5:=bR.cell 5 (v:=.bool (s3==tt)) rfl;have q6:=bR.cell 6 (v:=.int .u64 at_) rfl;have q7:=bR.cell 7 (v:=.int .i64 tr) rfl;have q8:=bR.cell 8 (v:=.int .u64 last) rfl;have q9:=bR.cell 9 (v:=.string ⟨s7.toArray⟩) rfl
  go_wp2_with (go_at_call 178;refine(hSt _ hBl).mono ?_;rintro e w10 ⟨rfl,hb10⟩;have bR10:=bR.below hb10 bR.lt;have bO10:=bOl.below hb10 bOl.lt;clear q0 q1 q2 q3 q4 q5 q6 q7 q8 q9;have q0:=bR10.cell 0 (v:=.int .i64 kind) rfl;have q1:=bR10.cell 1 (v:=.int .i64 nk) rfl;have q2:=bR10.cell 2 (v:=.int .u64 nn) rfl;have q3:=bR10.cell 3 (v:=.int .i64 ak) rfl;have q4:=bR10.cell 4 (v:=.int .u64 an) rfl;have q5:=bR10.cell 5 (v:=.bool (s3==tt)) rfl;have q6:=bR10.cell 6 (v:=.int .u64 at_) rfl;have q7:=bR10.cell 7 (v:=.int .i64 tr) rfl;have q8:=bR10.cell 8 (v:=.int .u64 last) rfl;have q9:=bR10.cell 9 (v:=.string ⟨s7.toArray⟩) rfl;have o0:=bO10.cell 0 (v:=.int .i64 0) rfl;have u0:=bO10.frozen 0;have o1:=bO10.cell 1 (v:=.int .i64 0) rfl;have u1:=bO10.frozen 1;have o2:=bO10.cell 2 (v:=.int .u64 0) rfl;have u2:=bO10.frozen 2;have o3:=bO10.cell 3 (v:=.int .i64 0) rfl;have u3:=bO10.frozen 3;have o4:=bO10.cell 4 (v:=.int .u64 0) rfl;have u4:=bO10.frozen 4;have o5:=bO10.cell 5 (v:=.bool false) rfl;have u5:=bO10.frozen 5;have o6:=bO10.cell 6 (v:=.int .u64 0) rfl;have u6:=bO10.frozen 6;have o7:=bO10.cell 7 (v:=.int .i64 0) rfl;have u7:=bO10.frozen 7;have o8:=bO10.cell 8 (v:=.int .u64 0) rfl;have u8:=bO10.frozen 8;have o9:=bO10.cell 9 (v:=.string ⟨#[]⟩) rfl;have u9:=bO10.frozen 9)
  have bF:=bO10.sets10 (.int .i64 kind) (.int .i64 nk) (.int .u64 nn) (.int .i64 ak) (.int .u64 an) (.bool (s3==tt)) (.int .u64 at_) (.int .i64 tr) (.int .u64 last) (.string ⟨s7.toArray⟩)
  have hBf:=(Below.setCell (p:=⟨w.heap.size,9,none⟩) (Below.setCell (p:=⟨w.heap.size,8,none⟩) (Below.setCell (p:=⟨w.heap.size,7,none⟩) (Below.setCell (p:=⟨w.heap.size,6,none⟩) (Below.setCell (p:=⟨w.heap.size,5,none⟩) (Below.setCell (p:=⟨w.heap.size,4,none⟩) (Below.setCell (p:=⟨w.heap.size,3,none⟩) (Below.setCell (p:=⟨w.heap.size,2,none⟩) (Below.setCell (p:=⟨w.heap.size,1,none⟩) (Below.setCell (p:=⟨w.heap.size,0,none⟩) (hBl.trans (hb10.mono hBl.size)) (Nat.le_refl _) (.int .i64 kind)) (Nat.le_refl _) (.int .i64 nk)) (Nat.le_refl _) (.int .u64 nn)) (Nat.le_refl _) (.int .i64 ak)) (Nat.le_refl _) (.int .u64 an)) (Nat.le_refl _) (.bool (s3==tt))) (Nat.le_refl _) (.int .u64 at_)) (Nat.le_refl _) (.int .i64 tr)) (Nat.le_refl _) (.int .u64 last)) (Nat.le_refl _) (.string ⟨s7.toArray⟩))
  generalize ((((((((((w10.setCell ⟨w.heap.size,0,none⟩ (.int .i64 kind)).setCell ⟨w.heap.size,1,none⟩ (.int .i64 nk)).setCell ⟨w.heap.size,2,none⟩ (.int .u64 nn)).setCell ⟨w.heap.size,3,none⟩ (.int .i64 ak)).setCell ⟨w.heap.size,4,none⟩ (.int .u64 an)).setCell ⟨w.heap.size,5,none⟩ (.bool (s3==tt))).setCell ⟨w.heap.size,6,none⟩ (.int .u64 at_)).setCell ⟨w.heap.size,7,none⟩ (.int .i64 tr)).setCell ⟨w.heap.size,8,none⟩ (.int .u64 last)).setCell ⟨w.heap.size,9,none⟩ (.string ⟨s7.toArray⟩))=Wf at *;have p0:=bF.cell 0 (v:=.int .i64 kind) rfl;have p1:=bF.cell 1 (v:=.int .i64 nk) rfl;have p2:=bF.cell 2 (v:=.int .u64 nn) rfl;have p3:=bF.cell 3 (v:=.int .i64 ak) rfl;have p4:=bF.cell 4 (v:=.int .u64 an) rfl;have p5:=bF.cell 5 (v:=.bool (s3==tt)) rfl;have p6:=bF.cell 6 (v:=.int .u64 at_) rfl;have p7:=bF.cell 7 (v:=.int .i64 tr) rfl;have p8:=bF.cell 8 (v:=.int .u64 last) rfl;have p9:=bF.cell 9 (v:=.string ⟨s7.toArray⟩) rfl;exact bodyPost_ret (v:=.tuple #[.agg #[.int .i64 kind,.int .i64 nk,.int .u64 nn,.int .i64 ak,.int .u64 an,.bool (s3==tt),.int .u64 at_,.int .i64 tr,.int .u64 last,.string ⟨s7.toArray⟩],.bool true]) (by simp [results,results215,go_sem,p0,p1,p2,p3,p4,p5,p6,p7,p8,p9]) rfl ⟨rfl,hBf⟩
 ·have bR:BoxN ((((((((((w9.setCell ⟨w5.heap.size,0,none⟩ (.int .i64 kind)).setCell ⟨w5.heap.size,1,none⟩ (.int .i64 nk)).setCell ⟨w5.heap.size,2,none⟩ (.int .u64 nn)).setCell ⟨w5.heap.size,3,none⟩ (.int .i64 ak)).setCell ⟨w5.heap.size,4,none⟩ (.int .u64 an)).setCell ⟨w5.heap.size,5,none⟩ (.bool (s3==tt))).setCell ⟨w5.heap.size,6,none⟩ (.int .u64 at_)).setCell ⟨w5.heap.size,7,none⟩ (.int .i64 tr)).setCell ⟨w5.heap.size,8,none⟩ (.int .u64 last)).setCell ⟨w5.heap.size,9,none⟩ (.string ⟨s7.toArray⟩)) (w5.heap.size) 135 #[.int .i64 kind,.int .i64 nk,.int .u64 nn,.int .i64 ak,.int .u64 an,.bool (s3==tt),.int .u64 at_,.int .i64 tr,.int .u64 last,.string ⟨s7.toArray⟩]:=bZ.sets10 (.int .i64 kind) (.int .i64 nk) (.int .u64 nn) (.int .i64 ak) (.int .u64 an) (.bool (s3==tt)) (.int .u64 at_) (.int .i64 tr) (.int .u64 last) (.string ⟨s7.toArray⟩)
  have hzl:=hzb;clear bZ hzn hzb z0 y0 z1 y1 z2 y2 z3 y3 z4 y4 z5 y5 z6 y6 z7 y7 z8 y8 z9 y9
  have hPl:=(show PoP w w.heap.size (w.heap.size+1) s0 s1 s2 s3 s4 s5 s6 s7 (((((((((((w9.setCell ⟨w5.heap.size,0,none⟩ (.int .i64 kind)).setCell ⟨w5.heap.size,1,none⟩ (.int .i64 nk)).setCell ⟨w5.heap.size,2,none⟩ (.int .u64 nn)).setCell ⟨w5.heap.size,3,none⟩ (.int .i64 ak)).setCell ⟨w5.heap.size,4,none⟩ (.int .u64 an)).setCell ⟨w5.heap.size,5,none⟩ (.bool (s3==tt))).setCell ⟨w5.heap.size,6,none⟩ (.int .u64 at_)).setCell ⟨w5.heap.size,7,none⟩ (.int .i64 tr)).setCell ⟨w5.heap.size,8,none⟩ (.int .u64 last)).setCell ⟨w5.heap.size,9,none⟩ (.string ⟨s7.toArray⟩))) from by assumption)
  have hBl:=hPl.2.2.1.2;have bOl:=hPl.2.2.2;clear hPl
  obtain⟨Wl,hWl⟩:∃ W,((((((((((w9.setCell ⟨w5.heap.size,0,none⟩ (.int .i64 kind)).setCell ⟨w5.heap.size,1,none⟩ (.int .i64 nk)).setCell ⟨w5.heap.size,2,none⟩ (.int .u64 nn)).setCell ⟨w5.heap.size,3,none⟩ (.int .i64 ak)).setCell ⟨w5.heap.size,4,none⟩ (.int .u64 an)).setCell ⟨w5.heap.size,5,none⟩ (.bool (s3==tt))).setCell ⟨w5.heap.size,6,none⟩ (.int .u64 at_)).setCell ⟨w5.heap.size,7,none⟩ (.int .i64 tr)).setCell ⟨w5.heap.size,8,none⟩ (.int .u64 last)).setCell ⟨w5.heap.size,9,none⟩ (.string ⟨s7.toArray⟩))=W:=⟨_,rfl⟩
  obtain⟨rb,hrb⟩:∃ b,w5.heap.size=b:=⟨_,rfl⟩
  rw [hWl] at bR hBl bOl ⊢;rw [hrb] at bR hzl ⊢;clear hWl hrb;have q0:=bR.cell 0 (v:=.int .i64 kind) rfl;have q1:=bR.cell 1 (v:=.int .i64 nk) rfl;have q2:=bR.cell 2 (v:=.int .u64 nn) rfl;have q3:=bR.cell 3 (v:=.int .i64 ak) rfl;have q4:=bR.cell 4 (v:=.int .u64 an) rfl;have q5:=bR.cell 5 (v:=.bool (s3==tt)) rfl;have q6:=bR.cell 6 (v:=.int .u64 at_) rfl;have q7:=bR.cell 7 (v:=.int .i64 tr) rfl;have q8:=bR.cell 8 (v:=.int .u64 last) rfl;have q9:=bR.cell 9 (v:=.string ⟨s7.toArray⟩) rfl
  go_wp2_with (go_at_call 178;refine(hSt _ hBl).mono ?_;rintro e w10 ⟨rfl,hb10⟩;have bR10:=bR.below hb10 bR.lt;have bO10:=bOl.below hb10 bOl.lt;clear q0 q1 q2 q3 q4 q5 q6 q7 q8 q9;have q0:=bR10.cell 0 (v:=.int .i64 kind) rfl;have q1:=bR10.cell 1 (v:=.int .i64 nk) rfl;have q2:=bR10.cell 2 (v:=.int .u64 nn) rfl;have q3:=bR10.cell 3 (v:=.int .i64 ak) rfl;have q4:=bR10.cell 4 (v:=.int .u64 an) rfl;have q5:=bR10.cell 5 (v:=.bool (s3==tt)) rfl;have q6:=bR10.cell 6 (v:=.int .u64 at_) rfl;have q7:=bR10.cell 7 (v:=.int .i64 tr) rfl;have q8:=bR10.cell 8 (v:=.int .u64 last) rfl;have q9:=bR10.cell 9 (v:=.string ⟨s7.toArray⟩) rfl;have o0:=bO10.cell 0 (v:=.int .i64 0) rfl;have u0:=bO10.frozen 0;have o1:=bO10.cell 1 (v:=.int .i64 0) rfl;have u1:=bO10.frozen 1;have o2:=bO10.cell 2 (v:=.int .u64 0) rfl;have u2:=bO10.frozen 2;have o3:=bO10.cell 3 (v:=.int .i64 0) rfl;have u3:=bO10.frozen 3;have o4:=bO10.cell 4 (v:=.int .u64 0) rfl;have u4:=bO10.frozen 4;have o5:=bO10.cell 5 (v:=.bool false) rfl;have u5:=bO10.frozen 5;have o6:=bO10.cell 6 (v:=.int .u64 0) rfl;have u6:=bO10.frozen 6;have o7:=bO10.cell 7 (v:=.int .i64 0) rfl;have u7:=bO10.frozen 7;have o8:=bO10.cell 8 (v:=.int .u64 0) rfl;have u8:=bO10.frozen 8;have o9:=bO10.cell 9 (v:=.string ⟨#[]⟩) rfl;have u9:=bO10.frozen 9)
  have bF:=bO10.sets10 (.int .i64 kind) (.int .i64 nk) (.int .u64 nn) (.int .i64 ak) (.int .u64 an) (.bool (s3==tt)) (.int .u64 at_) (.int .i64 tr) (.int .u64 last) (.string ⟨s7.toArray⟩)
  have hBf:=(Below.setCell (p:=⟨w.heap.size,9,none⟩) (Below.setCell (p:=⟨w.heap.size,8,none⟩) (Below.setCell (p:=⟨w.heap.size,7,none⟩) (Below.setCell (p:=⟨w.heap.size,6,none⟩) (Below.setCell (p:=⟨w.heap.size,5,none⟩) (Below.setCell (p:=⟨w.heap.size,4,none⟩) (Below.setCell (p:=⟨w.heap.size,3,none⟩) (Below.setCell (p:=⟨w.heap.size,2,none⟩) (Below.setCell (p:=⟨w.heap.size,1,none⟩) (Below.setCell (p:=⟨w.heap.size,0,none⟩) (hBl.trans (hb10.mono hBl.size)) (Nat.le_refl _) (.int .i64 kind)) (Nat.le_refl _) (.int .i64 nk)) (Nat.le_refl _) (.int .u64 nn)) (Nat.le_refl _) (.int .i64 ak)) (Nat.le_refl _) (.int .u64 an)) (Nat.le_refl _) (.bool (s3==tt))) (Nat.le_refl _) (.int .u64 at_)) (Nat.le_refl _) (.int .i64 tr)) (Nat.le_refl _) (.int .u64 last)) (Nat.le_refl _) (.string ⟨s7.toArray⟩))
  generalize ((((((((((w10.setCell ⟨w.heap.size,0,none⟩ (.int .i64 kind)).setCell ⟨w.heap.size,1,none⟩ (.int .i64 nk)).setCell ⟨w.heap.size,2,none⟩ (.int .u64 nn)).setCell ⟨w.heap.size,3,none⟩ (.int .i64 ak)).setCell ⟨w.heap.size,4,none⟩ (.int .u64 an)).setCell ⟨w.heap.size,5,none⟩ (.bool (s3==tt))).setCell ⟨w.heap.size,6,none⟩ (.int .u64 at_)).setCell ⟨w.heap.size,7,none⟩ (.int .i64 tr)).setCell ⟨w.heap.size,8,none⟩ (.int .u64 last)).setCell ⟨w.heap.size,9,none⟩ (.string ⟨s7.toArray⟩))=Wf at *;have p0:=bF.cell 0 (v:=.int .i64 kind) rfl;have p1:=bF.cell 1 (v:=.int .i64 nk) rfl;have p2:=bF.cell 2 (v:=.int .u64 nn) rfl;have p3:=bF.cell 3 (v:=.int .i64 ak) rfl;have p4:=bF.cell 4 (v:=.int .u64 an) rfl;have p5:=bF.cell 5 (v:=.bool (s3==tt)) rfl;have p6:=bF.cell 6 (v:=.int .u64 at_) rfl;have p7:=bF.cell 7 (v:=.int .i64 tr) rfl;have p8:=bF.cell 8 (v:=.int .u64 last) rfl;have p9:=bF.cell 9 (v:=.string ⟨s7.toArray⟩) rfl;exact bodyPost_ret (v:=.tuple #[.agg #[.int .i64 kind,.int .i64 nk,.int .u64 nn,.int .i64 ak,.int .u64 an,.bool (s3==tt),.int .u64 at_,.int .i64 tr,.int .u64 last,.string ⟨s7.toArray⟩],.bool true]) (by simp [results,results215,go_sem,p0,p1,p2,p3,p4,p5,p6,p7,p8,p9]) rfl ⟨rfl,hBf⟩
end Go.Proofs
namespace Go.Proofs
open Go.RowKit Go.Sort Go.Lib Go.Shelf Go.Maps
theorem nDigits_ten {u:Nat} (h:u≤1000000000):Lib.nDigits u≤10:=by
 rcases Nat.lt_or_ge u 1000000000 with h1 | h1
 ·have key:∀(k u:Nat),u<10 ^ (k+1)→Lib.nDigits u≤k+1:=fun k=>by
   induction k with
   | zero=>intro u hu;rw [Lib.nDigits_small (by simpa using hu)];exact Nat.le_refl _
   | succ k ih =>
    intro u hu
    by_cases hs:u<10
    ·rw [Lib.nDigits_small hs];omega
    ·rw [Lib.nDigits_big hs]
     have:=ih (u / 10) (by rw [Nat.pow_succ] at hu;omega);omega
  have:=key 8 u (by simpa using h1);omega
 ·exact Nat.le_of_eq (Lib.nDigits_unique 9 u (by simpa using h1) (by omega))
theorem dec_len (u:Nat) (h:u<18446744073709551616):(Lib.decDigits u).length≤20:=by rw [Lib.decDigits_length];exact Lib.nDigits_le20 u h
theorem itoa_small {n:Int} (h0:0≤n) (h1:n≤1000000000):(Lib.itoa n).length≤18:=by
 obtain⟨u,rfl⟩:∃ u:Nat,n=u:=⟨n.toNat,by omega⟩
 unfold Lib.itoa;rw [if_neg (by omega)]
 have:(Lib.decDigits u).length≤10:=by
  rw [Lib.decDigits_length];exact nDigits_ten (by omega)
 simpa using Nat.le_trans this (by decide)
theorem Tryz.parseOne (r:RecD) (hr:r.Back) (w:World) (hE:Env w) (h9:9≤w.heap.size) (hG:ErrT w) :
  Calls prog 215 #[.string ⟨(recStr r).toArray⟩] w fun e w'=>e=.returned (.tuple #[.agg r.cells,.bool true])∧Below w.heap.size w w':=by
 have hok:=hr.ok;have hlen:=recStr_len hok;have a0:=hok.t0;have a1:=hok.t1;have b0:=hok.l0;have b1:=hok.l1;have n1:=hok.n1;have m1:=hok.a1;have h6:6≤w.heap.size:=Nat.le_trans (by decide) h9;have d4:=dec_len r.at_.toNat (by omega);have d6:=dec_len r.last.toNat (by omega);have l1:=nmStr_len r.nk r.nn n1;have l2:=nmStr_len r.ak r.an m1;have ek:=itoa_small hr.k.1 (by have:=hr.k.2;omega);have et:=itoa_small hr.t.1 hr.t.2
 have v4:puV (Lib.decDigits r.at_.toNat)=r.at_:=by rw [puV_dec _ (by omega)];omega
 have v6:puV (Lib.decDigits r.last.toNat)=r.last:=by rw [puV_dec _ (by omega)];omega
 have hN:∀(k:Int) (u:Nat),NmA k u→u<18446744073709551616→(nmStr k u).length≤21→∀ W,Below w.heap.size w W→Calls prog 63 #[.string ⟨(nmStr k u).toArray⟩] W fun e w'=>e=.returned (.agg #[.int .i64 k,.int .u64 (u:Int)])∧Below W.heap.size W w':=fun k u hk hu hl W hb=>by
  have h:=parse ⟨(nmStr k u).toArray⟩ (by show (nmStr k u).toArray.size≤1000000;simp;omega) W (hE.below hb h6) (Nat.le_trans h6 hb.size);simp only at h;rw [parse_nm hk hu] at h;exact h
 have hP:∀(s:List UInt8) (v:Int),s.length≤20→puV s=v→∀ W,Below w.heap.size w W→Calls prog 118 #[.string ⟨s.toArray⟩,.int .i64 10,.int .i64 64] W fun e w'=>∃ er,e=.returned (.tuple #[.int .u64 v,er])∧Below W.heap.size W w':=fun s v hl hv W hb=>by
  have h:=parseU s (by omega) W (hE.below hb h6);rw [hv] at h;exact h
 have hb:(Lib.formatBool r.pd==Lib.formatBool true)=r.pd:=bool_back r.pd
 have hS:=fun W (hb:Below w.heap.size w W)=>split1 (recStr r) 32 W (by omega) (hG.below (hb.mono h9)) _ (rec_split hr.p)
 have key:=parseOneG (recStr r) (Lib.itoa r.kind) (nmStr r.nk r.nn) (nmStr r.ak r.an) (Lib.formatBool r.pd) (Lib.decDigits r.at_.toNat) (Lib.itoa r.tr) (Lib.decDigits r.last.toNat) r.pth (Lib.formatBool true) r.kind r.at_ r.tr r.last r.nk r.nn r.ak r.an w
  hS
  (fun W=>atoi _ _ ek (atoi_itoa hr.k.1) W)
  (hP _ _ d4 v4)
  (fun W=>atoi _ _ et (atoi_itoa hr.t.1) W)
  (hP _ _ d6 v6)
  (hN _ _ hr.n n1 l1)
  (hN _ _ hr.a m1 l2)
  (fun W=>fmtBool true W)
  (fun W=>clone r.pth (by have:=hok.p1;omega) W)
  (fun W hb'=>by
   rw [hb]
   exact recString r hok W (hE.below hb' h6) (Nat.le_trans h6 hb'.size))
 rw [hb] at key;exact key
end Go.Proofs
