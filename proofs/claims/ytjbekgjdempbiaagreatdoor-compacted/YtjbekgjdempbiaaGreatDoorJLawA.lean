import Derived.Test.YtjbekgjdempbiaaGreatDoorJSq
import Derived.Test.YtjbekgjdempbiaaGreatDoorJRefP
import Derived.Test.YtjbekgjdempbiaaGreatDoorJValid
import Derived.Test.YtjbekgjdempbiaaGreatDoorJCOpnB
import Derived.Test.YtjbekgjdempbiaaGreatDoorJCCntA
import Derived.Lib.SplitLaws
import Derived.StringKeys
import Derived.Test.YtjbekgjdempbiaaGreatDoorJCTkC
import Derived.Test.YtjbekgjdempbiaaGreatDoorJRefF
import Derived.Lib.Atoi
import Derived.Test.YtjbekgjdempbiaaGreatDoorJCWhole
import Derived.Test.YtjbekgjdempbiaaGreatDoorJSets
import Derived.Test.YtjbekgjdempbiaaGreatDoorJCVKeep
import Derived.RangeFuncCalls
import Derived.Test.YtjbekgjdempbiaaGreatDoorJLay3
import Derived.Test.YtjbekgjdempbiaaGreatDoorJCRecQ
import Derived.Lib.ItoaLen
import Derived.Test.YtjbekgjdempbiaaGreatDoorJMapN
import Derived.Carry
import Derived.Maps.RangeWalk
import Derived.Test.YtjbekgjdempbiaaGreatDoorJCVRenew
import Derived.Test.YtjbekgjdempbiaaGreatDoorJRefJ
import Derived.Test.YtjbekgjdempbiaaGreatDoorJRefE
set_option maxRecDepth 100000
set_option maxHeartbeats 8000000
namespace Go.Proofs
open Go.RowKit Go.Sort Go.Lib Go.Shelf
theorem Xhn (l:List UInt8) (n:Nat):(⟨l.toArray⟩:ByteArray).extract 0 n=⟨(l.take n).toArray⟩:=by
 apply ByteArray.ext;rw [ByteArray.data_extract];simp
def beginsB (p pre:List UInt8):Bool:=pre.isEmpty||p==pre||(decide (pre.length<p.length)&&p.take pre.length==pre&&p[pre.length]? == some 47)
def mixI {α:Type} (f:α->α) (k:Nat) (L:List α):List α:=(L.take k).map f++L.drop k
end Go.Proofs
namespace Go.Proofs
open Go.RowKit Go.Sort Go.Lib Go.Shelf Go.Maps
theorem Xg2 (p:List UInt8) (n:Nat):(⟨p.toArray⟩:ByteArray).extract n p.length=⟨(p.drop n).toArray⟩:=by
 apply ByteArray.ext;rw [ByteArray.data_extract];simp;exact List.take_of_length_le (by simp)
theorem Tryz.Xoi (p pre:List UInt8) (w:World) :
  Calls prog 204 #[.string ⟨p.toArray⟩,.string ⟨pre.toArray⟩] w fun e w'=>e=.returned (.bool (p.take pre.length==pre))/\w'=w:=by
 have hx:=Xhn p pre.length
 by_cases h2:pre.length<=p.length
 ·have h2':(pre.length:Int)<=(p.length:Int):=by omega
  by_cases h3:p.take pre.length=pre
  ·have h3':(p.take pre.length==pre)=true:=by simpa using h3
   rw [h3'];rw [h3] at hx;go_enter func204,ntmps204;go_wp2;go_ret;exact⟨rfl,rfl⟩
  have h3':(p.take pre.length==pre)=false:=by simpa using h3
  rw [h3'];go_enter func204,ntmps204;go_wp2;go_ret;exact⟨rfl,rfl⟩
 have h2':¬ (pre.length:Int)<=(p.length:Int):=by omega
 have h3':(p.take pre.length==pre)=false:=by
  rw [beq_eq_false_iff_ne];intro e;have:=congrArg List.length e;simp at this;omega
 rw [h3'];go_enter func204,ntmps204;go_wp2;go_ret;exact⟨rfl,rfl⟩
theorem Vx {c:UInt8}:∀ {l:List UInt8},c∉l->Lib.index l [c] = -1
 | [],_=>rfl
 | b :: l,h=>by
  have hb:¬ c=b:=fun e=>h (by simp [e])
  have hl:c∉l:=fun e=>h (by simp [e])
  unfold Lib.index;rw [if_neg (by simp [List.isPrefixOf,hb]),Vx hl];rfl
theorem Xb1 {c:UInt8} {b:List UInt8}:∀ {a:List UInt8},c∉a->Lib.index (a++c :: b) [c]=a.length
 | [],_=>by
  show Lib.index (c :: b) [c]=0
  unfold Lib.index;rw [if_pos (by simp [List.isPrefixOf])]
 | x :: a,h=>by
  have hb:¬ c=x:=fun e=>h (by simp [e])
  have hl:c∉a:=fun e=>h (by simp [e])
  show Lib.index (x :: (a++c :: b)) [c]=_
  unfold Lib.index;rw [if_neg (by simp [List.isPrefixOf,hb]),Xb1 hl,if_neg (by simp)];simp
theorem Xbe {c:UInt8} {l:List UInt8} (h:c∉l):Lib.split l [c] = [l]:=by
 unfold Lib.split;rw [Lib.count_miss (Vx h)];rfl
theorem Xda {c:UInt8} {a b:List UInt8} (h:c∉a):Lib.split (a++c :: b) [c]=a :: Lib.split b [c]:=by
 have hi:=Xb1 (b:=b) h
 have hd:(a++c :: b).drop (a.length + [c].length)=b:=by
  rw [show a++c :: b=(a ++ [c])++b by simp,List.drop_left' (by simp)]
 unfold Lib.split;rw [Lib.count_hit (by simp) hi,hd,Nat.add_comm 1]
 show (if Lib.index (a++c :: b) [c] == -1 then _ else _)=_
 rw [if_neg (by rw [hi];simp),hi]
 have e:(((a.length:Nat):Int)).toNat=a.length:=by simp
 rw [e,hd,Nat.add_zero,List.take_left]
theorem Vt {c:UInt8}:∀ {xs:List (List UInt8)},xs ≠ []->(∀ x∈xs,c∉x)->Lib.split (Lib.join xs [c]) [c]=xs
 | [],h,_=>absurd rfl h
 | [x],_,h=>by
  show Lib.split ([c].intercalate [x]) [c] = [x]
  rw [show [c].intercalate [x]=x by simp [List.intercalate]];exact Xbe (h x (by simp))
 | x :: y :: xs,_,h=>by
  have ih:=Vt (xs:=y :: xs) (by simp) (fun z hz=>h z (List.mem_cons_of_mem _ hz))
  have e:Lib.join (x :: y :: xs) [c]=x++c :: Lib.join (y :: xs) [c]:=by simp [Lib.join,List.intercalate,List.intersperse]
  rw [e,Xda (h x (by simp)),ih]
theorem Xd9 {c:UInt8} {a b:List UInt8} (h:c∉a):Lib.cut (a++c :: b) [c]=(a,b,true):=by
 have hi:=Xb1 (b:=b) h;unfold Lib.cut;rw [if_pos (by rw [hi];omega),hi]
 have e:(((a.length:Nat):Int)).toNat=a.length:=by simp
 rw [e,List.take_left,show a++c :: b=(a ++ [c])++b by simp,List.drop_left' (by simp)]
def bodyL (t:List UInt8):List UInt8:=Lib.decDigits t.length++32 :: (Lib.decDigits (sumI t).toNat++32 :: t)
theorem Zy (t:List UInt8):lineL t=10 :: bodyL t:=rfl
theorem Ms {c:UInt8} (hc:c.toNat<48) (u:Nat):c∉Lib.decDigits u:=by
 induction u using Nat.strongRecOn with
 | ind u ih =>
  have one:∀ d,d<10->c≠UInt8.ofNat (48+d):=fun d hd e=>by
   have:=congrArg UInt8.toNat e;simp at this;omega
  by_cases h:u<10
  ·rw [Lib.decDigits_one h]
   intro hm;exact one u h (List.mem_singleton.1 hm)
  rw [Lib.decDigits,dif_neg h];intro hm
  rcases List.mem_append.1 hm with hm | hm
  ·exact ih (u / 10) (by omega) hm
  exact one (u % 10) (by omega) (List.mem_singleton.1 hm)
theorem V7 (u:Nat) (h:u<18446744073709551616):puV (Lib.decDigits u)=u:=by
 unfold puV;rw [Xaf u h]
theorem Vy (t:List UInt8) (ht:t.length<18446744073709551616):wholeB (bodyL t)=true/\txtL (bodyL t)=t:=by
 have h1:=Xd9 (b:=Lib.decDigits (sumI t).toNat++32 :: t) (Ms (c:=32) (by decide) t.length);have h2:=Xd9 (b:=t) (Ms (c:=32) (by decide) (sumI t).toNat);obtain⟨s0,s1⟩:=Xab t
 have htx:txtL (bodyL t)=t:=by
  unfold txtL bodyL;rw [h1,h2]
 refine⟨?_,htx⟩;unfold wholeB;rw [htx];unfold bodyL;rw [h1]
 show (puV (Lib.decDigits t.length)==(t.length:Int)&&puV (Lib.cut (Lib.decDigits (sumI t).toNat++32 :: t) [32]).1==sumI t)=true
 rw [h2,V7 _ ht,V7 _ (by omega)]
 have:(((sumI t).toNat:Nat):Int)=sumI t:=by omega
 simp [this]
theorem Xe1:∀(ts:List (List UInt8)),(∀ t∈ts,(10:UInt8)∉t)->Lib.split (ts.flatMap lineL) [10] = [] :: ts.map bodyL:=by
 have hno:∀ t:List UInt8,(10:UInt8)∉t->(10:UInt8)∉bodyL t:=fun t h hm=>by
  unfold bodyL at hm
  rcases List.mem_append.1 hm with hm | hm
  ·exact Ms (by decide) _ hm
  rcases List.mem_cons.1 hm with hm | hm
  ·cases hm
  rcases List.mem_append.1 hm with hm | hm
  ·exact Ms (by decide) _ hm
  rcases List.mem_cons.1 hm with hm | hm
  ·cases hm
  exact h hm
 have hstep:∀(ts:List (List UInt8)) (a:List UInt8),(10:UInt8)∉a->(∀ t∈ts,(10:UInt8)∉t)->Lib.split (a++ts.flatMap lineL) [10]=a :: ts.map bodyL:=fun ts=>by
  induction ts with
  | nil=>intro a ha _;simpa using Xbe ha
  | cons t ts ih =>
   intro a ha h;rw [List.flatMap_cons,Zy,List.cons_append,Xda ha,ih (bodyL t) (hno t (h t (by simp))) (fun x hx=>h x (List.mem_cons_of_mem _ hx))];rfl
 intro ts h
 simpa using hstep ts [] (by simp) h
end Go.Proofs
namespace Go.Proofs
open Go.RowKit Go.Sort Go.Lib Go.Shelf Go.Maps Go.WideMaps
theorem Tryz.Xhj (v:Value) (w:World):Calls prog 254 #[v,.int .i64 0,.int .i64 1] w fun e w'=>e=.returned (.tuple #[])/\w'=w:=by
 go_enter func254,ntmps254;go_wp2;refine wp_loop_rounds 1 ?_;rw [rounds_succ];go_wp2
 go_end0
 exact⟨rfl,rfl⟩
theorem Tryz.Xgs (v:Value) (w:World) (lim:Int):Calls prog 232 #[v,.int .i64 0,.int .i64 1,.int .i64 lim] w fun e w'=>e=.returned (.tuple #[])/\w'=w:=by
 have hI:=fun W=>Xhj v W
 go_enter func232,ntmps232;go_wp2;refine wp_loop_rounds 1 ?_;rw [rounds_succ]
 go_wp2_with (go_at_call 254;refine(hI _).mono ?_;rintro e w1 ⟨rfl,rfl⟩)
 exact bodyPost_ret (v:=.tuple #[]) (by simp [results,results232,go_sem]) rfl ⟨rfl,rfl⟩
theorem Tryz.Xgv (v:Value) (w:World):Calls prog 317 #[v,.int .i64 0,.int .i64 1] w fun e w'=>e=.returned (.tuple #[])/\w'=w:=by
 go_enter func317,ntmps317;go_wp2;refine wp_loop_rounds 1 ?_;rw [rounds_succ];go_wp2
 go_end0
 exact⟨rfl,rfl⟩
theorem Tryz.Xhh (v:Value) (w:World) (lim:Int):Calls prog 316 #[v,.int .i64 0,.int .i64 1,.int .i64 lim] w fun e w'=>e=.returned (.tuple #[])/\w'=w:=by
 have hI:=fun W=>Xgv v W
 go_enter func316,ntmps316;go_wp2;refine wp_loop_rounds 1 ?_;rw [rounds_succ]
 go_wp2_with (go_at_call 317;refine(hI _).mono ?_;rintro e w1 ⟨rfl,rfl⟩)
 exact bodyPost_ret (v:=.tuple #[]) (by simp [results,results316,go_sem]) rfl ⟨rfl,rfl⟩
theorem Tryz.Xe3 (w:World):Calls prog 226 #[.int .u64 1] w fun e w'=>(∃ z:Int,e=.returned (.int .i64 z))/\w'=w:=by
 go_enter func226,ntmps226;go_wp2;go_ret;exact⟨⟨_,rfl⟩,rfl⟩
theorem Tryz.Xfh (p:Option Addr) (cap:Nat) (w:World):Calls prog 211 #[.slice p 1 cap] w fun e w'=>e=.returned (.tuple #[])/\w'=w:=by
 have hL:=fun W=>Xe3 W
 have hI:=fun W lim=>Xgs (.slice p 1 cap) W lim
 go_enter func211,ntmps211
 go_wp2_with (first
  | (go_at_call 226;refine(hL _).mono ?_;rintro e w1 ⟨⟨z,rfl⟩,rfl⟩)
  | (go_at_call 232;refine(hI _ _).mono ?_;rintro e w2 ⟨rfl,rfl⟩))
 go_end0
 exact⟨rfl,rfl⟩
theorem Tryz.Xcl (p:Option Addr) (cap:Nat) (w:World):Calls prog 315 #[.slice p 1 cap] w fun e w'=>e=.returned (.tuple #[])/\w'=w:=by
 have hL:=fun W=>Xe3 W
 have hI:=fun W lim=>Xhh (.slice p 1 cap) W lim
 go_enter func315,ntmps315
 go_wp2_with (first
  | (go_at_call 226;refine(hL _).mono ?_;rintro e w1 ⟨⟨z,rfl⟩,rfl⟩)
  | (go_at_call 316;refine(hI _ _).mono ?_;rintro e w2 ⟨rfl,rfl⟩))
 go_end0
 exact⟨rfl,rfl⟩
theorem Tryz.Xa2 (p:Option Addr) (cap:Nat) (w:World):Calls prog 312 #[.slice p 1 cap] w fun e w'=>e=.returned (.tuple #[])/\w'=w:=by
 have hI:=fun W=>Xcl p cap W
 go_enter func312,ntmps312
 go_wp2_with (go_at_call 315;refine(hI _).mono ?_;rintro e w2 ⟨rfl,rfl⟩)
 go_end0
 exact⟨rfl,rfl⟩
def restN (n:Nat):List UInt8:=if n=0 then [] else Lib.decDigits n
theorem Vr (n:Nat):fileN n=jName++restN n:=by
 unfold fileN restN
 split <;> simp
theorem Xf2 (ds:List UInt8):(⟨(jName++ds).toArray⟩:ByteArray).extract 7 (7+ds.length)=⟨ds.toArray⟩:=by
 have h:=Xg2 (jName++ds) 7;rw [show (jName++ds).length=7+ds.length by simp [jName];omega,show (jName++ds).drop 7=ds from List.drop_left' rfl] at h;exact h
theorem Tryz.trimL (ds:List UInt8) (hd:ds.length<=100) (w:World):Calls prog 253 #[.string ⟨(jName++ds).toArray⟩,.string ⟨#[106,111,117,114,110,97,108]⟩] w fun e w'=>e=.returned (.string ⟨ds.toArray⟩)/\w'=w:=by
 have hH:∀ W,Calls prog 204 #[.string ⟨(jName++ds).toArray⟩,.string ⟨#[106,111,117,114,110,97,108]⟩] W fun e w'=>e=.returned (.bool true)/\w'=W:=fun W=>by
  have h:=Xoi (jName++ds) jName W;rw [show ((jName++ds).take jName.length==jName)=true by simp] at h;exact h
 have hx:=Xf2 ds
 have hz:(⟨(jName++ds).toArray⟩:ByteArray).size=7+ds.length:=by simp [ByteArray.size,jName];omega
 generalize (⟨(jName++ds).toArray⟩:ByteArray)=s at *;go_enter func253,ntmps253
 go_wp2_with (go_at_call 204;refine(hH _).mono ?_;rintro e w1 ⟨rfl,rfl⟩)
 go_ret;exact⟨rfl,rfl⟩
theorem Tryz.trimP (ds:List UInt8) (hd:ds.length<=100) (w:World):Calls prog 231 #[.string ⟨(jName++ds).toArray⟩,.string ⟨#[106,111,117,114,110,97,108]⟩] w fun e w'=>e=.returned (.string ⟨ds.toArray⟩)/\w'=w:=by
 have hT:=fun W=>trimL ds hd W
 generalize (⟨(jName++ds).toArray⟩:ByteArray)=s at *;go_enter func231,ntmps231
 go_wp2_with (go_at_call 253;refine(hT _).mono ?_;rintro e w1 ⟨rfl,rfl⟩)
 go_ret;exact⟨rfl,rfl⟩
theorem Xi2 (n:Nat) (hn:n<18446744073709551616):(restN n).length<=20:=by
 unfold restN
 split
 ·decide
 rw [Lib.decDigits_length];exact Lib.nDigits_le20 n hn
theorem Xbg (n:Nat) (hn:n<18446744073709551616):puV (restN n)=n:=by
 unfold restN
 split
 ·subst_vars;decide
 exact V7 n hn
theorem Tryz.numberOf (n:Nat) (hn:n<18446744073709551616) (w:World) (hE:Env w) (h6:6<=w.heap.size):Calls prog 210 #[.string ⟨(fileN n).toArray⟩] w fun e w'=>e=.returned (.tuple #[.int .u64 (n:Int),.bool true])/\Below w.heap.size w w':=by
 have hl:=Xi2 n hn;have hP:=Xei (restN n) (by omega) w hE;rw [Xbg n hn] at hP
 have hT:=fun W=>trimP (restN n) (by omega) W
 rw [<- Vr] at hT
 have hF:=fun W (hb:Below w.heap.size w W)=>Xb5 n hn W (hE.below hb h6)
 generalize (⟨(fileN n).toArray⟩:ByteArray)=s at *;generalize restN n=ds at *;clear hl;go_enter func210,ntmps210
 go_wp2_with (first
  | (go_at_call 231;refine(hT _).mono ?_;rintro e w1 ⟨rfl,rfl⟩)
  | (go_at_call 118;refine hP.mono ?_;rintro e w2 ⟨er,rfl,hb2⟩)
  | (go_at_call 175;refine(hF _ hb2).mono ?_;rintro e w3 ⟨rfl,hb3⟩))
 go_ret2
 exact⟨rfl,hb2.trans (hb3.mono hb2.size)⟩
theorem Tryz.Xnr:(prog.info? 31).map (fun i=>(i.zero,i.size,i.bytes))=some (some (.int .u64 0),1,8):=by kernel_rfl
theorem Tryz.Xcg (db md mn n m:Nat) (hn:n<1000000) (hm:m<1000000) (Dd Dn:DataW Value) (hK:Xau Dn (fileN n) (fileN m)) (l f:Int) (w:World) (hD:DiskD w db md mn Dd Dn (.slice none 0 0) l f) (hE:Env w) (h6:6<=w.heap.size) :
  Calls prog 180 #[Xw db] w fun e w'=>∃ g cap,e=.returned (.tuple #[.slice (some ⟨g,0,none⟩) 2 cap,.nilIface])/\Ji w' g (.int .u64 (n:Int)) (.int .u64 (m:Int))/\(w.heap.size<=g/\g<w'.heap.size)/\Below w.heap.size w w':=by
 have hmm:=fun W=>J8 db W
 have hN:=Xhg db md mn Dd Dn _ _ hK l f w hD
 have hO:=fun(p:Nat) (hp:p<1000000) W (hb:Below w.heap.size w W)=>numberOf p (by omega) W (hE.below hb h6) (Nat.le_trans h6 hb.size)
 obtain⟨i0,hi,hz0,hz1,hz2⟩:=info_parts Xnr;unfold Xw;go_enter func180,ntmps180
 go_wp2_with (go_at_call 306;refine hN.mono ?_;rintro e w1 ⟨g,cap,rfl,hT1,hgl,hb1⟩)
 obtain⟨p,q,hpq,hp,hq,g0,g1⟩:∃ p q:Nat,((p=n/\q=m)\/(p=m/\q=n))/\p<1000000/\q<1000000/\w1.cell? ⟨g,0,none⟩=some (.string ⟨(fileN p).toArray⟩)/\w1.cell? ⟨g,1,none⟩=some (.string ⟨(fileN q).toArray⟩):=by
  rcases hT1 with⟨h0,h1⟩ | ⟨h0,h1⟩
  ·exact⟨n,m,.inl ⟨rfl,rfl⟩,hn,hm,h0,h1⟩
  exact⟨m,n,.inr ⟨rfl,rfl⟩,hm,hn,h0,h1⟩
 have hOp:=hO p hp w1 hb1;have HO:=Xb (hO q hq);clear hT1 hN hO;generalize (⟨(fileN p).toArray⟩:ByteArray)=sp at *;refine wp_loop_rounds 3 ?_;rw [rounds_succ]
 go_wp2_with (first
  | (go_at_call 210;refine hOp.mono ?_;rintro e w2 ⟨rfl,hb2⟩)
  | (at_builtin;refine wpList_append_lies _ rfl _ _ 272 rfl w.heap.size 31 i0 _ 1 8 underlying272 hi hz0 hz1 hz2 rfl (by decide) (.slice none 0 0) 0 [] rfl (World.ownsRow_nil _ _ _ _) ⟨w2.heap.size,0,none⟩ 1 1 [.int .u64 (p:Int)] rfl rfl (Xbc _ _ _) (by simp [Value.oneCell']) (by omega) (by unfold maxLen;omega) (by omega) (by have:=hb1.size;have:=hb2.size;simp;omega) _ rfl ?_;intro g3 cap3 w3 hr3 hg3 hat3 hlt3))
 simp only [List.nil_append] at hr3;have hB2:=hb1.trans (hb2.mono hb1.size);have hz2':=hB2.size;have hB3:=(hB2.alloc hB2.size (.cells #[.int .u64 (p:Int)] 31)).grown hg3 (by simp;omega) (by simp [Value.ownBlock])
 have g1':w3.cell? ⟨g,1,none⟩=some (.string ⟨(fileN q).toArray⟩):=by
  have hl2:=Nat.lt_of_lt_of_le hgl hb2.size;have h1:=(cell_of_block (hg3.block g (by simp;omega) (by simp [Value.ownBlock])) 1).1;have h2:=(cell_of_block (W:=w2) (W':=w2.alloc (.cells #[.int .u64 (p:Int)] 31)) (k:=g) (((Below.refl _ w2).alloc (Nat.le_refl _) _).block g hl2) 1).1;exact h1.trans (h2.trans ((cell_of_block (hb2.block g hgl) 1).1.trans g1))
 have hg3a:w2.heap.size<g3\/True:=.inr trivial;have hOq:=Xa HO w3 hB3
 have hl3:g<w3.heap.size:=by have:=hg3.size;have:=hb2.size;simp at *;omega
 have HB3:=Xb hB3;clear hb2 hB2 hB3 hg3 hat3 hOp g0 g1 HO hb1 hgl hg3a;generalize (⟨(fileN q).toArray⟩:ByteArray)=sq at *;rw [rounds_succ]
 go_wp2_with (first
  | (go_at_call 210;refine hOq.mono ?_;rintro e w4 ⟨rfl,hb4⟩;have hr4:=ownsRow_below hr3 hb4;have hr4:=hr4.alloc (.cells #[.int .u64 (q:Int)] 31))
  | (at_builtin;refine wpList_append_lies _ rfl _ _ 272 rfl w.heap.size 31 i0 _ 1 8 underlying272 hi hz0 hz1 hz2 rfl (by decide) (.slice (some ⟨g3,0,none⟩) 1 cap3) 1 [.int .u64 (p:Int)] rfl hr4 ⟨w4.heap.size,0,none⟩ 1 1 [.int .u64 (q:Int)] rfl rfl (Xbc _ _ _) (by simp [Value.oneCell']) (by omega) (by unfold maxLen;omega) (by omega) (by have:=(Xa HB3).size;have:=hb4.size;simp;omega) _ rfl ?_;intro g5 cap5 w5 hr5 hg5 hat5 hlt5))
 simp only [List.singleton_append] at hr5;have hz3:=(Xa HB3).size;have hB4:=(Xa HB3).trans (hb4.mono hz3);have hgB3:w.heap.size<=g3:=(Xn hr4 rfl).1;have hB5:=(hB4.alloc hB4.size (.cells #[.int .u64 (q:Int)] 31)).grown hg5 (by have:=hB4.size;simp;omega) (fun z hz=>by simp [Value.ownBlock] at hz;omega);obtain⟨hT5,hgl5,hgB⟩:=Xio hr5;have hS:=Xe4 g5 cap5 (p:Int) (q:Int) w5 hT5;have HB5:=Xb hB5;clear hB4 hB5 HB3 hb4 hg5 hat5 hT5 hr5 hr4 hr3 hOq;rw [rounds_succ]
 go_wp2_with (go_at_call 211;refine hS.mono ?_;rintro e w6 ⟨rfl,hT6,hS6⟩)
 have hB6:=(Xa HB5).trans (hS6.below (Xa HB5).size (fun b hb=>by simp at hb;omega))
 have hT:Ji w6 g5 (.int .u64 (n:Int)) (.int .u64 (m:Int)):=by
  rcases hpq with⟨rfl,rfl⟩ | ⟨rfl,rfl⟩
  ·exact hT6
  exact hT6.symm
 go_ret2
 exact⟨_,_,rfl,hT,⟨hgB,Nat.lt_of_lt_of_le hgl5 hS6.size⟩,hB6⟩
theorem Tryz.Xch (db:Nat) (w:World):Sem.run prog (method 517 74 (.pointer (some ⟨db,0,none⟩)) "Remove") w=.ok (308,.pointer (some ⟨db,0,none⟩)) w:=by kernel_rfl
theorem Tryz.Xec (jb db md mn n m:Nat) (er:Value) (hn:n<1000000) (hm:m<1000000) (hnm:n≠m) (Dd Dn:DataW Value) (hK:Xau Dn (fileN n) (fileN m)) (hs1:Maps.size Dd<=800) (hs2:Maps.size Dn<=800) (l f:Int) (w:World) (hJ:BoxN w jb 212 #[Xw db,.int .u64 (m:Int),er]) (hD:DiskD w db md mn Dd Dn (.slice none 0 0) l f) (hl:l<0) (hl1 : -999999990<=l) (hf:f<0) (hf1 : -999999990<=f) (hE:Env w) (h6:6<=w.heap.size) :
  Calls prog 176 #[.pointer (some ⟨jb,0,none⟩)] w fun e w'=>e=.returned .nilIface/\DiskD w' db md mn (Dd.del (.string (fileN n))) (Dn.del (.string (fileN n))) (.slice none 0 0) (l-2) (f-2)/\Spares [db,md,mn] w w':=by
 have j0:=hJ.cell 0 (v:=Xw db) rfl;have j1:=hJ.cell 1 (v:=.int .u64 (m:Int)) rfl;have hN:=Xcg db md mn n m hn hm Dd Dn hK l f w hD hE h6;unfold Xw at j0 hN;have lJ:=hJ.lt;have lD:=hD.lt
 have hmr:=fun W=>Xch db W
 have hms:=fun W=>Jp db W
 have hjn:jb ∉ [db,mn]:=by
  obtain⟨nm,hnm,hMm⟩:=hD.nm;have h1:=hJ.ne hD.box (by decide);have h2:=BoxN.Xl hJ hMm;simp;exact⟨h1,Ne.symm h2⟩
 have hfl:=M0 n (by omega)
 have hF:=fun W (hb:Below w.heap.size w W)=>Xb5 n (by omega) W (hE.below hb h6)
 have hR:=fun W (hb:Below w.heap.size w W)=>Xmy db md mn (fileN n) (by omega) Dd Dn hK.ha hs2 l f W (hD.below hb) hl (by omega) hf (by omega)
 have hSy:=fun W g cap B (hD:DiskD W db md mn Dd (Dn.del (.string (fileN n))) (.slice (some ⟨g,0,none⟩) 1 cap) (l-1) (f-1)) hR hg=>Xlv db md mn g cap B 3 (.inr rfl) (fileN n) [] (by omega) Dd (Dn.del (.string (fileN n))) hs1 (l-1) (f-1) W hD (by omega) (by omega) (by omega) (by omega) hR hg
 change ∀ W g cap B,_->W.ownsRow B 172 3 (.slice (some ⟨g,0,none⟩) 1 cap) 1 [.int .i64 3,.string ⟨(fileN n).toArray⟩,.string ⟨#[]⟩]->db≠g->Calls prog 309 _ W (fun e w'=>e=.returned .nilIface/\∃ b,_/\_/\DiskD w' db md mn (Dd.del (.string (fileN n))) (Dn.del (.string (fileN n))) (.slice none 0 0) (l-1-1) (f-1-1)/\Spares [db,md] W w') at hSy
 rw [show l-2=l-1-1 by omega,show f-2=f-1-1 by omega]
 have e1:((n:Int)==(m:Int))=false:=by rw [beq_eq_false_iff_ne];omega
 have hP:∀ W,Below w.heap.size w W->JP jb (.iface 74 (.pointer (some ⟨db,0,none⟩))) m W:=fun W hb=>⟨cell_later hb j0,cell_later hb j1⟩
 generalize Dd.del (.string (fileN n))=Dd' at *;generalize Dn.del (.string (fileN n))=Dn' at *;generalize (⟨(fileN n).toArray⟩:ByteArray)=sn at *;clear hs1 hs2 hE hK hfl;go_enter func176,ntmps176
 go_wp2_with (go_at_call 180;refine hN.mono ?_;rintro e w1 ⟨g,cap,rfl,hT1,⟨hg0,hgl⟩,hb1⟩)
 clear hN;have hz1:=hb1.size;have j01:=cell_later hb1 j0;have j11:=cell_later hb1 j1;have hb0:Below w.heap.size w w1.drew:=hb1.drew;have HP0:=hP _ hb0
 have hngd:g ∉ [db,mn]:=by simp;omega
 rcases hT1 with⟨g0,g1⟩ | ⟨g0,g1⟩
 focus
  refine wp_loop_rounds 3 ?_;rw [rounds_succ]
  go_wp2_with fail
  refine wp_region_held_drew (S:=JP jb (.iface 74 (.pointer (some ⟨db,0,none⟩))) m) (by kernel_rfl) HP0 (fun hS0=>?_);refine Xt 0 ?v0 rfl ?y0 hS0 ?_
  case y0=>(rintro w ⟨q0,q1⟩;go_simp;try with_reducible rfl)
  refine Xt 1 ?v1 rfl ?y1 hS0 ?_
  case y1=>(rintro w ⟨q0,q1⟩;go_simp;try with_reducible rfl)
  refine Xt 2 ?v2 rfl ?y2 hS0 ?_
  case y2=>(rintro w ⟨q0,q1⟩;go_simp;try with_reducible rfl)
  refine Xt 3 ?v3 rfl ?y3 hS0 ?_
  case y3=>(rintro w ⟨q0,q1⟩;go_simp;try with_reducible rfl)
  refine Xt 4 ?v4 rfl ?y4 hS0 ?_
  case y4=>(rintro w ⟨q0,q1⟩;go_simp;try with_reducible rfl)
  refine Xt 6 ?v6 rfl ?y6 hS0 ?_
  case y6=>(rintro w ⟨q0,q1⟩;go_simp;try with_reducible rfl)
  refine Xt 7 ?v7 rfl ?y7 hS0 ?_
  case y7=>(rintro w ⟨q0,q1⟩;go_simp;try with_reducible rfl)
  refine Xh 5 rfl fun K hK=>?_;go_simp;refine(hF _ hb0).mono ?_;rintro e w2 ⟨rfl,hbx⟩;have hb2:Below w.heap.size w w2:=hb0.trans (hbx.mono hb0.size);refine hK.out _ _ (hP _ hb2) (fun hS1=>?_);clear hK K;refine Xh 8 rfl fun K hK=>?_;go_simp;refine(hR _ hb2).mono ?_;rintro e w3 ⟨rfl,g3,cap3,hg3,hD3,hR3,hS3⟩;have hSw:Spares [db,mn] w w3:=(Spares.of_below hb2).trans hS3;have bJ3:=hSw.box hJ hjn;have j03:=bJ3.cell 0 (v:=Xw db) rfl;have j13:=bJ3.cell 1 (v:=.int .u64 (m:Int)) rfl;unfold Xw at j03;refine hK.out _ _ (show JP jb _ m w3 from ⟨j03,j13⟩) (fun hS4=>?_);clear hK K;refine Xt 9 ?v9 rfl ?y9 hS4 ?_
  case y9=>(rintro w ⟨q0,q1⟩;go_simp;try with_reducible rfl)
  refine wpAnyH_done (by kernel_rfl) ?_ _;have hz2:=hb2.size;have hSy3:=hSy w3 g3 cap3 _ hD3 hR3 (by omega);have HS:=Xb hSw;have g1':w3.cell? ⟨g,1,none⟩=some (.int .u64 (m:Int)):=(cell_of_block (hS3.block g (Nat.lt_of_lt_of_le hgl hbx.size) hngd) 1).1.trans ((cell_of_block (hbx.block g hgl) 1).1.trans g1);clear g0 g1;clear hS3 hSw hR3 hD3 hSy hR hF hP HP0 hb2 hb0 hbx hS0 hS1 hS4 bJ3 hmr hz2;go_wp2;rw [rounds_succ]
 rotate_left
 focus
  refine wp_loop_rounds 3 ?_;rw [rounds_succ]
  go_wp2_with fail
  rw [rounds_succ]
  go_wp2_with fail
  refine wp_region_held_drew (S:=JP jb (.iface 74 (.pointer (some ⟨db,0,none⟩))) m) (by kernel_rfl) HP0 (fun hS0=>?_);refine Xt 0 ?v0 rfl ?y0 hS0 ?_
  case y0=>(rintro w ⟨q0,q1⟩;go_simp;try with_reducible rfl)
  refine Xt 1 ?v1 rfl ?y1 hS0 ?_
  case y1=>(rintro w ⟨q0,q1⟩;go_simp;try with_reducible rfl)
  refine Xt 2 ?v2 rfl ?y2 hS0 ?_
  case y2=>(rintro w ⟨q0,q1⟩;go_simp;try with_reducible rfl)
  refine Xt 3 ?v3 rfl ?y3 hS0 ?_
  case y3=>(rintro w ⟨q0,q1⟩;go_simp;try with_reducible rfl)
  refine Xt 4 ?v4 rfl ?y4 hS0 ?_
  case y4=>(rintro w ⟨q0,q1⟩;go_simp;try with_reducible rfl)
  refine Xt 6 ?v6 rfl ?y6 hS0 ?_
  case y6=>(rintro w ⟨q0,q1⟩;go_simp;try with_reducible rfl)
  refine Xt 7 ?v7 rfl ?y7 hS0 ?_
  case y7=>(rintro w ⟨q0,q1⟩;go_simp;try with_reducible rfl)
  refine Xh 5 rfl fun K hK=>?_;go_simp;refine(hF _ hb0).mono ?_;rintro e w2 ⟨rfl,hbx⟩;have hb2:Below w.heap.size w w2:=hb0.trans (hbx.mono hb0.size);refine hK.out _ _ (hP _ hb2) (fun hS1=>?_);clear hK K;refine Xh 8 rfl fun K hK=>?_;go_simp;refine(hR _ hb2).mono ?_;rintro e w3 ⟨rfl,g3,cap3,hg3,hD3,hR3,hS3⟩;have hSw:Spares [db,mn] w w3:=(Spares.of_below hb2).trans hS3;have bJ3:=hSw.box hJ hjn;have j03:=bJ3.cell 0 (v:=Xw db) rfl;have j13:=bJ3.cell 1 (v:=.int .u64 (m:Int)) rfl;unfold Xw at j03;refine hK.out _ _ (show JP jb _ m w3 from ⟨j03,j13⟩) (fun hS4=>?_);clear hK K;refine Xt 9 ?v9 rfl ?y9 hS4 ?_
  case y9=>(rintro w ⟨q0,q1⟩;go_simp;try with_reducible rfl)
  refine wpAnyH_done (by kernel_rfl) ?_ _;have hz2:=hb2.size;have hSy3:=hSy w3 g3 cap3 _ hD3 hR3 (by omega);have HS:=Xb hSw;clear g0 g1;clear hS3 hSw hR3 hD3 hSy hR hF hP HP0 hb2 hb0 hbx hS0 hS1 hS4 bJ3 hmr hz2
 rotate_left
 all_goals
  go_wp2
  try rw [rounds_succ]
  go_wp2_with (go_at_call 309;refine hSy3.mono ?_;rintro e w4 ⟨rfl,b,-,-,hD4,hS4⟩)
  go_ret;exact⟨rfl,hD4,((Xa HS).mono (by simp)).trans (hS4.mono (by simp))⟩
def Mq (a:List UInt8) (x:Nat) (b:List UInt8) (y:Nat):DataW Value:=opD 1 (Yc a (some x)) b y
theorem Xd5 {a b:List UInt8} (h:a≠b) (x y:Nat):Mq a x b y=.map [(.string b,.held (Zx y)),(.string a,.held (Zx x))]\/Mq a x b y=.map [(.string a,.held (Zx x)),(.string b,.held (Zx y))]:=by
 have e:Mq a x b y=.map (DataW.insert (.string b,.held (Zx y)) [(.string a,.held (Zx x))]):=by
  simp [Mq,opD,Yc,DataW.put,Lit.sameKey,h]
 rw [e];simp only [DataW.insert]
 split
 ·exact .inl rfl
 exact .inr rfl
theorem Xj2 {a b:List UInt8} (h:a≠b) (x y:Nat):Xau (Mq a x b y) a b:=by
 have hb:b≠a:=Ne.symm h
 have key:∀(p q:List UInt8) (kl:Lit),((Lit.string p).sameKey kl||((Lit.string q).sameKey kl||false))=true->kl=.string p\/kl=.string q:=fun p q kl hk=>by
  cases kl with
  | string s =>
   simp only [Lit.sameKey,Bool.or_false,Bool.or_eq_true,beq_iff_eq] at hk
   rcases hk with hk | hk
   ·exact .inl (by rw [hk])
   exact .inr (by rw [hk])
  | _=>simp [Lit.sameKey] at hk
 rcases Xd5 h x y with e | e
 ·rw [e]
  exact⟨h,by simp [Maps.has,Lit.sameKey],by simp [Maps.has,Lit.sameKey],fun kl hk=>(key b a kl (by simpa [Maps.has] using hk)).symm⟩
 rw [e];exact⟨h,by simp [Maps.has,Lit.sameKey],by simp [Maps.has,Lit.sameKey],fun kl hk=>key a b kl (by simpa [Maps.has] using hk)⟩
theorem Xln {a b:List UInt8} (h:a≠b) (x y:Nat):(Mq a x b y).del (.string a)=Yc b (some y):=by
 have hb:b≠a:=Ne.symm h
 rcases Xd5 h x y with e | e
 ·rw [e];simp [DataW.del,Lit.sameKey,hb,Yc]
 rw [e];simp [DataW.del,Lit.sameKey,hb,Yc]
theorem Xdi {a b:List UInt8} (h:a≠b) (x y:Nat):Maps.size (Mq a x b y)<=800:=by
 rcases Xd5 h x y with e | e
 ·rw [e];simp [Maps.size]
 rw [e];simp [Maps.size]
theorem J6 (a:List UInt8) (o:Option Nat):Maps.size (Yc a o)<=800:=by
 cases o
 ·simp [Yc,Maps.size]
 simp [Yc,Maps.size]
theorem Xkf {n:Nat} (hn:n<1000000):fileN n≠fileN (n+1):=fun h=>by
 rw [Vr,Vr] at h;have h1:=List.append_cancel_left h;have h2:=Xbg n (by omega);rw [h1,Xbg (n+1) (by omega)] at h2;omega
theorem Tryz.Xk.many {W:World} {fm:List UInt8} {db md mn:Nat} {fd fn:Option (Nat × List UInt8)} {p:Value} {l f:Int} (h:Xk fm W db md mn fd fn p l f):DiskD W db md mn (Yc fm (fd.map (·.1))) (Yc fm (fn.map (·.1))) p l f:=by
 obtain⟨n,hn,hm⟩:=h.dm;obtain⟨n',hn',hm'⟩:=h.nm;exact⟨h.box,⟨_,Nat.le_trans (J6 _ _) (by decide),Uz hm⟩,⟨_,Nat.le_trans (J6 _ _) (by decide),Uz hm'⟩,h.ne⟩
theorem Tryz.Xen (db:Nat) (w:World):Sem.run prog (method 517 74 (.pointer (some ⟨db,0,none⟩)) "Write") w=.ok (310,.pointer (some ⟨db,0,none⟩)) w:=by kernel_rfl
theorem Tryz.DiskD.one {W:World} {fm:List UInt8} {db md mn b b':Nat} {c c':List UInt8} {p:Value} {l f:Int} (h:DiskD W db md mn (Yc fm (some b)) (Yc fm (some b')) p l f) (hl:fm.length<=100) (h1:BoxN W b 9 #[.string ⟨c.toArray⟩]) (h2:BoxN W b' 9 #[.string ⟨c'.toArray⟩]):Xk fm W db md mn (some (b,c)) (some (b',c')) p l f:=by
 obtain⟨n,hn,hm⟩:=h.dm;obtain⟨n',hn',hm'⟩:=h.nm;exact⟨h.box,⟨n,by omega,hm⟩,⟨n',by omega,hm'⟩,fun q hq=>by cases hq;exact h1,fun q hq=>by cases hq;exact h2,h.ne,hl⟩
theorem Tryz.Xi3 (jb db md mn no nx:Nat) (er:Value) (bd bn:Nat) (cd cn:List UInt8) (l f:Int) (line:List UInt8) (w:World) (hnx:nx=no+1) (hno:nx<1000000) (hE:Env w) (h6:6<=w.heap.size) (hJ:BoxN w jb 212 #[Xw db,.int .u64 (no:Int),er]) (hD:Xk (fileN no) w db md mn (some (bd,cd)) (some (bn,cn)) (.slice none 0 0) l f) (hl:l<0) (hl1 : -999999980<=l) (hf:f<0) (hf1 : -999999980<=f) (hlen:line.length<=1000000000000) (h6b:6<=jb/\6<=db/\6<=md/\6<=mn) :
  Calls prog 143 #[.pointer (some ⟨jb,0,none⟩),.string ⟨line.toArray⟩] w fun e w'=>e=.returned .nilIface/\BoxN w' jb 212 #[Xw db,.int .u64 (nx:Int),er]/\(∃ b b',w.heap.size<=b/\w.heap.size<=b'/\Xk (fileN nx) w' db md mn (some (b,line)) (some (b',line)) (.slice none 0 0) (l-1-1-2) (f-1-1-2))/\Spares [jb,db,md,mn] w w':=by
 have j0:=hJ.cell 0 (v:=Xw db) rfl;have j1:=hJ.cell 1 (v:=.int .u64 (no:Int)) rfl;unfold Xw at j0;have lJ:=hJ.lt
 have hm:=fun W=>Xen db W
 have hm2:=fun W=>Jp db W
 have hF:=fun W (hb:Below w.heap.size w W)=>Xb5 nx (by omega) W (hE.below hb h6)
 obtain⟨cp,mk,hcv⟩:=Xeh line
 have hcr:=fun W=>(hcv W).1
 have HCV:=Xb hcv;have hDD:=hD.many
 change DiskD w db md mn (Yc (fileN no) (some bd)) (Yc (fileN no) (some bn)) (.slice none 0 0) l f at hDD
 have lD:=hDD.lt;have hfl:=M0 nx (by omega)
 have hne:fileN no≠fileN nx:=by rw [hnx];exact Xkf (by omega)
 have hx:(no:Int)+1=(nx:Int):=by omega
 have hWr:=fun(W:World) (k cap:Nat) (hb:Below w.heap.size w W) (hK:BytesAt W k line) (h1:w.heap.size<=k) (h2:k<W.heap.size)=>Xox db md mn k cap (fileN nx) line (by omega) _ _ (J6 _ _) l f W (hDD.below hb) hl (by omega) hf (by omega) hlen hK h2 (by omega) (by omega) (by omega)
 change ∀(W:World) (k cap:Nat),_->_->_->_->Calls prog 310 _ W (fun e w'=>e=.returned .nilIface/\∃ b g cap,W.heap.size<=b/\W.heap.size<=g/\BoxN w' b 9 #[.string ⟨line.toArray⟩]/\DiskD w' db md mn (Yc (fileN no) (some bd)) (Mq (fileN no) bn (fileN nx) b) (.slice (some ⟨g,0,none⟩) 1 cap) (l-1) (f-1)/\w'.ownsRow W.heap.size 172 3 (.slice (some ⟨g,0,none⟩) 1 cap) 1 [.int .i64 1,.string ⟨(fileN nx).toArray⟩,.string ⟨line.toArray⟩]/\Spares [db,mn,k] W w') at hWr
 have hSy:=fun W g cap B b' (hD:DiskD W db md mn (Yc (fileN no) (some bd)) (Mq (fileN no) bn (fileN nx) b') (.slice (some ⟨g,0,none⟩) 1 cap) (l-1) (f-1)) hR hg=>Xlv db md mn g cap B 1 (.inl rfl) (fileN nx) line (by omega) _ _ (J6 _ _) (l-1) (f-1) W hD (by omega) (by omega) (by omega) (by omega) hR hg
 change ∀ W g cap B b',_->_->_->Calls prog 309 _ W (fun e w'=>e=.returned .nilIface/\∃ b,W.heap.size<=b/\BoxN w' b 9 #[.string ⟨line.toArray⟩]/\DiskD w' db md mn (Mq (fileN no) bd (fileN nx) b) (Mq (fileN no) bn (fileN nx) b') (.slice none 0 0) (l-1-1) (f-1-1)/\Spares [db,md] W w') at hSy
 have hRO:=fun(W:World) (x y:Nat) (bJ:BoxN W jb 212 #[Xw db,.int .u64 (nx:Int),er]) (hD:DiskD W db md mn (Mq (fileN no) bd (fileN nx) x) (Mq (fileN no) bn (fileN nx) y) (.slice none 0 0) (l-1-1) (f-1-1)) hE h6=>Xec jb db md mn no nx er (by omega) hno (by omega) _ _ (Xj2 hne bn y) (Xdi hne bd x) (Xdi hne bn y) (l-1-1) (f-1-1) W bJ hD (by omega) (by omega) (by omega) (by omega) hE h6
 simp only [Xln hne] at hRO
 have hP:∀ W,Below w.heap.size w W->JP jb (.iface 74 (.pointer (some ⟨db,0,none⟩))) no W:=fun W hb=>⟨cell_later hb j0,cell_later hb j1⟩
 have hjn3:jb ∉ [db,md,mn]:=by
  obtain⟨nm,hnm,hMm⟩:=hD.nm;obtain⟨nd,hnd,hMd⟩:=hD.dm;have h1:=hJ.ne hD.box (by decide);have h2:=BoxN.Xl hJ hMm;have h3:=BoxN.Xl hJ hMd;simp;exact⟨h1,Ne.symm h3,Ne.symm h2⟩
 have hjn:jb ∉ [db,mn]:=by simp at hjn3 ⊢;exact⟨hjn3.1,hjn3.2.2⟩
 have hjd:jb ∉ [db,md]:=by simp at hjn3 ⊢;exact⟨hjn3.1,hjn3.2.1⟩
 have hQ:∀ W w2,Below w.heap.size w W->∀ k,w.heap.size<=k->Spares [db,mn,k] W w2->Spares [db,mn] w w2:=fun W w2 hB0 k hk hS2=>⟨hS2.os.trans hB0.os,hS2.tape.trans hB0.tape,hS2.output.trans hB0.output,Nat.le_trans hB0.size hS2.size,fun b hb hnb=>(hS2.block b (Nat.lt_of_lt_of_le hb hB0.size) (by simp at hnb ⊢;omega)).trans (hB0.block b hb)⟩
 have hEnd:∀(w2 w3 w5:World) (b b':Nat),Spares [db,mn] w w2->Spares [db,md] w2 w3->Spares [db,md,mn] (w3.setCell ⟨jb,1,none⟩ (.int .u64 (nx:Int))) w5->w2.heap.size<=b->w.heap.size<=b'->BoxN w2 b' 9 #[.string ⟨line.toArray⟩]->BoxN w3 b 9 #[.string ⟨line.toArray⟩]->DiskD w5 db md mn (Yc (fileN nx) (some b)) (Yc (fileN nx) (some b')) (.slice none 0 0) (l-1-1-2) (f-1-1-2)->BoxN w5 jb 212 #[Xw db,.int .u64 (nx:Int),er]/\(∃ b b',w.heap.size<=b/\w.heap.size<=b'/\Xk (fileN nx) w5 db md mn (some (b,line)) (some (b',line)) (.slice none 0 0) (l-1-1-2) (f-1-1-2))/\Spares [jb,db,md,mn] w w5:=fun w2 w3 w5 b b' h2 h3 h5 hb hb' x2 x3 hD5=>by
  have z2:=h2.size;have bJ3:=h3.box (h2.box hJ hjn) hjd;have hSt:Spares [jb] w3 (w3.setCell ⟨jb,1,none⟩ (.int .u64 (nx:Int))):=(Spares.of_below (Below.refl _ _)).set (by simp) _ _;have y5:=h5.box (hSt.box (h3.box x2 (by simp;omega)) (by simp;omega)) (by simp;omega);have y5':=h5.box (hSt.box x3 (by simp;omega)) (by simp;omega);exact⟨h5.box (bJ3.set 1 _) hjn3,⟨b,b',by omega,hb',hD5.one (by omega) y5' y5⟩,(((h2.mono (by simp)).trans (h3.mono (by simp))).trans (hSt.mono (by simp))).trans (h5.mono (by simp))⟩
 simp only [<- hx] at hF hRO hEnd ⊢;have HRO:=Xb hRO;have HEnd:=Xb hEnd
 have hE6:∀ W,Spares [jb,db,md,mn] w W->Env W:=fun W hS=>hE.below (hS.below (B:=6) h6 (fun b hb=>by simp only [List.mem_cons,List.not_mem_nil,or_false] at hb;omega)) (Nat.le_refl _)
 obtain⟨n,hn⟩:∃ n,line.length=n:=⟨_,rfl⟩
 rw [hn] at hcr hWr;have Hn:=Xb hn;generalize (⟨(fileN nx).toArray⟩:ByteArray)=sx at *
 have h9:(0:Int)<=no:=by omega
 have h9':(no:Int)<1000000:=by omega
 clear hn hlen hcv hEnd hRO hx;go_enter func143,ntmps143
 go_wp2_with fail
 have hb0:Below w.heap.size w w.drew:=(Below.refl _ w).drew;have hb1:Below w.heap.size w (mk w.drew):=hb0.trans (Xa HCV w.drew).2.1;refine wp_region_held_drew (S:=JP jb (.iface 74 (.pointer (some ⟨db,0,none⟩))) no) (by kernel_rfl) (hP _ hb0) (fun hS0=>?_);refine Xt 0 ?v0 rfl ?y0 hS0 ?_
 case y0=>(rintro w ⟨q0,q1⟩;go_simp;try with_reducible rfl)
 refine Xt 1 ?v1 rfl ?y1 hS0 ?_
 case y1=>(rintro w ⟨q0,q1⟩;go_simp;try with_reducible rfl)
 refine Xt 2 ?v2 rfl ?y2 hS0 ?_
 case y2=>(rintro w ⟨q0,q1⟩;go_simp;try with_reducible rfl)
 refine Xt 3 ?v3 rfl ?y3 hS0 ?_
 case y3=>(rintro w ⟨q0,q1⟩;go_simp;try with_reducible rfl)
 refine Xt 4 ?v4 rfl ?y4 hS0 ?_
 case y4=>(rintro w ⟨q0,q1⟩;go_simp;try with_reducible rfl)
 refine Xt 6 ?v6 rfl ?y6 hS0 ?_
 case y6=>(rintro w ⟨q0,q1⟩;go_simp;try with_reducible rfl)
 refine Xt 8 ?v8 rfl ?y8 hS0 ?_
 case y8=>(rintro w ⟨q0,q1⟩;go_simp;try with_reducible rfl)
 refine Xt 9 ?v9 rfl ?y9 hS0 ?_
 case y9=>(rintro w ⟨q0,q1⟩;go_simp;try with_reducible rfl)
 refine wpAnyH_ready (rs:=[5,7]) (by kernel_rfl) (by simp) ?_;refine AllReadyH.cons rfl (fun K hK=>?_) (AllReadyH.cons rfl (fun K hK=>?_) AllReadyH.nil)
 focus
  go_simp;refine(hF _ hb0).mono ?_;rintro e w1 ⟨rfl,hbx⟩;have hb2:Below w.heap.size w w1:=hb0.trans hbx;refine hK.out _ _ (hP _ hb2) (fun hS1=>?_);clear hK K;refine Xh 7 rfl fun K hK=>?_;go_simp;have hb3:Below w.heap.size w (mk w1):=hb2.trans ((Xa HCV w1).2.1.mono hb2.size);refine hK.out _ _ (hP _ hb3) (fun hS2=>?_);clear hK K;refine Xh 10 rfl fun K hK=>?_;go_simp;refine(hWr _ _ _ hb3 (Xa HCV w1).2.2.2 hb2.size (Xa HCV w1).2.2.1).mono ?_;rintro e w2 ⟨rfl,b',g,cap,hb',hg,bS2,hD2,hR2,hS2⟩;have hS3:=hQ _ _ hb3 _ hb2.size hS2
 rotate_left
 focus
  go_simp;refine hK.out _ _ (hP _ hb1) (fun hS1=>?_);clear hK K;refine Xh 5 rfl fun K hK=>?_;go_simp;refine(hF _ hb1).mono ?_;rintro e w1 ⟨rfl,hbx⟩;have hb3:Below w.heap.size w w1:=hb1.trans (hbx.mono hb1.size);refine hK.out _ _ (hP _ hb3) (fun hS2=>?_);clear hK K;refine Xh 10 rfl fun K hK=>?_;go_simp;refine(hWr _ _ _ hb3 (fun j hj=>by have h1:=(Xa HCV w.drew).2.2.2 j hj;have h2:=cell_of_block (hbx.block w.heap.size (Xa HCV w.drew).2.2.1) j;exact⟨h2.1.trans h1.1,h2.2.trans h1.2⟩) (Nat.le_refl _) (Nat.lt_of_lt_of_le (Xa HCV w.drew).2.2.1 hbx.size)).mono ?_;rintro e w2 ⟨rfl,b',g,cap,hb',hg,bS2,hD2,hR2,hS2⟩;have hS3:=hQ _ _ hb3 _ (Nat.le_refl _) hS2
 rotate_left
 all_goals
  have hz:=hb3.size;have bJ2:=hS3.box hJ hjn;have j02:=bJ2.cell 0 (v:=Xw db) rfl;have j12:=bJ2.cell 1 (v:=.int .u64 (no:Int)) rfl;unfold Xw at j02;refine hK.out _ _ (show JP jb _ no w2 from ⟨j02,j12⟩) (fun hS4=>?_);clear hK K;refine Xt 11 ?v11 rfl ?y11 hS4 ?_
  case y11=>(rintro w ⟨q0,q1⟩;go_simp;try with_reducible rfl)
  refine wpAnyH_done (by kernel_rfl) ?_ _;have hSy2:=hSy w2 g cap _ b' hD2 hR2 (by omega);have hz3:=hS3.size;have HS3:=Xb (And.intro hS3 (And.intro bS2 (And.intro bJ2 (show w.heap.size<=b' by omega))));clear hS2 hWr hSy hcr j0 j1 hS3 hb0 hb1 hP hF hQ bS2 hD2 hR2 bJ2 hS0 hS4 hb3
  go_wp2_with (go_at_call 309;refine hSy2.mono ?_;rintro e w3 ⟨rfl,b,hb,bS3,hD3,hS5⟩;have bJ3:=hS5.box (Xa HS3).2.2.1 hjd;have k1:=bJ3.cell 1 (v:=.int .u64 (no:Int)) rfl;have k1f:=bJ3.frozen 1)
  have bJ4:=bJ3.set 1 (.int .u64 ((no:Int)+1));have hSt:Spares [jb] w3 (w3.setCell ⟨jb,1,none⟩ (.int .u64 ((no:Int)+1))):=(Spares.of_below (Below.refl _ _)).set (by simp) _ _;have hD4:=hD3.spared hSt (by simp at hjn3 ⊢;omega) (by simp at hjn3 ⊢;omega) (by simp at hjn3 ⊢;omega)
  have hEz:Env (w3.setCell ⟨jb,1,none⟩ (.int .u64 ((no:Int)+1)))/\6<=(w3.setCell ⟨jb,1,none⟩ (.int .u64 ((no:Int)+1))).heap.size:=by
   have q1:=(Xa HS3).1.size;have q2:=hS5.size;refine⟨?_,by simp;omega⟩;exact hE6 _ (((((Xa HS3).1.mono (by simp)).trans (hS5.mono (by simp))).trans (hSt.mono (by simp))):Spares [jb,db,md,mn] w _)
  have hRO:=Xa HRO _ _ _ bJ4 hD4 hEz.1 hEz.2;have HQ:=Xb (And.intro hS5 (And.intro hb bS3));clear hSy2 hS5 hb bS3 bJ3 hD3 hD4 bJ4 hSt hEz HRO k1 k1f;refine hRO.mono ?_;rintro e w5 ⟨rfl,hD5,hS6⟩;go_wp2;go_ret;exact⟨rfl,Xa HEnd _ _ _ _ _ (Xa HS3).1 (Xa HQ).1 hS6 (Xa HQ).2.1 (Xa HS3).2.2.2 (Xa HS3).2.1 (Xa HQ).2.2 hD5⟩
theorem Tryz.Xmk (jb db md mn no nx g cap:Nat) (rs:List X7) (bd bn:Nat) (cd cn:List UInt8) (l f:Int) (w:World) (hnx:nx=no+1) (hno:nx<1000000) (hJ:BoxN w jb 212 #[Xw db,.int .u64 (no:Int),.nilIface]) (hD:Xk (fileN no) w db md mn (some (bd,cd)) (some (bn,cn)) (.slice none 0 0) l f) (hl:l<0) (hl1 : -999999980<=l) (hf:f<0) (hf1 : -999999980<=f)
  (hR:Yo w g rs) (hg:g<w.heap.size) (hok:∀ r∈rs,r.Ok) (hasc:∀ r∈rs,Yg r.pth) (hn:rs.length<=1000) (hE:Env w) (h6:6<=w.heap.size) (h6b:6<=jb/\6<=db/\6<=md/\6<=mn) :
  Calls prog 95 #[.pointer (some ⟨jb,0,none⟩),.slice (some ⟨g,0,none⟩) rs.length cap] w fun e w'=>e=.returned .nilIface/\BoxN w' jb 212 #[Xw db,.int .u64 (nx:Int),.nilIface]/\(∃ b b',w.heap.size<=b/\w.heap.size<=b'/\Xk (fileN nx) w' db md mn (some (b,recLine rs)) (some (b',recLine rs)) (.slice none 0 0) (l-1-1-2) (f-1-1-2))/\Spares [jb,db,md,mn] w w':=by
 have hT:=Xik g cap rs w hR hg hok hn hE h6;have hlen:=Y1 rs hok;have hll:=Uo rs hok hn
 have hLn:=fun W (hb:Below w.heap.size w W)=>Xl2 (recTxt rs) W (hE.below hb h6) (Nat.le_trans h6 hb.size) (by omega) (Uc rs hasc)
 have hA:=fun W (hb:Below w.heap.size w W)=>Xi3 jb db md mn no nx .nilIface bd bn cd cn l f (recLine rs) W hnx hno (hE.below hb h6) (Nat.le_trans h6 hb.size) (hJ.below hb hJ.lt) (hD.below hb) hl hl1 hf hf1 (by omega) h6b
 change ∀ W,Below w.heap.size w W->Calls prog 144 _ W (fun e w'=>e=.returned (.string ⟨(recLine rs).toArray⟩)/\_) at hLn
 have hjn3:jb ∉ [db,md,mn]:=by
  obtain⟨nm,hnm,hMm⟩:=hD.nm;obtain⟨nd,hnd,hMd⟩:=hD.dm;have h1:=hJ.ne hD.box (by decide);have h2:=BoxN.Xl hJ hMm;have h3:=BoxN.Xl hJ hMd;simp;exact⟨h1,Ne.symm h3,Ne.symm h2⟩
 have c0:=hJ.cell 2 (v:=.nilIface) rfl;have lJ:=hJ.lt;clear hnx;generalize rs.length=n at *;generalize recLine rs=line at *;generalize recTxt rs=txt at *;go_enter func95,ntmps95
 go_wp2_with (first
  | (go_at_call 145;refine hT.mono ?_;rintro e w1 ⟨rfl,hb1⟩)
  | (go_at_call 144;refine(hLn _ hb1).mono ?_;rintro e w2 ⟨rfl,hb2⟩;have hb3:=hb1.trans (hb2.mono hb1.size))
  | (go_at_call 143;refine(hA _ hb3).mono ?_;rintro e w4 ⟨rfl,bJ4,⟨b,b',hb,hb',hD4⟩,hS4⟩;have hz4:=hb3.size;have c4:=bJ4.cell 2 (v:=.nilIface) rfl;have f4:=bJ4.frozen 2))
 have hjn':=hjn3;simp at hjn';have hS5:Spares [jb] w4 (w4.setCell ⟨jb,2,none⟩ .nilIface):=(Spares.of_below (Below.refl _ w4)).set (by simp) _ _;have hD5:=hD4.spared hS5 (by simp;omega) (by simp;omega) (by simp;omega) (fun q hq=>by cases hq;simp;omega) (fun q hq=>by cases hq;simp;omega);have bJ5:=bJ4.set 2 .nilIface;have hS6:Spares [jb,db,md,mn] w (w4.setCell ⟨jb,2,none⟩ .nilIface):=((Spares.of_below hb3).trans hS4).set (by simp) _ _;go_ret;exact⟨rfl,bJ5,⟨b,b',by omega,by omega,hD5⟩,hS6⟩
end Go.Proofs
namespace Go.Proofs
open Go.RowKit Go.Sort Go.Lib Go.Shelf Go.Maps
theorem Uk {s:List UInt8} (h:∀ c∈s,c.toNat≠10/\c.toNat≠32/\c.toNat≠59):Z9 s:=
 ⟨fun hm=>(h _ hm).1 rfl,fun hm=>(h _ hm).2.1 rfl,fun hm=>(h _ hm).2.2 rfl⟩
theorem Xh0 {s:List UInt8} (h:pathI s=true):Z9 s:=by
 have hf:s.foldl Y7 (some false)=some true:=by
  unfold pathI at h;simp at h;exact h.1
 have key:∀(s:List UInt8) (o b:Bool),s.foldl Y7 (some o)=some b->∀ c∈s,c.toNat≠10/\c.toNat≠32/\c.toNat≠59:=fun s=>by
  induction s with
  | nil=>intro _ _ _ c hc;cases hc
  | cons x s ih =>
   intro o b hs c hc;rw [List.foldl_cons] at hs
   cases hx:Y7 (some o) x with
   | none=>rw [hx,Vz] at hs;cases hs
   | some o' =>
    rw [hx] at hs
    rcases List.mem_cons.1 hc with rfl | hc
    ·unfold Y7 at hx
     simp only at hx
     split at hx
     ·omega
     split at hx
     ·rename_i hn
      unfold J9 at hn;simp at hn;omega
     cases hx
    exact ih o' b hs c hc
 exact Uk (key s false true hf)
theorem Mc {u:Nat}:∀ c∈Lib.decDigits u,48<=c.toNat/\c.toNat<=57:=by
 induction u using Nat.strongRecOn with
 | ind u ih =>
  have one:∀ d,d<10->∀ c ∈ [UInt8.ofNat (48+d)],48<=c.toNat/\c.toNat<=57:=fun d hd c hc=>by
   rw [List.mem_singleton.1 hc];simp;omega
  by_cases h:u<10
  ·rw [Lib.decDigits_one h]
   exact one u h
  rw [Lib.decDigits,dif_neg h];intro c hm
  rcases List.mem_append.1 hm with hm | hm
  ·exact ih (u / 10) (by omega) c hm
  exact one (u % 10) (by omega) c hm
theorem Xad (u:Nat):Z9 (Lib.decDigits u):=Uk (fun c hc=>by have:=Mc c hc;omega)
theorem Xbx (n:Int):Z9 (Lib.itoa n):=by
 unfold Lib.itoa
 split
 ·refine Uk (fun c hc=>?_)
  rcases List.mem_cons.1 hc with rfl | hc
  ·decide
  have:=Mc c hc;omega
 exact Xad _
theorem Xfb (k:Int) (u:Nat):Z9 (nmStr k u):=by
 unfold nmStr
 split
 ·refine Uk (fun c hc=>?_)
  rcases List.mem_cons.1 hc with rfl | hc
  ·decide
  have:=Mc c hc;omega
 split
 ·refine Uk (fun c hc=>?_)
  rcases List.mem_cons.1 hc with rfl | hc
  ·decide
  have:=Mc c hc;omega
 exact⟨by simp,by simp,by simp⟩
theorem Xgb (b:Bool):Z9 (Lib.formatBool b):=by cases b <;> exact⟨by decide,by decide,by decide⟩
theorem V9 {c d:UInt8} (hcd:c≠d):∀ {xs:List (List UInt8)},(∀ x∈xs,c∉x)->c∉Lib.join xs [d]
 | [],_=>by simp [Lib.join,List.intercalate]
 | [x],h=>by
  rw [show Lib.join [x] [d]=x by simp [Lib.join,List.intercalate]];exact h x (by simp)
 | x :: y :: xs,h=>by
  have ih:=V9 hcd (xs:=y :: xs) (fun z hz=>h z (List.mem_cons_of_mem _ hz));rw [show Lib.join (x :: y :: xs) [d]=x++d :: Lib.join (y :: xs) [d] by simp [Lib.join,List.intercalate,List.intersperse]];intro hm
  rcases List.mem_append.1 hm with hm | hm
  ·exact h x (by simp) hm
  rcases List.mem_cons.1 hm with hm | hm
  ·exact hcd hm
  exact ih hm
theorem Ue {r:X7} (hp:Z9 r.pth):∀ x∈Zf r,Z9 x:=fun x hx=>by
 simp only [Zf,List.mem_cons,List.not_mem_nil,or_false] at hx
 rcases hx with rfl | rfl | rfl | rfl | rfl | rfl | rfl | rfl
 ·exact Xbx _
 ·exact Xfb _ _
 ·exact Xfb _ _
 ·exact Xgb _
 ·exact Xad _
 ·exact Xbx _
 ·exact Xad _
 exact hp
theorem Xjn {r:X7} (hp:Z9 r.pth):Lib.split (recStr r) [32]=Zf r:=
 Vt (by simp [Zf]) (fun x hx=>(Ue hp x hx).2.1)
theorem Xkn {r:X7} (hp:Z9 r.pth):(59:UInt8)∉recStr r/\(10:UInt8)∉recStr r:=
 ⟨V9 (by decide) (fun x hx=>(Ue hp x hx).2.2),V9 (by decide) (fun x hx=>(Ue hp x hx).1)⟩
theorem Xjc {rs:List X7} (hne:rs ≠ []) (hp:∀ r∈rs,Z9 r.pth):Lib.split (recTxt rs) [59]=rs.map recStr:=
 Vt (by simp [Y5,hne]) (fun x hx=>by
  obtain⟨r,hr,rfl⟩:=List.mem_map.1 hx
  exact(Xkn (hp r hr)).1)
theorem Xl5 {rs:List X7} (hp:∀ r∈rs,Z9 r.pth):(10:UInt8)∉recTxt rs:=
 V9 (by decide) (fun x hx=>by
  obtain⟨r,hr,rfl⟩:=List.mem_map.1 hx
  exact(Xkn (hp r hr)).2)
theorem Xgk (ls:List (List X7)) (hp:∀ rs∈ls,∀ r∈rs,Z9 r.pth):Lib.split (ls.flatMap recLine) [10] = [] :: ls.map (fun rs=>bodyL (recTxt rs)):=by
 have h:=Xe1 (ls.map recTxt) (fun t ht=>by
  obtain⟨rs,hrs,rfl⟩:=List.mem_map.1 ht
  exact Xl5 (hp rs hrs))
 rw [List.map_map] at h;rw [<- show (ls.map recTxt).flatMap lineL=ls.flatMap recLine by rw [List.flatMap_map];rfl];exact h
theorem Uj:∀(l:List UInt8) (acc m:Nat) (b:UInt8) (d:Nat),Lib.decFrom acc l=some m->Lib.digitVal b=some d->Lib.decFrom acc (l ++ [b])=some (m*10+d)
 | [],acc,m,b,d,h,hd=>by
  have e:acc=m:=by simpa [Lib.decFrom] using h
  subst e;simp [Lib.decFrom,hd]
 | x :: l,acc,m,b,d,h,hd=>by
  rw [List.cons_append];unfold Lib.decFrom at h ⊢
  cases hx:Lib.digitVal x with
  | none=>rw [hx] at h;cases h
  | some y =>
   rw [hx] at h;exact Uj l _ m b d h hd
theorem Xc7 {d:Nat} (h:d<10):Lib.digitVal (UInt8.ofNat (48+d))=some d:=by
 unfold Lib.digitVal
 have e:(UInt8.ofNat (48+d)).toNat=48+d:=by simp;omega
 rw [e,if_pos (by omega)];simp
theorem Xkh (u:Nat):Lib.decFrom 0 (Lib.decDigits u)=some u:=by
 induction u using Nat.strongRecOn with
 | ind u ih =>
  by_cases h:u<10
  ·rw [Lib.decDigits_one h]
   have:=Uj [] 0 0 (UInt8.ofNat (48+u)) u rfl (Xc7 h)
   simpa using this
  rw [Lib.decDigits,dif_neg h];have:=Uj _ 0 _ (UInt8.ofNat (48+u % 10)) (u % 10) (ih (u / 10) (by omega)) (Xc7 (by omega));rw [this]
  congr 1
  omega
theorem Xke (u:Nat):Lib.atoi (Lib.decDigits u)=some (u:Int):=by
 have hm:∀ c∈Lib.decDigits u,48<=c.toNat/\c.toNat<=57:=Mc
 have hf:=Xkh u
 cases hd:Lib.decDigits u with
 | nil=>exact absurd hd (Xbl u)
 | cons b r =>
  rw [hd] at hm hf;have hb:=hm b (by simp)
  have h1:(b==45)=false:=by
   rw [beq_eq_false_iff_ne];rintro rfl;exact absurd hb (by decide)
  have h2:(b==43)=false:=by
   rw [beq_eq_false_iff_ne];rintro rfl;exact absurd hb (by decide)
  unfold Lib.atoi;simp only [h1,h2,Bool.false_eq_true,if_false];unfold Lib.decNat;rw [if_neg (by simp),hf];rfl
theorem Xc6 {n:Int} (h:0<=n):Lib.atoi (Lib.itoa n)=some n:=by
 obtain⟨u,rfl⟩:∃ u:Nat,n=u:=⟨n.toNat,by omega⟩
 unfold Lib.itoa;rw [if_neg (by omega)]
 simpa using Xke u
theorem Xlr {k:Int} {u:Nat} (h:k=1\/k=2\/(k=0/\u=0)) (hu:u<18446744073709551616):parseN (nmStr k u)=(k,(u:Int)):=by
 rcases h with rfl | rfl | ⟨rfl,rfl⟩
 ·exact U5 true hu
 ·exact U5 false hu
 rfl
theorem Xi7 (b:Bool):(Lib.formatBool b==Lib.formatBool true)=b:=by cases b <;> decide
structure X7.Xh2 (r:X7):Prop where
 ok:r.Ok
 k:0<=r.kind/\r.kind<=9
 t:0<=r.tr/\r.tr<=1000000000
 n:NmA r.nk r.nn
 a:NmA r.ak r.an
 p:Z9 r.pth
 c:Yg r.pth
theorem U6:Z9 []:=⟨by simp,by simp,by simp⟩
theorem Item.back {i:Item} {s:VSt} (h:i.Fits s):i.rec_.Xh2:=by
 have ho:=Item.Xoe h
 cases i with
 | tok t=>exact⟨ho.1,⟨show (0:Int)<=1 by decide,show (1:Int)<=9 by decide⟩,⟨h.1.r0,h.1.r1.1⟩,.inl rfl,h.1.r1.2,U6,ho.2⟩
 | lea t=>exact⟨ho.1,⟨show (0:Int)<=1 by decide,show (1:Int)<=9 by decide⟩,⟨h.1.r0,h.1.r1.1⟩,.inr (.inl rfl),h.1.r1.2,h.1.pa.2,ho.2⟩
 | gone tk n=>exact⟨ho.1,⟨show (0:Int)<=2 by decide,show (2:Int)<=9 by decide⟩,⟨show (0:Int)<=0 by decide,show (0:Int)<=1000000000 by decide⟩,by cases tk;exact .inr (.inl rfl);exact .inl rfl,.inr (.inr ⟨rfl,rfl⟩),U6,ho.2⟩
 | use tk n=>exact⟨ho.1,⟨show (0:Int)<=3 by decide,show (3:Int)<=9 by decide⟩,⟨show (0:Int)<=0 by decide,show (0:Int)<=1000000000 by decide⟩,by cases tk;exact .inr (.inl rfl);exact .inl rfl,.inr (.inr ⟨rfl,rfl⟩),U6,ho.2⟩
theorem Yn.back:∀ {is:List Item} {s:VSt},Yn is s->∀ r∈is.map Item.rec_,r.Xh2
 | [],_,_,r,h=>by simp at h
 | a :: is,s,hf,r,h=>by
  rw [List.map_cons] at h
  rcases List.mem_cons.1 h with rfl | h
  ·exact Item.back hf.1
  exact Yn.back (is:=is) (s:=a.app s) hf.2 r h
theorem Mb {tm:Int} (t0:0<=tm) (t1:tm<=18446744073709551615):(nowR tm).Xh2:=
 ⟨⟨show (-9223372036854775808:Int)<=0 by decide,show (0:Int)<=9223372036854775807 by decide,show 0<18446744073709551616 by decide,show 0<18446744073709551616 by decide,t0,t1,show (-9223372036854775808:Int)<=0 by decide,show (0:Int)<=9223372036854775807 by decide,show (0:Int)<=0 by decide,show (0:Int)<=18446744073709551615 by decide,show 0<=1000 by decide⟩,⟨show (0:Int)<=0 by decide,show (0:Int)<=9 by decide⟩,⟨show (0:Int)<=0 by decide,show (0:Int)<=1000000000 by decide⟩,.inr (.inr ⟨rfl,rfl⟩),.inr (.inr ⟨rfl,rfl⟩),U6,Yy⟩
theorem X9.Ok.back {l:X9} {s:VSt} (h:l.Ok s):∀ r∈l.recs,r.Xh2:=fun r hr=>by
 rcases List.mem_cons.1 hr with rfl | hr
 ·exact Mb h.1.1 h.1.2
 exact h.2.1.back r hr
theorem OkL.back:∀ {ls:List X9} {s:VSt},OkL ls s->∀ l∈ls,∀ r∈l.recs,r.Xh2
 | [],_,_,l,hl,_,_=>by cases hl
 | x :: ls,s,⟨h1,h2⟩,l,hl,r,hr=>by
  rcases List.mem_cons.1 hl with rfl | hl
  ·exact h1.back r hr
  exact OkL.back h2 l hl r hr
theorem OkL.split {ls:List X9} {s:VSt} (h:OkL ls s):Lib.split (textL ls) [10] = [] :: ls.map (fun l=>bodyL (recTxt l.recs)):=by
 have h1:=Xgk (ls.map X9.recs) (fun rs hrs r hr=>by
  obtain⟨l,hl,rfl⟩:=List.mem_map.1 hrs
  exact(h.back l hl r hr).p)
 rw [List.map_map] at h1;rw [show textL ls=(ls.map X9.recs).flatMap recLine by rw [List.flatMap_map];rfl];exact h1
end Go.Proofs
namespace Go.Proofs
open Go.RowKit Go.Sort Go.Lib Go.Shelf Go.Maps Go.WideMaps
theorem Jb {fm:List UInt8} {b:Nat} {kl:Lit} (h:Maps.has (Yc fm (some b)) kl=true):kl=.string fm:=by
 unfold Yc Maps.has at h;simp only [List.any_cons,List.any_nil,Bool.or_false] at h
 cases kl with
 | string s =>
  have:fm=s:=by simpa [Lit.sameKey] using h
  rw [this]
 | _=>simp [Lit.sameKey] at h
theorem M7 {fm:List UInt8} {x:ByteArray} (h:Lit.string fm=Lit.string x.data.toList):x=⟨fm.toArray⟩:=by
 have h3:fm=x.data.toList:=by injection h
 apply ByteArray.ext;rw [<- Array.toArray_toList (xs:=x.data),<- h3]
theorem Tryz.Xgd {fm:List UInt8} (db md mn b:Nat) (c:List UInt8) (fd:Option (Nat × List UInt8)) (l f:Int) (w:World) (hD:Xk fm w db md mn fd (some (b,c)) (.slice none 0 0) l f) :
  Calls prog 306 #[.pointer (some ⟨db,0,none⟩)] w fun e w'=>∃ g cap,e=.returned (.tuple #[.slice (some ⟨g,0,none⟩) 1 cap,.nilIface])/\w'.cell? ⟨g,0,none⟩=some (.string ⟨fm.toArray⟩)/\g<w'.heap.size/\Below w.heap.size w w':=by
 have hS:=fun p cap W=>Xa2 p cap W
 have d1:=hD.box.cell 1 (v:=.map (some mn)) rfl;have d5:=hD.box.cell 5 (v:=.bool false) rfl;obtain⟨n,hn,hown⟩:=hD.nm;obtain⟨i0,hi,hz0,hz1,hz2⟩:=info_parts Xa8
 change w.ownsMap prog 9 X8 mn n (Yc fm (some b)) at hown
 go_enter func306,ntmps306
 go_wp2_with (first
  | (at_range;refine wpList_range_own _ rfl _ 97 rfl 9 101 (string_keyed underlying9) underlying97 _ mn n _ rfl hown ?_;intro w1 hrg hg1 hs1)
  | go_in)
 have HB:=Xb (show Below w.heap.size w w1 from ⟨hg1.os,hg1.tape,hg1.output,hg1.size,fun k hk=>hg1.block k hk (by simp)⟩)
 have hz:w.heap.size<w1.heap.size:=by omega
 clear hg1 hs1 hown d1 d5;refine wp_loop_rounds 2 ?_;rw [rounds_succ]
 go_wp2_with (first
  | (at_next;refine wpList_next_ranges _ rfl _ rfl 9 (string_keyed underlying9) X8 Value.string (fun v:Value=>v) (fun key kl hk=>by obtain⟨x,hx,_⟩:=string_of_keyOf underlying9 hk;exact⟨x,hx⟩) (fun v _ _=>⟨v,rfl⟩) mn _ n _ _ _ rfl hrg ?_ ?_)
  | go_in)
 ·intro _ h0
  have h1:=h0 (.string fm);rw [J0] at h1;cases h1
 intro x c kl y yp w' cnt' hk hl hv hat hrg2 hlt hgr hsz hen;obtain rfl:=Jb hl;obtain⟨x',hx,hx2,-⟩:=string_of_keyOf underlying9 hk
 obtain rfl:x=x':=by cases hx;rfl
 have hxj:x=⟨fm.toArray⟩:=M7 hx2;subst hxj;have HB2:=Xb (show Below w.heap.size w w' from (Xa HB).grown hgr (by omega) (fun q hq=>by cases hq;exact Nat.le_refl _));clear hx hx2 hk hl hv hat hrg HB hgr hlt
 go_wp2_with (at_builtin;refine wpList_append_own _ rfl _ _ 40 rfl w.heap.size 9 i0 _ 1 16 underlying40 hi hz0 hz1 hz2 rfl (by decide) _ _ _ rfl (World.ownsRow_nil _ _ _ _) ⟨w'.heap.size,0,none⟩ 1 1 [.string ⟨fm.toArray⟩] rfl rfl (fun j u hu=>by
  match j,hu with
  | 0,hu =>
   have hu':Value.string ⟨fm.toArray⟩=u:=by simpa using hu
   rw [<- hu',Uq];exact(BoxN.new w' 9 #[.string ⟨fm.toArray⟩]).cell 0 rfl
  | k+1,hu=>simp at hu) (by simp [Value.oneCell']) (by decide) (by decide) (by simp;omega) ?_)
 obtain⟨cap,hcap⟩:∃ cap,(Question.appendCap 1 0 9).cut (w'.tape w'.drawn (Question.appendCap 1 0 9))=cap:=⟨_,rfl⟩
 rw [hcap];have bG:=BoxN.new (w'.alloc (.cells #[.string ⟨fm.toArray⟩] 9)) 9 (#[.string ⟨fm.toArray⟩] ++ Builtin.zeroCells #[.string ⟨#[]⟩] (cap-1));rw [World.size_alloc,hsz] at bG;have g0:=bG.cell 0 (v:=.string ⟨fm.toArray⟩) (by rw [Array.getElem?_append_left (by simp)];rfl);have hr3:=(hrg2.alloc (.cells #[.string ⟨fm.toArray⟩] 9)).alloc (.cells (#[.string ⟨fm.toArray⟩] ++ Builtin.zeroCells #[.string ⟨#[]⟩] (cap-1)) 9);have hB3:=(((Xa HB2).alloc (by omega) (.cells #[.string ⟨fm.toArray⟩] 9)).alloc (by simp;omega) (.cells (#[.string ⟨fm.toArray⟩] ++ Builtin.zeroCells #[.string ⟨#[]⟩] (cap-1)) 9)).drew;have hr4:((w'.alloc (.cells #[.string ⟨fm.toArray⟩] 9)).alloc (.cells (#[.string ⟨fm.toArray⟩] ++ Builtin.zeroCells #[.string ⟨#[]⟩] (cap-1)) 9)).drew.ranges prog 9 X8 mn w.heap.size n (Yc fm (some b)) (fun z=>Maps.has (Yc fm (some b)) z && !z.sameKey (Lit.string fm)) cnt':=hr3;have g1:((w'.alloc (.cells #[.string ⟨fm.toArray⟩] 9)).alloc (.cells (#[.string ⟨fm.toArray⟩] ++ Builtin.zeroCells #[.string ⟨#[]⟩] (cap-1)) 9)).drew.cell? ⟨w1.heap.size+1,0,none⟩=some (.string ⟨fm.toArray⟩):=g0;have g2:w1.heap.size+1<((w'.alloc (.cells #[.string ⟨fm.toArray⟩] 9)).alloc (.cells (#[.string ⟨fm.toArray⟩] ++ Builtin.zeroCells #[.string ⟨#[]⟩] (cap-1)) 9)).drew.heap.size:=bG.lt;generalize ((w'.alloc (.cells #[.string ⟨fm.toArray⟩] 9)).alloc (.cells (#[.string ⟨fm.toArray⟩] ++ Builtin.zeroCells #[.string ⟨#[]⟩] (cap-1)) 9)).drew=W3 at *;clear bG g0 hr3 hcap hrg2 HB2 hen;rw [rounds_succ]
 go_wp2_with (first
  | (at_next;refine wpList_next_ranges _ rfl _ rfl 9 (string_keyed underlying9) X8 (fun v:Value=>v) (fun v:Value=>v) (fun v _ _=>⟨v,rfl⟩) (fun v _ _=>⟨v,rfl⟩) mn _ n _ _ _ rfl hr4 ?_ ?_)
  | go_in)
 ·intro _ _
  clear hr4
  go_wp2_with (go_at_call 312;refine(hS _ _ _).mono ?_;rintro e w2 ⟨rfl,rfl⟩)
  exact bodyPost_ret (v:=.tuple #[.slice (some ⟨w1.heap.size+1,0,none⟩) 1 cap,.nilIface]) (by simp [results,results306,go_sem]) rfl ⟨_,_,rfl,g1,g2,hB3⟩
 intro x c kl y yp w'' cnt'' _ h2 h3;obtain rfl:=Jb h2;exact absurd h3 (by simp [Lit.sameKey])
theorem Tryz.Xjs {fm:List UInt8} (db md mn b:Nat) (c:List UInt8) (fd:Option (Nat × List UInt8)) (l f:Int) (w:World) (hD:Xk fm w db md mn fd (some (b,c)) (.slice none 0 0) l f) :
  Calls prog 307 #[.pointer (some ⟨db,0,none⟩),.string ⟨fm.toArray⟩] w fun e w'=>∃ g cap,e=.returned (.tuple #[.slice (some ⟨g,0,none⟩) c.length cap,.nilIface])/\BytesAt w' g c/\(w.heap.size<=g/\g<w'.heap.size)/\Below w.heap.size w w':=by
 obtain⟨cp,mk,hTB⟩:=Xeh c;have d1:=hD.box.cell 1 (v:=.map (some mn)) rfl;have d5:=hD.box.cell 5 (v:=.bool false) rfl;obtain⟨n,hn,hown⟩:=hD.nm;have hL:=Xk0 hD.nl hown;unfold Zx at hL;have s0:=(hD.sn (b,c) rfl).cell 0 (v:=.string ⟨c.toArray⟩) rfl;simp only at s0
 have hcv:=fun W=>(hTB W).1
 go_enter func307,ntmps307;go_wp2;refine bodyPost_ret (v:=.tuple #[.slice (some ⟨w.heap.size,0,none⟩) c.length (cp w),.nilIface]) (by simp [results,results307,go_sem]) rfl ?_;exact⟨w.heap.size,⟨cp w,rfl⟩,(hTB w).2.2.2,⟨Nat.le_refl _,(hTB w).2.2.1⟩,(hTB w).2.1⟩
theorem Tryz.Xct (db md mn b n:Nat) (hn:n<1000000) (c:List UInt8) (fd:Option (Nat × List UInt8)) (l f:Int) (w:World) (hD:Xk (fileN n) w db md mn fd (some (b,c)) (.slice none 0 0) l f) (hE:Env w) (h6:6<=w.heap.size) :
  Calls prog 180 #[Xw db] w fun e w'=>∃ g cap,e=.returned (.tuple #[.slice (some ⟨g,0,none⟩) 1 cap,.nilIface])/\w'.cell? ⟨g,0,none⟩=some (.int .u64 (n:Int))/\g<w'.heap.size/\Below w.heap.size w w':=by
 have hm:=fun W=>J8 db W
 have hN:=Xgd db md mn b c fd l f w hD
 have hS:=fun p cap W=>Xfh p cap W
 have hO:=fun W (hb:Below w.heap.size w W)=>numberOf n (by omega) W (hE.below hb h6) (Nat.le_trans h6 hb.size)
 unfold Xw;go_enter func180,ntmps180
 go_wp2_with (go_at_call 306;refine hN.mono ?_;rintro e w1 ⟨g,cap,rfl,g0,g1,hb1⟩)
 generalize (⟨(fileN n).toArray⟩:ByteArray)=sq at *;refine wp_loop_rounds 2 ?_;rw [rounds_succ]
 go_wp2_with (go_at_call 210;refine(hO _ hb1).mono ?_;rintro e w2 ⟨rfl,hb2⟩)
 obtain⟨cap2,hcap⟩:∃ cap,(Question.appendCap 1 0 31).cut (w2.tape w2.drawn (Question.appendCap 1 0 31))=cap:=⟨_,rfl⟩
 rw [hcap];have hB2:=hb1.trans (hb2.mono hb1.size);have bG:=BoxN.new (w2.alloc (.cells #[.int .u64 (n:Int)] 31)) 31 (#[.int .u64 (n:Int)] ++ Builtin.zeroCells #[.int .u64 0] (cap2-1));rw [World.size_alloc] at bG;have q0:=bG.cell 0 (v:=.int .u64 (n:Int)) (by rw [Array.getElem?_append_left (by simp)];rfl);have hB3:=((hB2.alloc hB2.size (.cells #[.int .u64 (n:Int)] 31)).alloc (by have:=hB2.size;simp;omega) (.cells (#[.int .u64 (n:Int)] ++ Builtin.zeroCells #[.int .u64 0] (cap2-1)) 31)).drew;have q1:((w2.alloc (.cells #[.int .u64 (n:Int)] 31)).alloc (.cells (#[.int .u64 (n:Int)] ++ Builtin.zeroCells #[.int .u64 0] (cap2-1)) 31)).drew.cell? ⟨w2.heap.size+1,0,none⟩=some (.int .u64 (n:Int)):=q0;have q2:w2.heap.size+1<((w2.alloc (.cells #[.int .u64 (n:Int)] 31)).alloc (.cells (#[.int .u64 (n:Int)] ++ Builtin.zeroCells #[.int .u64 0] (cap2-1)) 31)).drew.heap.size:=bG.lt;generalize ((w2.alloc (.cells #[.int .u64 (n:Int)] 31)).alloc (.cells (#[.int .u64 (n:Int)] ++ Builtin.zeroCells #[.int .u64 0] (cap2-1)) 31)).drew=W3 at *;clear bG q0 hcap;rw [rounds_succ]
 go_wp2_with (go_at_call 211;refine(hS _ _ _).mono ?_;rintro e w4 ⟨rfl,rfl⟩)
 go_ret2
 exact⟨_,_,rfl,q1,q2,hB3⟩
def begB (c:List UInt8):Bool:=wholeB (Lib.cut (Lib.cut c [10]).2.1 [10]).1
theorem Tryz.Xeu (c:List UInt8) (hc:c.length<4294967281) (ha:∀ b∈c,b.toNat<128) (w:World) (hE:Env w) (h9:9<=w.heap.size) (hG:Z1 w) :
  Calls prog 182 #[.string ⟨c.toArray⟩] w fun e w'=>e=.returned (.bool (begB c))/\Below w.heap.size w w':=by
 obtain⟨-,a1,l0,l1⟩:=Xa6 c [10];obtain⟨a2,-,l2,l3⟩:=Xa6 (Lib.cut c [10]).2.1 [10]
 have hC1:=fun W (hb:Below w.heap.size w W)=>cut c [10] W hc (hG.below (hb.mono h9))
 have hC2:=fun W (hb:Below w.heap.size w W)=>cut (Lib.cut c [10]).2.1 [10] W (by omega) (hG.below (hb.mono h9))
 have hT:=fun W (hb:Below w.heap.size w W)=>textOf (Lib.cut (Lib.cut c [10]).2.1 [10]).1 W (by omega) (fun b hb=>ha b (a1 b (a2 b hb))) (hE.below hb (by omega)) (Nat.le_trans h9 hb.size) (hG.below (hb.mono h9))
 change ∀ W,_->Calls _ _ _ _ (fun e w'=>e=.returned (.tuple #[.string ⟨(txtL (Lib.cut (Lib.cut c [10]).2.1 [10]).1).toArray⟩,.bool (begB c)])/\_) at hT
 generalize begB c=bg at *;generalize txtL (Lib.cut (Lib.cut c [10]).2.1 [10]).1=tx at *;generalize Lib.cut c [10]=x1 at *;obtain⟨n1,r1,f1⟩:=x1;simp only at *;generalize Lib.cut r1 [10]=x2 at *;obtain⟨n2,r2,f2⟩:=x2;simp only at *;clear a1 a2 l0 l1 l2 l3 ha hc;go_enter func182,ntmps182
 go_wp2_with (first
  | (go_at_call_of 213 (Value.string ⟨c.toArray⟩);refine(hC1 _ (Below.refl _ _)).mono ?_;rintro e w1 ⟨rfl,hb1⟩)
  | (go_at_call_of 213 (Value.string ⟨r1.toArray⟩);refine(hC2 _ hb1).mono ?_;rintro e w2 ⟨rfl,hb2⟩;have hB2:=hb1.trans (hb2.mono hb1.size))
  | (go_at_call 185;refine(hT _ hB2).mono ?_;rintro e w3 ⟨rfl,hb3⟩;have hB3:=hB2.trans (hb3.mono hB2.size)))
 go_ret;exact⟨rfl,hB3⟩
theorem Xj3 {ls:List X9} {s:VSt} (h:OkL ls s) (hne:ls ≠ []):begB (textL ls)=true:=by
 obtain⟨l,ls,rfl⟩:=List.exists_cons_of_ne_nil hne
 have hb:=fun r hr=>h.back l (by simp) r hr
 have hno:(10:UInt8)∉bodyL (recTxt l.recs):=by
  have h1:=Xl5 (fun r hr=>(hb r hr).p);unfold bodyL;intro hm
  rcases List.mem_append.1 hm with hm | hm
  ·exact Ms (by decide) _ hm
  rcases List.mem_cons.1 hm with hm | hm
  ·cases hm
  rcases List.mem_append.1 hm with hm | hm
  ·exact Ms (by decide) _ hm
  rcases List.mem_cons.1 hm with hm | hm
  ·cases hm
  exact h1 hm
 have hl:(recTxt l.recs).length<18446744073709551616:=by
  have h2:=Y1 l.recs (fun r hr=>(hb r hr).ok);have h3:=h.1.2.2.2
  have h4:l.recs.length=l.is.length+1:=by simp [X9.recs]
  omega
 have e1:textL (l :: ls) = [] ++ 10 :: (bodyL (recTxt l.recs)++textL ls):=by
  unfold textL recLine;rw [List.flatMap_cons,Zy];simp
 unfold begB;rw [e1,Xd9 (by simp)];simp only
 have e2:(Lib.cut (bodyL (recTxt l.recs)++textL ls) [10]).1=bodyL (recTxt l.recs):=by
  cases ls with
  | nil =>
   unfold Lib.cut;rw [show bodyL (recTxt l.recs)++textL []=bodyL (recTxt l.recs) by simp [textL],Vx hno,if_neg (by decide)]
  | cons l2 ls =>
   have e3:textL (l2 :: ls)=10 :: (bodyL (recTxt l2.recs)++textL ls):=by
    unfold textL recLine;rw [List.flatMap_cons,Zy];simp
   rw [e3,Xd9 hno]
 rw [e2];exact(Vy _ hl).1
attribute [local go_sem] Oper.semAt_some
theorem Tryz.Xeo (g cap:Nat) (w:World):Calls prog 181 #[.slice (some ⟨g,0,none⟩) 1 cap] w fun e w'=>e=.returned (.func (.func 212) #[] #[.pointer (some ⟨w.heap.size,0,none⟩)])/\w'=w.alloc (.cells #[.slice (some ⟨g,0,none⟩) 1 cap] 272):=by
 go_enter func181,ntmps181;go_wp2;go_ret;exact⟨rfl,rfl⟩
theorem Tryz.Xcn (n bx g cap no:Nat) (hn:1<=n) (w:World) (hb:BoxN w bx 272 #[.slice (some ⟨g,0,none⟩) 1 cap]) (hg:w.cell? ⟨g,0,none⟩=some (.int .u64 (no:Int))) (hgl:g<w.heap.size) :
  Xny (α:=Unit) n prog 212 #[.pointer (some ⟨bx,0,none⟩)] (fun _=>#[.int .i64 0,.int .u64 (no:Int)]) (fun _=>True) (fun _ _=>True) (fun xs=>xs = [()]) (fun pre=>pre = [()]) 1 w:=by
 intro l J Jx W hbW _ _ _ hY h0;have c0:=(hb.below hbW hb.lt).cell 0 (v:=.slice (some ⟨g,0,none⟩) 1 cap) rfl;have g0:W.cell? ⟨g,0,none⟩=some (.int .u64 (no:Int)):=(hbW.cell (p:=⟨g,0,none⟩) hgl).trans hg;obtain⟨fn,tmps,assign,body,hy,hR⟩:=hY [] () W h0 (by simp);refine callsIn_of_wp func212 rfl trivial ?_ rfl;simp only [ntmps212,List.size_toArray,List.length_cons,List.length_nil,Nat.reduceAdd,Nat.reduceSub,Array.replicate_succ,Array.replicate_zero,List.push_toArray,List.append_toArray,List.nil_append,List.cons_append]
 gi_wp2
 gi_loopw [3] (fun i wr=>(i=.int .i64 0/\wr=W)\/(i=.int .i64 (-1)/\J [()] wr)) (fun i _=>(intOf i+1).toNat)
 case atStart=>exact .inl ⟨rfl,rfl⟩
 case round =>
  rcases hrel with⟨rfl,rfl⟩ | ⟨rfl,hJ1⟩
  ·gi_wp2
   refine hR.mono ?_;rintro e W3 (⟨rfl,hJ4,-,-⟩ | ⟨rfl,hJx3,-⟩)
   ·gi_wp2
    go_roundw
    case rel=>exact .inr ⟨rfl,hJ4⟩
    case measure=>simp [intOf]
   gi_wp2
   refine bodyPost_ret (results_none rfl _ _ _) rfl ?_;exact⟨⟨_,rfl⟩,.inr ⟨[()],rfl,hJx3⟩⟩
  gi_wp2
  go_end0
  exact⟨⟨_,rfl⟩,.inl ⟨[()],rfl,hJ1⟩⟩
theorem Jr {B b i:Nat} {V W:World} {v:Value} (h:KeepsFrom B V W) (hb:b<B):KeepsFrom B V (W.setCell ⟨b,i,none⟩ v):=
 h.trans (KeepsFrom.of_grownBy (row:=some b) ⟨rfl,rfl,rfl,by simp,fun k _ hne=>Yh _ _ _ _ _ (fun e=>hne (by rw [e]))⟩ (fun k e=>by cases e;exact hb))
theorem BytesAt.below {B g:Nat} {W W':World} {c:List UInt8} (h:BytesAt W g c) (hb:Below B W W') (hg:g<B):BytesAt W' g c:=fun j hj=>by
 have e:=cell_of_block (hb.block g hg) j;exact⟨e.1.trans (h j hj).1,e.2.trans (h j hj).2⟩
theorem Tryz.Xc2 {W:World} {g cap:Nat} {c:List UInt8} (h:BytesAt W g c):(convert 267 9 (.slice (some ⟨g,0,none⟩) c.length cap)).run prog W=.ok (.string ⟨c.toArray⟩) W:=
 run_convert_bytes_back W 267 9 5 ⟨g,0,none⟩ cap c underlying267 underlying5 underlying9 (fun j hj=>by
  rw [Uq]
  exact(h j hj).1)
theorem Xcs {B:Nat} {w W:World} {b:Nat} (h:Below B w W) (hb:b<B) (i:Nat) (v:Value):Below B (w.setCell ⟨b,i,none⟩ v) (W.setCell ⟨b,i,none⟩ v):=
 ⟨h.os,h.tape,h.output,by simpa using h.size,fun k hk=>by
  by_cases hkb:k=b
  ·subst hkb
   show (W.heap.modify k _)[k]? = (w.heap.modify k _)[k]?
   rw [Array.getElem?_modify,Array.getElem?_modify,h.block k hk]
  rw [Yh _ _ _ _ _ hkb,Yh _ _ _ _ _ hkb]
  exact h.block k hk⟩
theorem BytesAt.other {g b:Nat} {W:World} {c:List UInt8} (h:BytesAt W g c) (hb:g≠b) (i:Nat) (v:Value):BytesAt (W.setCell ⟨b,i,none⟩ v) g c:=fun j hj=>by
 have e:=cell_of_block (W:=W) (W':=W.setCell ⟨b,i,none⟩ v) (k:=g) (Yh _ _ _ _ _ hb) j;exact⟨e.1.trans (h j hj).1,e.2.trans (h j hj).2⟩
theorem Tryz.Xj5 (jb db md mn b no:Nat) (hno:no<1000000) (c2:Value) (c:List UInt8) (fd:Option (Nat × List UInt8)) (l f:Int) (w:World) (hJ:BoxN w jb 212 #[Xw db,.int .u64 0,c2]) (hD:Xk (fileN no) w db md mn fd (some (b,c)) (.slice none 0 0) l f) (hc:c.length<4294967281) (ha:∀ b∈c,b.toNat<128) (hbg:begB c=true) (hE:Env w) (h9:9<=w.heap.size) (hG:Z1 w) :
  CallsIn Fence.wide 9 prog 146 #[.pointer (some ⟨jb,0,none⟩)] w fun e w'=>e=.returned (.tuple #[.string ⟨c.toArray⟩,.nilIface])/\Below w.heap.size (w.setCell ⟨jb,1,none⟩ (.int .u64 (no:Int))) w':=by
 have j0:=hJ.cell 0 (v:=Xw db) rfl;unfold Xw at j0;have lJ:=hJ.lt
 have hm:=fun W=>Xak db W
 have hB0:Below w.heap.size w (((w.alloc (.cells #[.pointer (some ⟨jb,0,none⟩)] 117)).alloc (.cells #[.string ⟨#[]⟩] 9)).alloc (.cells #[.nilIface] 81)):=(((Below.refl _ w).alloc (Nat.le_refl _) _).alloc (by simp) _).alloc (by simp;omega) _;have bP:=((BoxN.new w 117 #[.pointer (some ⟨jb,0,none⟩)]).alloc (.cells #[.string ⟨#[]⟩] 9)).alloc (.cells #[.nilIface] 81);have bS:=(BoxN.new (w.alloc (.cells #[.pointer (some ⟨jb,0,none⟩)] 117)) 9 #[.string ⟨#[]⟩]).alloc (.cells #[.nilIface] 81);have bE:=BoxN.new ((w.alloc (.cells #[.pointer (some ⟨jb,0,none⟩)] 117)).alloc (.cells #[.string ⟨#[]⟩] 9)) 81 #[.nilIface];simp only [World.size_alloc] at bS bE;have hN:=Xct db md mn b no hno c fd l f _ (hD.below hB0) (hE.below hB0 (Nat.le_trans (by decide) h9)) (Nat.le_trans (Nat.le_trans (by decide) h9) hB0.size);unfold Xw at hN;have j0w:=cell_later hB0 j0;have hf1:Fence.wide.fn 180:=trivial;have hf2:Fence.wide.fn 181:=trivial;have hf3:Fence.wide.fn 182:=trivial;have hf4:Fence.wide.fn 175:=trivial;have hf5:Fence.wide.fn 307:=trivial;refine callsIn_of_wp_marks func146 rfl trivial ?_ rfl;simp only [ntmps146,List.size_toArray,List.length_cons,List.length_nil,Nat.reduceAdd,Nat.reduceSub,Array.replicate_succ,Array.replicate_zero,List.push_toArray,List.append_toArray,List.nil_append,List.cons_append]
 gi_wp2_with (first
  | (gi_at_call 180;refine(callsIn_wide.2 hN).mono ?_;rintro e w1 ⟨g,cap,rfl,g0,gl,hb1⟩)
  | (gi_at_call 181;refine(callsIn_wide.2 (Xeo _ _ _)).mono ?_;rintro e w2 ⟨rfl,rfl⟩))
 have hB1:=hB0.trans (hb1.mono (by simp;omega));have bP1:=(bP.below hb1 (by simp;omega)).alloc (.cells #[.slice (some ⟨g,0,none⟩) 1 cap] 272);have bS1:=(bS.below hb1 (by simp)).alloc (.cells #[.slice (some ⟨g,0,none⟩) 1 cap] 272);have bE1:=(bE.below hb1 (by simp)).alloc (.cells #[.slice (some ⟨g,0,none⟩) 1 cap] 272);have bX1:=BoxN.new w1 272 #[.slice (some ⟨g,0,none⟩) 1 cap];have hB2:=hB1.alloc hB1.size (.cells #[.slice (some ⟨g,0,none⟩) 1 cap] 272)
 have hsz:(w1.alloc (.cells #[.slice (some ⟨g,0,none⟩) 1 cap] 272)).heap.size=w1.heap.size+1:=by simp
 have g0':(w1.alloc (.cells #[.slice (some ⟨g,0,none⟩) 1 cap] 272)).cell? ⟨g,0,none⟩=some (.int .u64 (no:Int)):=cell_later ((Below.refl _ w1).alloc (Nat.le_refl _) _) g0;have hz1:=hB1.size
 obtain⟨W2,hW2⟩:∃ W2,w1.alloc (.cells #[.slice (some ⟨g,0,none⟩) 1 cap] 272)=W2:=⟨_,rfl⟩
 rw [hW2] at bP1 bS1 bE1 bX1 hB2 hsz g0' ⊢;clear hW2 bP bS bE hN j0w
 have hown:∀(sv:Value) (wB:World),w.heap.size<=wB.heap.size->OwnFrom W2.heap.size (fun(_:List Unit) V=>((BoxN V w.heap.size 117 #[.pointer (some ⟨jb,0,none⟩)]/\BoxN V (w.heap.size+1) 9 #[sv])/\BoxN V (w.heap.size+1+1) 81 #[.nilIface])/\Below w.heap.size wB V):=fun sv wB hwB =>
  OwnFrom.and (OwnFrom.and (OwnFrom.and (Own.from (X6 _ _ (fun _=>#[.pointer (some ⟨jb,0,none⟩)])) _) (Own.from (X6 _ _ (fun _=>#[sv])) _)) (Own.from (X6 _ _ (fun _=>#[.nilIface])) _)) (ownFrom_below hwB (by omega))
 refine Uv (n:=9) (by omega) (gf:=212) (lb:=#[.pointer (some ⟨w1.heap.size,0,none⟩)]) rfl (enters_of func212 (by kernel_rfl) rfl) (Xcn 8 w1.heap.size g cap no (by decide) W2 bX1 g0' (by omega)) (fun _ _=>trivial) (fun _ _ _ _ _ _ _ _=>trivial) (Below.refl _ _) (fun _=>rfl)
  (fun pre V=>pre = []/\((BoxN V w.heap.size 117 #[.pointer (some ⟨jb,0,none⟩)]/\BoxN V (w.heap.size+1) 9 #[.string ⟨#[]⟩])/\BoxN V (w.heap.size+1+1) 81 #[.nilIface])/\Below w.heap.size w V)
  (fun cd pre V=>cd=Code.ret/\((BoxN V w.heap.size 117 #[.pointer (some ⟨jb,0,none⟩)]/\BoxN V (w.heap.size+1) 9 #[.string ⟨c.toArray⟩])/\BoxN V (w.heap.size+1+1) 81 #[.nilIface])/\Below w.heap.size (w.setCell ⟨jb,1,none⟩ (.int .u64 (no:Int))) V)
  ?ownI ?ownX
  (fun _ _ _=>trivial)
  ⟨rfl,⟨⟨bP1,bS1⟩,bE1⟩,hB2⟩
  (fun _ a' V=>a' = { tmps:=#[.pointer (some ⟨jb,0,none⟩),.pointer (some ⟨w.heap.size,0,none⟩),.pointer (some ⟨w.heap.size+1,0,none⟩),.pointer (some ⟨w.heap.size+1+1,0,none⟩),.slice (some ⟨g,0,none⟩) 1 cap,.nilIface,undef,.int .u64 (no:Int),undef,undef,.tuple #[.slice (some ⟨g,0,none⟩) 1 cap,.nilIface],.pointer (some ⟨jb,0,none⟩),.pointer (some ⟨jb,0,none⟩),.pointer (some ⟨jb,0,none⟩),.iface 74 (.pointer (some ⟨db,0,none⟩)),.tuple #[.slice (some ⟨g,0,none⟩) 1 cap,.nilIface],.slice (some ⟨g,0,none⟩) 1 cap,.nilIface,.nilIface,.bool false,undef,.slice (some ⟨g,0,none⟩) 1 cap,.func (.func 212) #[] #[.pointer (some ⟨w1.heap.size,0,none⟩)],.int .i64 0,.int .u64 (no:Int),undef,undef,undef,undef,undef,undef,undef,undef,undef,undef,undef,undef,undef,undef,undef,undef,undef,undef,undef,undef,undef,undef,undef,undef,undef,undef,undef,undef],defers:=[] }) ?ownA
  ?assign ?body ?done ?stop
 case ownI=>exact fun s A B row hs hg hr=>⟨hs.1,hown (.string ⟨#[]⟩) _ (Nat.le_refl _) s A B row hs.2 hg hr⟩
 case ownX=>exact fun cd s A B row hs hg hr=>⟨hs.1,hown (.string ⟨c.toArray⟩) _ (by simp) s A B row hs.2 hg hr⟩
 case assign =>
  rintro ll pre x V K ⟨rfl,⟨⟨bPV,bSV⟩,bEV⟩,hBV⟩ hK
  gi_wp2
  exact hK _ _ (KeepsFrom.refl _ _) trivial ⟨by simp,⟨⟨bPV,bSV⟩,bEV⟩,hBV⟩ rfl
 case ownA=>exact fun _ _ _ _ _ _ hs _ _=>hs
 case body =>
  rintro ll pre x _ V hl ⟨rfl,⟨⟨bPV,bSV⟩,bEV⟩,hBV⟩ rfl hlt;have p0:=bPV.cell 0 (v:=.pointer (some ⟨jb,0,none⟩)) rfl;have p0d:V.drew.cell? ⟨w.heap.size,0,none⟩=some (.pointer (some ⟨jb,0,none⟩)):=p0;have jV:=cell_later hBV j0;have jVd:V.drew.cell? ⟨jb,0,none⟩=some (.iface 74 (.pointer (some ⟨db,0,none⟩))):=jV
  have hRd:=fun W (hb:Below w.heap.size w W)=>Xjs db md mn b c fd l f W (hD.below hb)
  have hFo:=Xb5 no (by omega) V.drew (hE.below hBV.drew (Nat.le_trans (by decide) h9));generalize (⟨(fileN no).toArray⟩:ByteArray)=sq at *
  gi_wp2_with fail
  refine wpIn_region_any (by kernel_rfl) (Xx ll (by kernel_rfl) _ _ _ _ ?_)
  change wpAnyIn _ _ _ _ _ _ _ _ _ (World.drew _)
  refine Xv 4 (.int .u64 (no:Int)) rfl ?_
  refine Xs 0 5 rfl rfl (fun K hK=>?_) fun K hK=>?_
  focus
   go_simp;refine hK _ _ ?_;clear hK K;refine Xv 1 (.pointer (some ⟨jb,0,none⟩)) rfl ?_
   refine Xv 2 (.pointer (some ⟨jb,0,none⟩)) rfl ?_
   refine Xs 3 5 rfl rfl (fun K hK=>?_) fun K hK=>?_
   focus
    go_simp;refine hK _ _ ?_;clear hK K;refine Xv 6 (.iface 74 (.pointer (some ⟨db,0,none⟩))) rfl ?_
    refine Xv 7 (.iface 74 (.pointer (some ⟨db,0,none⟩))) rfl ?_
    refine Xr 5 rfl fun K hK=>?_;go_simp;refine(callsIn_wide.2 hFo).mono ?_;rintro e V1 ⟨rfl,hb5⟩;have p0e:=cell_later hb5 p0d;have jVe:=cell_later hb5 jVd;have hRd1:=hRd V1 (hBV.drew.trans (hb5.mono hBV.size));refine hK _ _ ?_;clear hK K;refine Xr 8 rfl fun K hK=>?_;go_simp;refine(callsIn_wide.2 hRd1).mono ?_;rintro e V2 ⟨g,cap,rfl,hby,⟨hg1,hg2⟩,hb2⟩;refine hK _ _ ?_;clear hK K;refine Xv 9 (.tuple #[.slice (some ⟨g,0,none⟩) c.length cap,.nilIface]) rfl ?_
    refine Xv 10 (.slice (some ⟨g,0,none⟩) c.length cap) rfl ?_
    refine Xv 11 (.nilIface) rfl ?_
   rotate_left
   focus
    go_simp;refine(callsIn_wide.2 hFo).mono ?_;rintro e V1 ⟨rfl,hb5⟩;have p0e:=cell_later hb5 p0d;have jVe:=cell_later hb5 jVd;have hRd1:=hRd V1 (hBV.drew.trans (hb5.mono hBV.size));refine hK _ _ ?_;clear hK K;refine Xr 3 rfl fun K hK=>?_;go_simp;refine hK _ _ ?_;clear hK K;refine Xv 6 (.iface 74 (.pointer (some ⟨db,0,none⟩))) rfl ?_
    refine Xv 7 (.iface 74 (.pointer (some ⟨db,0,none⟩))) rfl ?_
    refine Xr 8 rfl fun K hK=>?_;go_simp;refine(callsIn_wide.2 hRd1).mono ?_;rintro e V2 ⟨g,cap,rfl,hby,⟨hg1,hg2⟩,hb2⟩;refine hK _ _ ?_;clear hK K;refine Xv 9 (.tuple #[.slice (some ⟨g,0,none⟩) c.length cap,.nilIface]) rfl ?_
    refine Xv 10 (.slice (some ⟨g,0,none⟩) c.length cap) rfl ?_
    refine Xv 11 (.nilIface) rfl ?_
   rotate_left
  rotate_left 2
  focus
   go_simp;refine(callsIn_wide.2 hFo).mono ?_;rintro e V1 ⟨rfl,hb5⟩;have p0e:=cell_later hb5 p0d;have jVe:=cell_later hb5 jVd;have hRd1:=hRd V1 (hBV.drew.trans (hb5.mono hBV.size));refine hK _ _ ?_;clear hK K;refine Xr 0 rfl fun K hK=>?_;go_simp;refine hK _ _ ?_;clear hK K;refine Xv 1 (.pointer (some ⟨jb,0,none⟩)) rfl ?_
   refine Xv 2 (.pointer (some ⟨jb,0,none⟩)) rfl ?_
   refine Xr 3 rfl fun K hK=>?_;go_simp;refine hK _ _ ?_;clear hK K;refine Xv 6 (.iface 74 (.pointer (some ⟨db,0,none⟩))) rfl ?_
   refine Xv 7 (.iface 74 (.pointer (some ⟨db,0,none⟩))) rfl ?_
   refine Xr 8 rfl fun K hK=>?_;go_simp;refine(callsIn_wide.2 hRd1).mono ?_;rintro e V2 ⟨g,cap,rfl,hby,⟨hg1,hg2⟩,hb2⟩;refine hK _ _ ?_;clear hK K;refine Xv 9 (.tuple #[.slice (some ⟨g,0,none⟩) c.length cap,.nilIface]) rfl ?_
   refine Xv 10 (.slice (some ⟨g,0,none⟩) c.length cap) rfl ?_
   refine Xv 11 (.nilIface) rfl ?_
  rotate_left
  all_goals
   refine Xr 12 rfl fun K hK=>?_;go_simp;refine hK _ _ ?_;clear hK K;refine Xr 13 rfl fun K hK=>?_;go_simp;refine hK _ _ ?_;clear hK K;refine wpAnyIn_done (by kernel_rfl) ?_ _;have hbV1:Below V.heap.size V V1:=(Below.refl _ V).drew.trans hb5;have hbV2:Below V.heap.size V V2:=hbV1.trans (hb2.mono hbV1.size);have hB2d:Below w.heap.size w V2:=hBV.trans (hbV2.mono hBV.size);have hcv2:=Xc2 (cap:=cap) hby;have hBW:=Xeu c hc ha V2 (hE.below hB2d (Nat.le_trans (by decide) h9)) (Nat.le_trans h9 hB2d.size) (hG.below (hB2d.mono h9));rw [hbg] at hBW;clear hRd hRd1 hFo hm p0e jVe
   gi_wp2_with fail
   refine(CallsIn.inRound ll (callsIn_wide.2 hBW)).mono ?_;rintro e V3 ⟨rfl,hb3⟩;have hbV3:=hbV2.trans (hb3.mono hbV2.size);have hB3:=hBV.trans (hbV3.mono hBV.size);have bP3:=bPV.below hbV3 bPV.lt;have bS3:=bSV.below hbV3 bSV.lt;have bE3:=bEV.below hbV3 bEV.lt;have bJ3:=hJ.below hB3 hJ.lt;have hby3:=hby.below hb3 hg2;have p3:=bP3.cell 0 (v:=.pointer (some ⟨jb,0,none⟩)) rfl;have j3:=bJ3.cell 1 (v:=.int .u64 0) rfl;have j3f:=bJ3.frozen 1;have hB4:=Xcs hB3 lJ 1 (.int .u64 (no:Int))
   have hgj:g≠jb:=by have:=hbV1.size;have:=hBV.size;omega
   have hcv4:=Xc2 (cap:=cap) (hby3.other hgj 1 (.int .u64 (no:Int)));have bP4:=bP3.other (B':=jb) (by omega) 1 (.int .u64 (no:Int));have bS4:=bS3.other (B':=jb) (by omega) 1 (.int .u64 (no:Int));have bE4:=bE3.other (B':=jb) (by omega) 1 (.int .u64 (no:Int));have s3:=bS4.cell 0 (v:=.string ⟨#[]⟩) rfl;have s3f:=bS4.frozen 0;have e3:=bE4.cell 0 (v:=.nilIface) rfl;have e3f:=bE4.frozen 0
   gi_wp2
   have bP5:=(bP4.other (B':=w.heap.size+1) (by omega) 0 (.string ⟨c.toArray⟩)).other (B':=w.heap.size+1+1) (by omega) 0 .nilIface;have bS5:=(bS4.set 0 (.string ⟨c.toArray⟩)).other (B':=w.heap.size+1+1) (by omega) 0 .nilIface;have bE5:=(bE4.other (B':=w.heap.size+1) (by omega) 0 (.string ⟨c.toArray⟩)).set 0 .nilIface;have hB5:=(hB4.setCell (p:=⟨w.heap.size+1,0,none⟩) (by simp) (.string ⟨c.toArray⟩)).setCell (p:=⟨w.heap.size+1+1,0,none⟩) (by simp;omega) .nilIface;have hlE:=bE1.lt;exact⟨Jr (Jr (Jr (Y4 _ hbV3) (by omega)) (by omega)) (by omega),rfl,⟨⟨bP5,bS5⟩,bE5⟩,hB5⟩
 case done =>
  rintro D zs V hD0 rfl ⟨h,-⟩ _;exact absurd h (by simp)
 case stop =>
  rintro D cd pre V hD0 _ ⟨rfl,⟨⟨bPV,bSV⟩,bEV⟩,hBV⟩ hK;have s0:=bSV.cell 0 (v:=.string ⟨c.toArray⟩) rfl;have e0:=bEV.cell 0 (v:=.nilIface) rfl
  gi_wp2
  refine⟨by simp,.inl ⟨_,_,rfl,run_takeDeferred hK,?_⟩⟩;have bS6:BoxN (V.putObj D (.deferred none)) (w.heap.size+1) 9 #[.string ⟨c.toArray⟩]:=(World.putObj_heap_other (by have:=bE1.lt;omega)).trans bSV;have bE6:BoxN (V.putObj D (.deferred none)) (w.heap.size+1+1) 81 #[.nilIface]:=(World.putObj_heap_other (by have:=bE1.lt;omega)).trans bEV;have q1:=bS6.cell 0 (v:=.string ⟨c.toArray⟩) rfl;have q2:=bE6.cell 0 (v:=.nilIface) rfl;exact⟨.tuple #[.string ⟨c.toArray⟩,.nilIface],by simp [results,results146,go_sem,q1,q2],rfl,hBV.trans (belowK_b (w:=w) (Nat.le_refl _) V D _ _ (by omega) hK rfl rfl)⟩
end Go.Proofs
namespace Go.Proofs
open Go.RowKit Go.Sort Go.Lib Go.Shelf Go.Maps
theorem Xgq (xs:List (List UInt8)) (bs:List ByteArray) (h:bs.map (·.data.toList)=xs):bs.map Value.string=xs.map (fun x=>.string ⟨x.toArray⟩):=by
 rw [<- h,List.map_map];exact List.map_congr_left (fun b _=>rfl)
theorem Tryz.Xgt (s:List UInt8) (c:UInt8) (w:World) (hs:s.length<4294967281) (hG:Z1 w) (xs:List (List UInt8)) (hx:Lib.split s [c]=xs) :
  Calls prog 184 #[.string ⟨s.toArray⟩,.string ⟨#[c]⟩] w fun e w'=>e=.returned (.slice (some ⟨w.heap.size,0,none⟩) xs.length xs.length)/\w'=w.alloc (.cells (xs.map (fun x=>.string ⟨x.toArray⟩)).toArray 9):=by
 obtain⟨-,m,hm⟩:=hG;have h:=Any.strings_Split Xdd Xii ⟨s.toArray⟩ ⟨#[c]⟩ m w (by simpa [ByteArray.size] using hs) hm (Nat.le_refl 1)
 have hd:(Lib.splitB ⟨#[c]⟩ 0 (Lib.countB ⟨s.toArray⟩ ⟨#[c]⟩) ⟨s.toArray⟩).map (·.data.toList)=xs:=by
  rw [Lib.splitB_data];exact hx
 have hl:=Lib.splitB_all ⟨#[c]⟩ (Nat.le_refl 1) 0 _ ⟨s.toArray⟩ rfl;rw [Xgq xs _ hd,<- hl,show (Lib.splitB ⟨#[c]⟩ 0 (Lib.countB ⟨s.toArray⟩ ⟨#[c]⟩) ⟨s.toArray⟩).length=xs.length by rw [<- hd,List.length_map]] at h;exact h
theorem Tryz.atoi (s:List UInt8) (n:Int) (hl:s.length<=18) (h:Lib.atoi s=some n) (w:World) :
  Calls prog 237 #[.string ⟨s.toArray⟩] w fun e w'=>e=.returned (.tuple #[.int .i64 n,.nilIface])/\Below w.heap.size w w':=
 (Any.strconv_Atoi Xlz ⟨s.toArray⟩ n (by simpa [ByteArray.size] using hl) h w).mono fun _ _ ⟨h1,t,h2⟩=>⟨h1,by rw [h2];exact Lib.bytesWorld_below _ _ _⟩
theorem Tryz.Xoy (s:List UInt8) (hl:s.length<=281474976710656) (w:World) :
  Calls prog 217 #[.string ⟨s.toArray⟩] w fun e w'=>e=.returned (.string ⟨s.toArray⟩)/\Below w.heap.size w w':=
 AnyPu.stringslite_Clone Xjg ⟨s.toArray⟩ w (by simpa [ByteArray.size] using hl)
theorem Tryz.clone (s:List UInt8) (hl:s.length<=281474976710656) (w:World) :
  Calls prog 238 #[.string ⟨s.toArray⟩] w fun e w'=>e=.returned (.string ⟨s.toArray⟩)/\Below w.heap.size w w':=by
 have hC:=fun W=>Xoy s hl W
 go_enter func238,ntmps238
 go_wp2_with (go_at_call 217;refine(hC _).mono ?_;rintro e w1 ⟨rfl,hb1⟩)
 go_ret;exact⟨rfl,hb1⟩
theorem Xfu {u:Nat} (h:u<=1000000000):Lib.nDigits u<=10:=by
 rcases Nat.lt_or_ge u 1000000000 with h1 | h1
 ·have key:∀(k u:Nat),u<10 ^ (k+1)->Lib.nDigits u<=k+1:=fun k=>by
   induction k with
   | zero=>intro u hu;rw [Lib.nDigits_small (by simpa using hu)];exact Nat.le_refl _
   | succ k ih =>
    intro u hu
    by_cases hs:u<10
    ·rw [Lib.nDigits_small hs];omega
    rw [Lib.nDigits_big hs];have:=ih (u / 10) (by rw [Nat.pow_succ] at hu;omega);omega
  have:=key 8 u (by simpa using h1);omega
 exact Nat.le_of_eq (Lib.nDigits_unique 9 u (by simpa using h1) (by omega))
theorem Xh7 (u:Nat) (h:u<18446744073709551616):(Lib.decDigits u).length<=20:=by rw [Lib.decDigits_length];exact Lib.nDigits_le20 u h
theorem Xb4 {n:Int} (h0:0<=n) (h1:n<=1000000000):(Lib.itoa n).length<=18:=by
 obtain⟨u,rfl⟩:∃ u:Nat,n=u:=⟨n.toNat,by omega⟩
 unfold Lib.itoa;rw [if_neg (by omega)]
 have:(Lib.decDigits u).length<=10:=by
  rw [Lib.decDigits_length];exact Xfu (by omega)
 simpa using Nat.le_trans this (by decide)
theorem Tryz.Xkl (r:X7) (hr:r.Xh2) (w:World) (hE:Env w) (h9:9<=w.heap.size) (hG:Z1 w) :
  Calls prog 215 #[.string ⟨(recStr r).toArray⟩] w fun e w'=>e=.returned (.tuple #[.agg r.cells,.bool true])/\Below w.heap.size w w':=by
 have hok:=hr.ok;have hlen:=Vu hok;have a0:=hok.t0;have a1:=hok.t1;have b0:=hok.l0;have b1:=hok.l1;have n1:=hok.n1;have m1:=hok.a1;have h6:6<=w.heap.size:=Nat.le_trans (by decide) h9;have d4:=Xh7 r.at_.toNat (by omega);have d6:=Xh7 r.last.toNat (by omega);have l1:=Jd r.nk r.nn n1;have l2:=Jd r.ak r.an m1;have ek:=Xb4 hr.k.1 (by have:=hr.k.2;omega);have et:=Xb4 hr.t.1 hr.t.2
 have v4:puV (Lib.decDigits r.at_.toNat)=r.at_:=by rw [V7 _ (by omega)];omega
 have v6:puV (Lib.decDigits r.last.toNat)=r.last:=by rw [V7 _ (by omega)];omega
 have hN:∀(k:Int) (u:Nat),NmA k u->u<18446744073709551616->(nmStr k u).length<=21->∀ W,Below w.heap.size w W->Calls prog 63 #[.string ⟨(nmStr k u).toArray⟩] W fun e w'=>e=.returned (.agg #[.int .i64 k,.int .u64 (u:Int)])/\Below W.heap.size W w':=fun k u hk hu hl W hb=>by
  have h:=parse ⟨(nmStr k u).toArray⟩ (by show (nmStr k u).toArray.size<=1000000;simp;omega) W (hE.below hb h6) (Nat.le_trans h6 hb.size);simp only at h;rw [Xlr hk hu] at h;exact h
 have hP:∀(s:List UInt8) (v:Int),s.length<=20->puV s=v->∀ W,Below w.heap.size w W->Calls prog 118 #[.string ⟨s.toArray⟩,.int .i64 10,.int .i64 64] W fun e w'=>∃ er,e=.returned (.tuple #[.int .u64 v,er])/\Below W.heap.size W w':=fun s v hl hv W hb=>by
  have h:=Xei s (by omega) W (hE.below hb h6);rw [hv] at h;exact h
 have hb:(Lib.formatBool r.pd==Lib.formatBool true)=r.pd:=Xi7 r.pd
 have hS:=fun W (hb:Below w.heap.size w W)=>Xgt (recStr r) 32 W (by omega) (hG.below (hb.mono h9)) _ (Xjn hr.p)
 have key:=Xi4 (recStr r) (Lib.itoa r.kind) (nmStr r.nk r.nn) (nmStr r.ak r.an) (Lib.formatBool r.pd) (Lib.decDigits r.at_.toNat) (Lib.itoa r.tr) (Lib.decDigits r.last.toNat) r.pth (Lib.formatBool true) r.kind r.at_ r.tr r.last r.nk r.nn r.ak r.an w
  hS
  (fun W=>atoi _ _ ek (Xc6 hr.k.1) W)
  (hP _ _ d4 v4)
  (fun W=>atoi _ _ et (Xc6 hr.t.1) W)
  (hP _ _ d6 v6)
  (hN _ _ hr.n n1 l1)
  (hN _ _ hr.a m1 l2)
  (fun W=>Xil true W)
  (fun W=>clone r.pth (by have:=hok.p1;omega) W)
  (fun W hb'=>by
   rw [hb]
   exact Xc0 r hok W (hE.below hb' h6) (Nat.le_trans h6 hb'.size))
 rw [hb] at key;exact key
theorem Xhi (rs:List X7) (r:X7):Yk (rs ++ [r])=Yk rs++r.cells.toList:=by simp [Yk]
theorem Xdh {α:Type} {l:List α} {k:Nat} {x:α} (h:l[k]? = some x):l.take (k+1)=l.take k ++ [x]:=by rw [List.take_add_one,h];rfl
theorem Tryz.Xlo (rs:List X7) (hne:rs ≠ []) (hr:∀ r∈rs,r.Xh2) (hn:rs.length<=1000) (w:World) (hE:Env w) (h9:9<=w.heap.size) (hG:Z1 w) :
  Calls prog 186 #[.string ⟨(recTxt rs).toArray⟩] w fun e w'=>∃ v,e=.returned (.tuple #[v,.bool true])/\w'.ownsRow w.heap.size 135 10 v rs.length (Yk rs)/\Below w.heap.size w w':=by
 have hlen:=Y1 rs (fun r h=>(hr r h).ok);have hSp:=Xgt (recTxt rs) 59 w (by omega) hG _ (Xjc hne (fun r h=>(hr r h).p));rw [List.length_map] at hSp;obtain⟨i0,hi,hz0,hz1,hz2⟩:=info_parts Xdy;have bS:=BoxN.new w 9 ((rs.map recStr).map (fun x=>Value.string ⟨x.toArray⟩)).toArray;have hB0:Below w.heap.size w (w.alloc (.cells ((rs.map recStr).map (fun x=>Value.string ⟨x.toArray⟩)).toArray 9)):=(Below.refl _ w).alloc (Nat.le_refl _) _
 have hz:(w.alloc (.cells ((rs.map recStr).map (fun x=>Value.string ⟨x.toArray⟩)).toArray 9)).heap.size=w.heap.size+1:=by simp
 have hPO:=fun(r:X7) (h:r∈rs) W (hb:Below w.heap.size w W)=>Xkl r (hr r h) W (hE.below hb (by omega)) (Nat.le_trans h9 hb.size) (hG.below (hb.mono h9))
 have hcell:∀(i:Nat) (r:X7),rs[i]? = some r->((rs.map recStr).map (fun x=>Value.string ⟨x.toArray⟩)).toArray[i]? = some (.string ⟨(recStr r).toArray⟩):=fun i r h=>by simp [h]
 generalize ((rs.map recStr).map (fun x=>Value.string ⟨x.toArray⟩)).toArray=strs at *;generalize recTxt rs=txt at *
 obtain⟨n,hnn⟩:∃ n,rs.length=n:=⟨_,rfl⟩
 rw [hnn] at hn hlen hSp ⊢;have Hn:=Xb hnn;clear hnn hlen hne
 obtain⟨w0,hw0⟩:∃ w0,w.alloc (.cells strs 9)=w0:=⟨_,rfl⟩
 rw [hw0] at hSp bS hB0 hz;have Hz:=Xb hz;clear hw0 hz;go_enter func186,ntmps186
 go_wp2_with (go_at_call 184;refine hSp.mono ?_;rintro e w1 ⟨rfl,hw1⟩;subst w1)
 go_loopw [4,12] (fun v j wq=>∃ i:Nat,i<=n/\j=.int .i64 i/\wq.ownsRow w0.heap.size 135 10 v i (Yk (rs.take i))/\Below w0.heap.size w0 wq) (fun _ j _=>n-(intOf j).toNat)
 case atStart=>exact⟨0,Nat.zero_le _,rfl,World.ownsRow_nil _ _ _ _,Below.refl _ _⟩
 case round =>
  obtain⟨i,hil,rfl,hrow,hB⟩:=hrel;have hzq:=hB.size
  by_cases hin:i<n
  ·obtain⟨r,hri⟩:∃ r,rs[i]? = some r:=⟨rs[i]'(by have:=Xa Hn;omega),by simp [Xa Hn,hin]⟩
   have hsn:=Xb (show Yk (rs.take (i+1))=Yk (rs.take i)++r.cells.toList by rw [Xdh hri,Xhi]);have c0:=(bS.below hB bS.lt).cell i (hcell i r hri);have hP:=hPO r (List.mem_of_getElem? hri) wr (hB0.trans (hB.mono hB0.size))
   obtain⟨fl1,hfl1⟩:∃ f,Yk (rs.take (i+1))=f:=⟨_,rfl⟩
   obtain⟨fl0,hfl0⟩:∃ f,Yk (rs.take i)=f:=⟨_,rfl⟩
   rw [hfl1,hfl0] at hsn;rw [hfl0] at hrow;have Hfl1:=Xb hfl1;clear hfl1 hfl0;generalize recStr r=txr at *;obtain⟨kind,nk,nn,ak,an,pd,at_,tr,last,pth⟩:=r;unfold X7.cells Xi at hP hsn;simp only at hP hsn;clear hPO hcell hr
   go_wp2_with (first
    | (go_at_call 215;refine hP.mono ?_;rintro e w1 ⟨rfl,hb1⟩;have hrow1:=ownsRow_below hrow hb1;have hwl1:=hb1.size)
    | (at_builtin;refine wpList_append_own _ rfl _ _ 162 rfl w0.heap.size 135 i0 _ 10 88 underlying162 hi hz0 hz1 hz2 rfl (by decide) _ _ _ rfl ((hrow1.alloc _).alloc _) ⟨w1.heap.size+1,0,none⟩ 1 1 [.int .i64 kind,.int .i64 nk,.int .u64 (nn:Int),.int .i64 ak,.int .u64 (an:Int),.bool pd,.int .u64 at_,.int .i64 tr,.int .u64 last,.string ⟨pth.toArray⟩] rfl rfl (fun j u hu=>by rw [Uq];have:=(BoxN.new (w1.alloc (.cells #[.int .i64 kind,.int .i64 nk,.int .u64 (nn:Int),.int .i64 ak,.int .u64 (an:Int),.bool pd,.int .u64 at_,.int .i64 tr,.int .u64 last,.string ⟨pth.toArray⟩] 135)) 135 #[.int .i64 kind,.int .i64 nk,.int .u64 (nn:Int),.int .i64 ak,.int .u64 (an:Int),.bool pd,.int .u64 at_,.int .i64 tr,.int .u64 last,.string ⟨pth.toArray⟩]).cell j (v:=u) (by simpa using hu);rwa [World.size_alloc] at this) (by simp [Value.oneCell']) (by unfold maxLen;omega) (by omega) (by simp;omega) ?_))
   intro v' w2 hown' hgrow hn';clear hn'
   have hbk:∀ q,u4.ownBlock=some q->w0.heap.size<=q:=fun q hq=>(hrow.lt q hq).1
   have hB2:Below w0.heap.size w0 w2:=(((hB.trans (hb1.mono hzq)).alloc (by omega) _).alloc (by simp;omega) _).grown hgrow (by simp;omega) hbk;clear hgrow hrow1 hrow hB hb1 hP c0;go_wp2
   go_roundw
   case rel=>exact⟨i+1,by omega,rfl,by rw [Xa Hfl1,Xa hsn];exact hown',hB2⟩
   case measure=>simp [intOf];omega
  obtain rfl:i=n:=by omega
  rw [List.take_of_length_le (Nat.le_of_eq (Xa Hn))] at hrow;go_wp2
  go_ret2
  exact⟨_,rfl,Js hrow hB0.size,hB0.trans (hB.mono hB0.size)⟩
end Go.Proofs
namespace Go.Proofs
open Go.RowKit Go.Sort Go.Lib Go.Shelf Go.Maps Go.WideMaps
theorem Tryz.Xjq (vb mt ml:Nat) (vx:VX) (tm:Int) (tn ln:Nat) (tks:List Xe) (lks:List Xd) (w:World) (hV:Yb w vb mt ml vx tm tn ln tks lks) (at_:Int) (a0:0<=at_) (a1:at_<=18446744073709551615) :
  Calls prog 100 #[.pointer (some ⟨vb,0,none⟩),.agg (nowR at_).cells] w fun e w'=>e=.returned (.tuple #[])/\Yb w' vb mt ml vx (max tm at_) tn ln tks lks/\Spares [vb] w w':=by
 have hB0:Below w.heap.size w (w.alloc (.cells (Xi 0 0 0 0 0 false at_ 0 0 []) 135)):=(Below.refl _ w).alloc (Nat.le_refl _) _;have bR0:=BoxN.new w 135 (Xi 0 0 0 0 0 false at_ 0 0 []);have hV0:=hV.below hB0;have lV:=hV.va.v.lt;have m2:=hV0.va.v.cell 2 (v:=.int .u64 tm) rfl;have f2:=hV0.va.v.frozen 2;have t0:=hV.t0;have t1:=hV.t1;have bV3:BoxN ((w.setCell ⟨vb,2,none⟩ (.int .u64 (max tm at_))).alloc (.cells (Xi 0 0 0 0 0 false at_ 0 0 []) 135)).drew vb 126 (Yp vx (max tm at_) mt ml tn ln):=(hV.va.v.set 2 (.int .u64 (max tm at_))).alloc _;have hS:Spares [vb] w ((w.setCell ⟨vb,2,none⟩ (.int .u64 (max tm at_))).alloc (.cells (Xi 0 0 0 0 0 false at_ 0 0 []) 135)).drew:=(((Spares.of_below (Below.refl _ w)).set (by simp) _ _).alloc _).drew
 have hF:Yb ((w.setCell ⟨vb,2,none⟩ (.int .u64 (max tm at_))).alloc (.cells (Xi 0 0 0 0 0 false at_ 0 0 []) 135)).drew vb mt ml vx (max tm at_) tn ln tks lks:=by
  obtain⟨n1,k1,m1⟩:=hV.va.held.mapT;obtain⟨n2,k2,m2⟩:=hV.va.held.mapL;have hb6:=hS.below (B:=6) hV.va.six (fun b hb=>by rw [List.mem_singleton.1 hb];have:=hV.v9;omega);exact⟨⟨bV3,⟨⟨n1,k1,hS.map m1 (by simpa using hV.nes.1)⟩,⟨n2,k2,hS.map m2 (by simpa using hV.nes.2)⟩⟩,hV.va.ok,hV.va.env.below hb6 (Nat.le_refl _),Nat.le_trans hV.va.six hS.size⟩,hV.nt,hV.nl,by omega,by omega,hV.okT,hV.okL,hV.mne,hV.v9,hV.m9,hV.l9⟩
 have HF:=Xb (And.intro hF hS);clear hF hS bV3;unfold nowR X7.cells;unfold Xi at *;have r6:=bR0.cell 6 (v:=.int .u64 at_) rfl;go_enter func100,ntmps100;go_wp2
 go_region
 go_wp2
 go_end0
 exact⟨rfl,(Xa HF).1,(Xa HF).2⟩
theorem Tryz.Xot (vb mt ml:Nat) (vx:VX) (tm:Int) (s:VSt) (w:World) (hV:Yb w vb mt ml vx tm s.tn s.ln s.tks s.lks) (i:Item) (hF:i.Fits s) :
  Calls prog 100 #[.pointer (some ⟨vb,0,none⟩),.agg i.rec_.cells] w fun e w'=>e=.returned (.tuple #[])/\Yb w' vb mt ml vx tm (i.app s).tn (i.app s).ln (i.app s).tks (i.app s).lks/\Spares [vb,mt,ml] w w':=by
 cases i with
 | tok t =>
  obtain⟨h1,h2,h3,h4,h5⟩:=hF;refine(Xdq vb mt ml vx tm s.tn s.ln s.tks s.lks w hV 0 [] t h1 h2 h3 h4 h5).mono ?_;rintro e w' ⟨rfl,hV,hS⟩;exact⟨rfl,hV,hS.mono (by simp)⟩
 | lea t =>
  obtain⟨h1,h2,h3,h4,h5⟩:=hF;refine(Xdo vb mt ml vx tm s.tn s.ln s.tks s.lks w hV t h1 h2 h3 h4 h5).mono ?_;rintro e w' ⟨rfl,hV,hS⟩;exact⟨rfl,hV,hS.mono (by simp)⟩
 | gone tk n =>
  refine(Xb2 vb mt ml vx tm s.tn s.ln s.tks s.lks w hV tk n hF).mono ?_;rintro e w' ⟨rfl,hV,hS⟩;exact⟨rfl,hV,hS.mono (by simp)⟩
 | use tk n =>
  refine(Xde vb mt ml vx tm s.tn s.ln s.tks s.lks w hV tk n).mono ?_;rintro e w' ⟨rfl,hV,hS⟩;exact⟨rfl,hV,hS.mono (by simp)⟩
def inS (tm:Int) (l:X9) (s:VSt):Nat->Int × VSt
 | 0=>(tm,s)
 | q+1=>(max tm l.tm,Za (l.is.take q) s)
abbrev Tryz.VF (W:World) (vb mt ml:Nat) (vx:VX) (p:Int × VSt):Prop:=Yb W vb mt ml vx p.1 p.2.tn p.2.ln p.2.tks p.2.lks
theorem Tryz.Xok (vb mt ml:Nat) (vx:VX) (tm:Int) (l:X9) (s:VSt) (q:Nat) (r:X7) (w:World) (hok:l.Ok s) (hr:l.recs[q]? = some r) (hV:VF w vb mt ml vx (inS tm l s q)) :
  Calls prog 100 #[.pointer (some ⟨vb,0,none⟩),.agg r.cells] w fun e w'=>e=.returned (.tuple #[])/\VF w' vb mt ml vx (inS tm l s (q+1))/\Spares [vb,mt,ml] w w':=by
 obtain⟨⟨h0,h1⟩,hF,-,-⟩:=hok
 cases q with
 | zero =>
  obtain rfl:nowR l.tm=r:=by simpa [X9.recs] using hr
  refine(Xjq vb mt ml vx tm s.tn s.ln s.tks s.lks w hV l.tm h0 h1).mono ?_;rintro e w' ⟨rfl,hV,hS⟩;exact⟨rfl,hV,hS.mono (by simp)⟩
 | succ q =>
  obtain⟨i,hi,rfl⟩:∃ i,l.is[q]? = some i/\i.rec_=r:=by simpa [X9.recs,List.getElem?_map] using hr
  have h:=Xot vb mt ml vx (max tm l.tm) (Za (l.is.take q) s) w hV i (hF.get hi);rw [<- Xax hi] at h;exact h
end Go.Proofs
namespace Go.Proofs
open Go.RowKit Go.Sort Go.Lib Go.Shelf Go.Maps
def tmL (tm:Int) (ls:List X9):Int:=ls.foldl (fun t l=>max t l.tm) tm
def outS (tm:Int) (ls:List X9) (s:VSt) (i:Nat):Int × VSt:=(tmL tm (ls.take (i-1)),playL (ls.take (i-1)) s)
theorem OkL.get:∀ {ls:List X9} {s:VSt} {k:Nat} {l:X9},OkL ls s->ls[k]? = some l->l.Ok (playL (ls.take k) s)
 | [],_,_,_,_,h=>by simp at h
 | a :: ls,s,0,l,h,hl=>by
  obtain rfl:a=l:=by simpa using hl
  exact h.1
 | a :: ls,s,k+1,l,h,hl=>OkL.get (ls:=ls) (s:=Za a.is s) h.2 (by simpa using hl)
theorem Xiu {tm:Int} {ls:List X9} {s:VSt} {k:Nat} {l:X9} (h:ls[k]? = some l):outS tm ls s (k+1+1)=inS (outS tm ls s (k+1)).1 l (outS tm ls s (k+1)).2 l.recs.length:=by
 have e:ls.take (k+1)=ls.take k ++ [l]:=Xdh h
 have e2:l.recs.length=l.is.length+1:=by simp [X9.recs]
 unfold outS;rw [e2];simp only [Nat.add_sub_cancel,inS,e,tmL,playL,List.foldl_append,List.foldl_cons,List.foldl_nil,List.take_length]
theorem Xbk {t:List UInt8} (h:Yg t):Yg (bodyL t):=(Zm _).app (Yg.cons (by decide) ((Zm _).app (Yg.cons (by decide) h)))
theorem Xkk {ls:List X9} {l:X9} (h:l∈ls):(bodyL (recTxt l.recs)).length<=(textL ls).length:=by
 unfold textL
 induction ls with
 | nil=>cases h
 | cons a ls ih =>
  rw [List.flatMap_cons,List.length_append]
  rcases List.mem_cons.1 h with rfl | h
  ·have:(recLine l.recs).length=(bodyL (recTxt l.recs)).length+1:=by unfold recLine;rw [Zy,List.length_cons]
   omega
  have:=ih h;omega
theorem Xbw (ls:List X9):ls.length<=(textL ls).length:=by
 unfold textL
 induction ls with
 | nil=>simp
 | cons a ls ih =>
  rw [List.flatMap_cons,List.length_append,List.length_cons]
  have:(recLine a.recs).length=(bodyL (recTxt a.recs)).length+1:=by unfold recLine;rw [Zy,List.length_cons]
  omega
theorem Xfi {ls:List X9} (h:ls ≠ []):textL ls ≠ []:=fun e=>by
 have:=Xbw ls;rw [e] at this;exact h (List.eq_nil_of_length_eq_zero (by simpa using this))
theorem Tryz.Xm3 (vb mt ml:Nat) (vx:VX) (tm:Int) (s:VSt) (ls:List X9) (hok:OkL ls s) (hlen:(textL ls).length<4294967281) (w:World) (hV:VF w vb mt ml vx (tm,s)) (h9:9<=w.heap.size) (hG:Z1 w) :
  Calls prog 147 #[.string ⟨(textL ls).toArray⟩,.func (.func 100) #[.pointer (some ⟨vb,0,none⟩)] #[]] w fun e w'=>e=.returned (.tuple #[])/\VF w' vb mt ml vx (tmL tm ls,playL ls s)/\Spares [vb,mt,ml] w w':=by
 have hSp:=Xgt (textL ls) 10 w hlen hG _ hok.split;rw [List.length_cons,List.length_map] at hSp;have bS:=BoxN.new w 9 (([] :: ls.map (fun l=>bodyL (recTxt l.recs))).map (fun x=>Value.string ⟨x.toArray⟩)).toArray;have hB0:Below w.heap.size w (w.alloc (.cells (([] :: ls.map (fun l=>bodyL (recTxt l.recs))).map (fun x=>Value.string ⟨x.toArray⟩)).toArray 9)):=(Below.refl _ w).alloc (Nat.le_refl _) _
 have hcell0:(([] :: ls.map (fun l=>bodyL (recTxt l.recs))).map (fun x=>Value.string ⟨x.toArray⟩)).toArray[0]? = some (.string ⟨#[]⟩):=by simp
 have hcell:∀(i:Nat) (l:X9),ls[i]? = some l->(([] :: ls.map (fun l=>bodyL (recTxt l.recs))).map (fun x=>Value.string ⟨x.toArray⟩)).toArray[i+1]? = some (.string ⟨(bodyL (recTxt l.recs)).toArray⟩):=fun i l h=>by simp [h]
 have hle:∀ l∈ls,(bodyL (recTxt l.recs)).length<4294967281:=fun l hl=>Nat.lt_of_le_of_lt (Xkk hl) hlen
 generalize (([] :: ls.map (fun l=>bodyL (recTxt l.recs))).map (fun x=>Value.string ⟨x.toArray⟩)).toArray=strs at *;have hend:Hid (outS tm ls s (ls.length+1)=(tmL tm ls,playL ls s)):=Xb (by simp [outS])
 have hn32:ls.length<=4294967290:=by have:=Xbw ls;omega
 generalize textL ls=txt at *
 obtain⟨n,hnn⟩:∃ n,ls.length=n:=⟨_,rfl⟩
 rw [hnn] at hSp hend hn32;have Hn:=Xb hnn;have lv:=hV.va.v.lt;have lh:=hV.va.held.lt;have v9:=hV.v9;have m9:=hV.m9;have l9:=hV.l9
 have hgl:∀ {W:World},Spares [vb,mt,ml] w W->Below 9 w W:=fun hS=>hS.below h9 (fun b hb=>by
  simp only [List.mem_cons,List.not_mem_nil,or_false] at hb
  omega)
 have hV0:VF (w.alloc (.cells strs 9)) vb mt ml vx (outS tm ls s 0):=by
  have:outS tm ls s 0=(tm,s):=rfl;rw [this];exact hV.below hB0
 have hz:(w.alloc (.cells strs 9)).heap.size=w.heap.size+1:=by simp
 have hS0:Spares [vb,mt,ml] w (w.alloc (.cells strs 9)):=Spares.of_below hB0
 have nS:w.heap.size ∉ [vb,mt,ml]:=by simp;omega
 clear hnn hlen
 obtain⟨w0,hw0⟩:∃ w0,w.alloc (.cells strs 9)=w0:=⟨_,rfl⟩
 rw [hw0] at hSp bS hV0 hz hS0;clear hw0 hB0;go_enter func147,ntmps147
 go_wp2_with (go_at_call 184;refine hSp.mono ?_;rintro e w1 ⟨rfl,hw1⟩;subst w1)
 go_loopw [15] (fun j wq=>∃ i:Nat,i<=n+1/\j=.int .i64 i/\VF wq vb mt ml vx (outS tm ls s i)/\BoxN wq w.heap.size 9 strs/\Spares [vb,mt,ml] w wq) (fun j _=>n+1-(intOf j).toNat)
 case atStart=>exact⟨0,Nat.zero_le _,rfl,hV0,bS,hS0⟩
 case round =>
  obtain⟨i,hil,rfl,hVq,bSq,hSq⟩:=hrel
  have hT:=fun(x:List UInt8) (hx:x.length<4294967281) (ha:∀ b∈x,b.toNat<128)=>textOf x wr hx ha hVq.va.env (Nat.le_trans h9 hSq.size) (hG.below (hgl hSq))
  by_cases hin:i<n+1
  ·cases i with
   | zero =>
    have c0:=bSq.cell 0 hcell0;have hT0:=hT [] (by decide) (by simp);rw [show wholeB []=false by decide,show txtL [] = [] by rfl] at hT0;clear hT
    go_wp2_with (go_at_call 185;refine hT0.mono ?_;rintro e w2 ⟨rfl,hb2⟩)
    go_roundw
    case rel=>exact⟨1,by omega,rfl,hVq.below hb2,bSq.below hb2 bSq.lt,hSq.trans (Spares.of_below hb2)⟩
    case measure=>simp [intOf]
   | succ k =>
    obtain⟨l,hl⟩:∃ l,ls[k]? = some l:=⟨ls[k]'(by have:=Xa Hn;omega),by simp⟩
    have hlm:=List.mem_of_getElem? hl;have c0:=bSq.cell (k+1) (hcell k l hl)
    have hlk:l.Ok (outS tm ls s (k+1)).2:=by simpa [outS] using hok.get hl
    have hstep:=Xb (Xiu (tm:=tm) (s:=s) hl);have hbk:=hlk.back;have hasc:Yg (bodyL (recTxt l.recs)):=Xbk (Uc _ (fun r hr=>(hbk r hr).c));have hT0:=hT (bodyL (recTxt l.recs)) (hle l hlm) hasc;have htl:=Y1 l.recs (fun r hr=>(hbk r hr).ok)
    have hm0:0<l.recs.length:=by simp [X9.recs]
    have hm1:l.recs.length<=501:=by have:=hlk.2.2.2;simp [X9.recs];omega
    rw [(Vy _ (by omega)).1,(Vy _ (by omega)).2] at hT0
    have hPa:=fun W (hb:Below wr.heap.size wr W)=>Xlo l.recs (fun e=>by rw [e] at hm0;simp at hm0) hbk (by omega) W (hVq.below hb).va.env (by have:=hSq.size;have:=hb.size;omega) (hG.below ((hgl hSq).trans (hb.mono (by have:=hSq.size;omega))))
    have hC:=fun q r hr W=>Xok vb mt ml vx (outS tm ls s (k+1)).1 l (outS tm ls s (k+1)).2 q r W hlk hr
    have hstart:outS tm ls s (k+1)=inS (outS tm ls s (k+1)).1 l (outS tm ls s (k+1)).2 0:=rfl;rw [hstart] at hVq;generalize outS tm ls s (k+1)=o1 at *;generalize bodyL (recTxt l.recs)=bod at *;generalize recTxt l.recs=rtx at *;generalize hrecs:l.recs=recs at *
    obtain⟨m,hmm⟩:∃ m,recs.length=m:=⟨_,rfl⟩
    rw [hmm] at hm0 hm1 hPa hstep;have Hm:=Xb hmm;clear hmm hT hle hcell hcell0 hasc hbk htl hlk hl hstart
    go_wp2_with (first
     | (go_at_call 185;refine hT0.mono ?_;rintro e w2 ⟨rfl,hb2⟩)
     | (go_at_call 186;refine(hPa _ hb2).mono ?_;rintro e w3 ⟨v,rfl,hown,hb3⟩;obtain⟨g,cap,rfl,hg1,hg2⟩:=hown.form hm0))
    have hR3:Yo w3 g recs:=M3 (B:=w2.heap.size) (cap:=cap) (n:=m) (e:=135) hown;have hb4:Below wr.heap.size wr w3:=hb2.trans (hb3.mono hb2.size);have hV3:=hVq.below hb4;have bS3:=bSq.below hb4 bSq.lt;have hS3:=hSq.trans (Spares.of_below hb4)
    have ngb:g ∉ [vb,mt,ml]:=by have:=hVq.va.v.lt;have:=hVq.va.held.lt;have:=hb2.size;simp;omega
    clear hown hb3 hb2 hPa hT0 c0
    go_loopw [33] (fun j wq=>∃ q:Nat,q<=m/\j=.int .i64 q/\VF wq vb mt ml vx (inS o1.1 l o1.2 q)/\Yo wq g recs/\g<wq.heap.size/\BoxN wq w.heap.size 9 strs/\Spares [vb,mt,ml] w wq) (fun j _=>m-(intOf j).toNat)
    case atStart=>exact⟨0,Nat.zero_le _,rfl,hV3,hR3,hg2,bS3,hS3⟩
    case round =>
     clear hVq bSq hSq hV3 hR3 bS3 hS3 hb4;obtain⟨q,hq,rfl,hVq,hRq,hgq,bSq,hSq⟩:=hrel
     by_cases hqm:q<m
     ·obtain⟨r,hr⟩:∃ r,recs[q]? = some r:=⟨recs[q]'(by have:=Xa Hm;omega),by simp [Xa Hm,hqm]⟩
      have hrk:=hRq q r hr;have hB1:Below wr.heap.size wr (wr.alloc (.cells r.cells 135)):=(Below.refl _ _).alloc (Nat.le_refl _) _;have hC1:=hC q r hr _ (hVq.below hB1);have HB1:=Xb hB1;unfold X7.cells Xi at hrk hC1 hB1;have x0:=hrk 0 _ rfl;have x1:=hrk 1 _ rfl;have x2:=hrk 2 _ rfl;have x3:=hrk 3 _ rfl;have x4:=hrk 4 _ rfl;have x5:=hrk 5 _ rfl;have x6:=hrk 6 _ rfl;have x7:=hrk 7 _ rfl;have x8:=hrk 8 _ rfl;have x9:=hrk 9 _ rfl;simp only [Nat.add_zero] at x0;obtain⟨kind,nk,nn,ak,an,pd,at_,tr,last,pth⟩:=r;simp only at x0 x1 x2 x3 x4 x5 x6 x7 x8 x9 hC1 hB1;clear hrk hC
      go_wp2_with (go_at_call 100;refine hC1.mono ?_;rintro e w4 ⟨rfl,hV4,hS4⟩)
      have hsp:Spares [vb,mt,ml] wr w4:=(Spares.of_below hB1).trans hS4;clear x0 x1 x2 x3 x4 x5 x6 x7 x8 x9 hC1
      go_roundw
      case rel=>exact⟨q+1,by omega,rfl,hV4,hRq.spared hsp hgq ngb,Nat.lt_of_lt_of_le hgq hsp.size,hsp.box bSq nS,hSq.trans hsp⟩
      case measure=>simp [intOf];omega
     obtain rfl:q=m:=by omega
     rw [<- Xa hstep] at hVq;go_wp2
     go_roundw
     case rel=>exact⟨k+1+1,by omega,rfl,hVq,bSq,hSq⟩
     case measure=>simp [intOf];omega
  obtain rfl:i=n+1:=by omega
  rw [Xa hend] at hVq;go_wp2
  go_end0
  exact⟨rfl,hVq,hSq⟩
end Go.Proofs
namespace Go.Proofs
open Go.RowKit Go.Sort Go.Maps
theorem Tryz.root (w:World):Calls prog 85 #[] w fun e w'=>e=.returned (nmV (1,0))/\Below w.heap.size w w':=by
 unfold nmV;go_enter func85,ntmps85;go_wp2;exact bodyPost_ret (v:=.agg #[.int .i64 1,.int .u64 0]) (by simp [results,results85,go_sem]) rfl ⟨rfl,(Below.refl _ _).alloc (Nat.le_refl _) _⟩
theorem Xg9 (w:World) (db i i':Nat) (v v':Value):w.grownBy ((w.setCell ⟨db,i,none⟩ v).setCell ⟨db,i',none⟩ v') (some db):=
 ⟨rfl,rfl,rfl,by simp,fun k _ hne=>by
  have hd:k≠db:=fun e=>hne (by rw [e])
  rw [Yh _ _ _ _ _ hd,Yh _ _ _ _ _ hd]⟩
theorem BoxN.ne_map {H:Type} {P:Program} {k:TypeId} {R:Value->Option (DataW H × List MemPlace)} {D:DataW H} {W:World} {B b n:Nat} {t:TypeId} {cs:Array Value} (h:BoxN W B t cs) (hm:W.ownsMap P k R b n D):b≠B:=by
 rintro rfl;obtain⟨es,clock,hb,_⟩:=hm;have e:=hb.symm.trans h;cases e
theorem Tryz.up (db b:Nat) (m2 p l f dn:Value) (w:World) (hD:BoxN w db 100 #[.map (some b),m2,p,l,f,dn]) (hown:w.ownsMap prog 9 X8 b 0 (.map [])) :
  Calls prog 56 #[.pointer (some ⟨db,0,none⟩)] w fun e w'=>e=.returned (.tuple #[])/\(∃ b2,w.heap.size<=b2/\w'.ownsMap prog 9 X8 b2 0 (.map [])/\BoxN w' db 100 #[.map (some b),.map (some b2),.slice none 0 0,l,f,.bool false])/\w.grownBy w' (some db):=by
 have hmk:∀ W,(Instr.makeMap 97 none).run prog W=.ok (.map (some W.heap.size)) (W.alloc (.map #[] 0)):=fun W=>run_makeMap _ W
 have d0:=hD.cell 0 (v:=.map (some b)) rfl;have d1:=hD.cell 1 (v:=m2) rfl;have d2:=hD.cell 2 (v:=p) rfl;have d5:=hD.cell 5 (v:=dn) rfl;have f1:=hD.frozen 1;have f2:=hD.frozen 2;have f5:=hD.frozen 5;have lD:=hD.lt;go_enter func56,ntmps56;have hne:=hD.ne_map hown;have hown1:=(hown.setCell (a:=⟨db,1,none⟩) hne (.map (some w.heap.size))).alloc (.map #[] 0)
 go_wp2_with (first
  | (at_range;refine wpList_range_own _ rfl _ 97 rfl 9 101 (string_keyed underlying9) underlying97 _ b 0 _ rfl hown1 ?_;intro w1 hrg hg1 hs1)
  | go_in)
 have bD1:BoxN w1 db 100 #[.map (some b),.map (some w.heap.size),p,l,f,dn]:=((hD.set 1 (.map (some w.heap.size))).alloc (.map #[] 0)).kept hg1 (by simp);have hMn0:=World.ownsMap_made (w.setCell ⟨db,1,none⟩ (.map (some w.heap.size))) prog 9 X8;have hMn1:=hMn0.kept hg1 (by simp);rw [World.size_setCell] at hMn1
 have hgr:w.grownBy w1 (some db):=⟨hg1.os,hg1.tape,hg1.output,by rw [hs1];simp;omega,fun k hk hnk=>by
  have hd:k≠db:=fun e=>hnk (by rw [e])
  rw [hg1.block k (by simp;omega) (by simp)]
  show (((w.setCell ⟨db,1,none⟩ (.map (some w.heap.size))).heap.push _)[k]?)=_
  rw [Array.getElem?_push_lt (by simpa using hk),<- Array.getElem?_eq_getElem,Yh _ _ _ _ _ hd]⟩
 have HG:=Xb hgr;clear hgr hg1 hs1 hown1 hown d0 d1 d2 d5 f1 f2 f5;have d2:=bD1.cell 2 (v:=p) rfl;have d5:=bD1.cell 5 (v:=dn) rfl;have f2:=bD1.frozen 2;have f5:=bD1.frozen 5;refine wp_loop_rounds 1 ?_;rw [rounds_succ]
 go_wp2_with (first
  | (at_next;refine wpList_next_ranges _ rfl _ rfl 9 (string_keyed underlying9) X8 (fun v:Value=>v) (fun v:Value=>v) (fun v _ _=>⟨v,rfl⟩) (fun v _ _=>⟨v,rfl⟩) b _ 0 _ _ _ rfl hrg ?_ ?_)
  | go_in)
 ·intro _ _
  clear hrg;go_wp2
  go_end0
  have hnn:=bD1.ne_map hMn1;exact⟨rfl,⟨_,Nat.le_refl _,(hMn1.setCell (a:=⟨db,2,none⟩) hnn _).setCell (a:=⟨db,5,none⟩) hnn _,(bD1.set 2 _).set 5 _⟩,(Xa HG).andThen (Xg9 w1 db 2 5 _ _) (fun j e=>.inr e)⟩
 intro x c kl y yp w' cnt' _ h2;have h3:false=true:=h2;cases h3
theorem Tryz.Xnu (w:World):Calls prog 35 #[] w fun e w'=>∃ hb db rb md mn,e=.returned (.pointer (some ⟨hb,0,none⟩))/\BoxN w' hb 78 #[.pointer (some ⟨db,0,none⟩),.pointer (some ⟨rb,0,none⟩),.pointer none]/\Xk jName w' db md mn none none (.slice none 0 0) (-1) (-1)/\BoxN w' rb 88 #[.slice none 0 0,.int .u64 0]/\(w.heap.size<=hb/\w.heap.size<=db/\w.heap.size<=rb/\w.heap.size<=md/\w.heap.size<=mn)/\Below w.heap.size w w':=by
 have hmk:∀ W,(Instr.makeMap 97 none).run prog W=.ok (.map (some W.heap.size)) (W.alloc (.map #[] 0)):=fun W=>run_makeMap _ W
 have bD:=((BoxN.new (w.alloc (.map #[] 0)) 100 #[.map (some w.heap.size),.map none,.slice none 0 0,.int .i64 (-1),.int .i64 (-1),.bool false]).alloc (.cells #[.slice none 0 0,.int .u64 0] 88)).alloc (.cells #[.pointer (some ⟨w.heap.size+1,0,none⟩),.pointer (some ⟨w.heap.size+1+1,0,none⟩),.pointer none] 78);have bR:=(BoxN.new ((w.alloc (.map #[] 0)).alloc (.cells #[.map (some w.heap.size),.map none,.slice none 0 0,.int .i64 (-1),.int .i64 (-1),.bool false] 100)) 88 #[.slice none 0 0,.int .u64 0]).alloc (.cells #[.pointer (some ⟨w.heap.size+1,0,none⟩),.pointer (some ⟨w.heap.size+1+1,0,none⟩),.pointer none] 78);have bH:=BoxN.new (((w.alloc (.map #[] 0)).alloc (.cells #[.map (some w.heap.size),.map none,.slice none 0 0,.int .i64 (-1),.int .i64 (-1),.bool false] 100)).alloc (.cells #[.slice none 0 0,.int .u64 0] 88)) 78 #[.pointer (some ⟨w.heap.size+1,0,none⟩),.pointer (some ⟨w.heap.size+1+1,0,none⟩),.pointer none];have hM:((((w.alloc (.map #[] 0)).alloc (.cells #[.map (some w.heap.size),.map none,.slice none 0 0,.int .i64 (-1),.int .i64 (-1),.bool false] 100)).alloc (.cells #[.slice none 0 0,.int .u64 0] 88)).alloc (.cells #[.pointer (some ⟨w.heap.size+1,0,none⟩),.pointer (some ⟨w.heap.size+1+1,0,none⟩),.pointer none] 78)).ownsMap prog 9 X8 w.heap.size 0 (.map []):=(((World.ownsMap_made w prog 9 X8).alloc _).alloc _).alloc _;have hB:Below w.heap.size w ((((w.alloc (.map #[] 0)).alloc (.cells #[.map (some w.heap.size),.map none,.slice none 0 0,.int .i64 (-1),.int .i64 (-1),.bool false] 100)).alloc (.cells #[.slice none 0 0,.int .u64 0] 88)).alloc (.cells #[.pointer (some ⟨w.heap.size+1,0,none⟩),.pointer (some ⟨w.heap.size+1+1,0,none⟩),.pointer none] 78)):=((((Below.refl _ w).alloc (Nat.le_refl _) _).alloc (by simp) _).alloc (by simp;omega) _).alloc (by simp;omega) _;simp only [World.size_alloc] at bD bR bH;have hU:=up _ _ _ _ _ _ _ _ bD hM;go_enter func35,ntmps35
 go_wp2_with (go_at_call 56;refine hU.mono ?_;rintro e w1 ⟨rfl,⟨b2,hb2,hM2,bD1⟩,hg1⟩)
 go_ret;have hM1:=hM.kept hg1 (by intro e;injection e with e;omega);simp only [World.size_alloc] at hb2;exact⟨_,_,_,w.heap.size,b2,rfl,bH.kept hg1 (by intro e;injection e with e;omega),⟨bD1,⟨0,by omega,hM1⟩,⟨0,by omega,hM2⟩,by simp,by simp,by omega,by decide⟩,bR.kept hg1 (by intro e;injection e with e;omega),⟨by omega,by omega,by omega,by omega,by omega⟩,hB.grown hg1 (by simp;omega) (fun q hq=>by cases hq;omega)⟩
end Go.Proofs
namespace Go.Proofs
open Go.RowKit Go.Sort Go.Lib Go.Shelf Go.Maps
theorem Tryz.Xjo (db md mn:Nat) (fd:Option (Nat × List UInt8)) (l f:Int) (tv:Value) (w:World) (hD:Xk jName w db md mn fd none (.slice none 0 0) l f) (hE:Env w) (h9:9<=w.heap.size) (hG:Z1 w) :
  Calls prog 99 #[Xw db,tv] w fun e w'=>e=.returned (.tuple #[.pointer (some ⟨w.heap.size,0,none⟩),.nilIface])/\BoxN w' w.heap.size 212 #[Xw db,.int .u64 0,.nilIface]/\Below w.heap.size w w':=by
 have hB0:Below w.heap.size w (w.alloc (.cells #[Xw db,.int .u64 0,.nilIface] 212)):=(Below.refl _ w).alloc (Nat.le_refl _) _;have bJ:=BoxN.new w 212 #[Xw db,.int .u64 0,.nilIface];have hF:=callsIn_wide.1 (Xj0 w.heap.size db md mn _ _ fd l f _ bJ (hD.below hB0))
 have hT:=fun W (hb:Below w.heap.size w W)=>Xff tv W (hE.below hb (by omega)) (Nat.le_trans h9 hb.size) (hG.below (hb.mono h9))
 unfold Xw at hF hB0 bJ ⊢;go_enter func99,ntmps99
 go_wp2_with (first
  | (go_at_call 146;refine hF.mono ?_;rintro e w1 ⟨rfl,hb1⟩;have hB1:=hB0.trans (hb1.mono (by simp));have bJ1:=bJ.below hb1 (by simp))
  | (go_at_call 147;refine(hT _ hB1).mono ?_;rintro e w2 ⟨rfl,hb2⟩))
 go_ret2
 exact⟨rfl,bJ1.below hb2 bJ1.lt,hB1.trans (hb2.mono hB1.size)⟩
def Tryz.Mh:Value:=.agg #[.int .i64 0,.int .u64 0,.int .u64 18446744073709551615,.int .i64 0,.bool false]
theorem Tryz.Xib:(DataW.map []).put (nmL (1,0)) (.held Mh)=mapD ([rootE].map Xe.key).reverse:=by rfl
theorem Xks:X5 [rootE] []:=⟨by simp,by simp,by simp,by simp,fun t ht=>by rw [List.mem_singleton.1 ht];exact⟨by show (0:Nat)<Xj;decide,by show (0:Nat)<Xj;decide⟩,fun l hl=>(by cases hl)⟩
theorem Tryz.Xk7 (db md mn rb:Nat) (l f now:Int) (w:World) (hD:Xk jName w db md mn none none (.slice none 0 0) l f) (hE:Env w) (h9:9<=w.heap.size) (hG:Z1 w) (t0:0<=now) (t1:now<=18446744073709551615) (d9:9<=db/\9<=md/\9<=mn) :
  Calls prog 55 #[Xw db,.iface 75 (.pointer (some ⟨rb,0,none⟩)),.int .u64 now] w fun e w'=>∃ vb mt ml jb,e=.returned (.tuple #[.pointer (some ⟨vb,0,none⟩),.nilIface])/\Whole w' ⟨vb,mt,ml,jb,db,md,mn,0⟩ ⟨.pointer (some ⟨jb,0,none⟩),.iface 75 (.pointer (some ⟨rb,0,none⟩)),false,.slice none 0 0⟩ now ⟨0,0,[rootE],[]⟩ [] l f/\(w.heap.size<=vb/\w.heap.size<=mt/\w.heap.size<=ml/\w.heap.size<=jb)/\Below w.heap.size w w':=by
 have hmkT:∀ W,(Instr.makeMap 120 none).run prog W=.ok (.map (some W.heap.size)) (W.alloc (.map #[] 0)):=fun W=>run_makeMap _ W
 have hmkL:∀ W,(Instr.makeMap 121 none).run prog W=.ok (.map (some W.heap.size)) (W.alloc (.map #[] 0)):=fun W=>run_makeMap _ W
 have hR:=fun W=>root W
 unfold nmV at hR;have hM:=World.ownsMap_made w prog 114 X8;have hB0:Below w.heap.size w (w.alloc (.map #[] 0)):=(Below.refl _ w).alloc (Nat.le_refl _) _
 have hO:=fun W tv (hb:Below w.heap.size w W)=>Xjo db md mn none l f tv W (hD.below hb) (hE.below hb (by omega)) (Nat.le_trans h9 hb.size) (hG.below (hb.mono h9))
 unfold Xw at hO ⊢;go_enter func55,ntmps55
 go_wp2_with (first
  | (go_at_call 85;refine(hR _).mono ?_;rintro e w1 ⟨rfl,hb1⟩;have hM1:=Y6 hM hb1;have hB1:=hB0.trans (hb1.mono (by simp));obtain⟨w2,hrun,hM2,hT2⟩:=hM1.store Yq underlying120 (by decide) (key:=nmV (1,0)) (val:=Mh) (Xo.keyOf ⟨by decide,by decide⟩) (d:=.held Mh) (ps:=[]) rfl;have hB2:=hB1.grown hT2.grown hB1.size (fun q hq=>by cases hq;omega);have hB4:=hB2.alloc hB2.size (.map #[] 0);have hB5:=hB4.alloc hB4.size (.cells #[.pointer none,.iface 75 (.pointer (some ⟨rb,0,none⟩)),.int .u64 now,.map (some w.heap.size),.map (some w2.heap.size),.int .u64 0,.int .u64 0,.bool false,.slice none 0 0] 126);unfold nmV Mh at hrun)
  | (go_at_call 99;refine(hO _ _ hB5).mono ?_;rintro e w6 ⟨rfl,bJ6,hb6⟩;have bV5:=BoxN.new (w2.alloc (.map #[] 0)) 126 #[.pointer none,.iface 75 (.pointer (some ⟨rb,0,none⟩)),.int .u64 now,.map (some w.heap.size),.map (some w2.heap.size),.int .u64 0,.int .u64 0,.bool false,.slice none 0 0];rw [World.size_alloc] at bV5;have bV6:=bV5.below hb6 (by simp);have v0:=bV6.cell 0 (v:=.pointer none) rfl;have v0f:=bV6.frozen 0))
 simp only [World.size_alloc] at bJ6;have hz2:=hB2.size;have hMl5:=(World.ownsMap_made w2 prog 114 X8).alloc (.cells #[.pointer none,.iface 75 (.pointer (some ⟨rb,0,none⟩)),.int .u64 now,.map (some w.heap.size),.map (some w2.heap.size),.int .u64 0,.int .u64 0,.bool false,.slice none 0 0] 126);have hMt5:=(hM2.alloc (.map #[] 0)).alloc (.cells #[.pointer none,.iface 75 (.pointer (some ⟨rb,0,none⟩)),.int .u64 now,.map (some w.heap.size),.map (some w2.heap.size),.int .u64 0,.int .u64 0,.bool false,.slice none 0 0] 126);have hMl6:=Y6 hMl5 hb6;have hMt6:=Y6 hMt5 hb6;have hB6:=hB5.trans (hb6.mono hB5.size);have hB7:=hB6.setCell (p:=⟨w2.heap.size+1,0,none⟩) (by simp;omega) (.pointer (some ⟨w2.heap.size+1+1,0,none⟩));have hS7:Spares [w2.heap.size+1] w6 (w6.setCell ⟨w2.heap.size+1,0,none⟩ (.pointer (some ⟨w2.heap.size+1+1,0,none⟩))):=(Spares.of_below (Below.refl _ _)).set (by simp) _ _;have hMl7:=hS7.map hMl6 (by simp);have hMt7:=hS7.map hMt6 (by simp;have:=hM2.lt;omega);have bJ7:=hS7.box bJ6 (by simp);have bV7:=bV6.set 0 (.pointer (some ⟨w2.heap.size+1+1,0,none⟩));have hD7:=hD.below hB7;rw [show ((DataW.map []).put (Lit.string (nmB (1,0))) (.held Mh))=mapD ([rootE].map Xe.key).reverse from Xib] at hMt7
 exact bodyPost_ret (v:=.tuple #[.pointer (some ⟨w2.heap.size+1,0,none⟩),.nilIface]) (by simp [results,results55,go_sem]) rfl ⟨w2.heap.size+1,w.heap.size,w2.heap.size,w2.heap.size+1+1,rfl,
  { v:={ va:=⟨bV7,⟨⟨_,by decide,hMt7⟩,⟨0,by decide,hMl7⟩⟩,Xks,hE.below hB7 (by omega),by have:=hB7.size;omega⟩,nt:=fun t ht=>by rw [List.mem_singleton.1 ht];exact Nat.le_refl _,nl:=fun l hl=>(by cases hl),t0:=t0,t1:=t1,okT:=fun t ht=>by rw [List.mem_singleton.1 ht];exact⟨by decide,by decide,by decide,by decide,.inr (.inr ⟨rfl,rfl⟩)⟩,okL:=fun l hl=>(by cases hl),mne:=by have:=hM2.lt;show w.heap.size≠w2.heap.size;omega,v9:=by show 9<=w2.heap.size+1;omega,m9:=h9,l9:=by show 9<=w2.heap.size;omega },jn:=rfl,j:=bJ7,d:=⟨none,none,hD7,Fl.none,Fl.none⟩,j9:=by show 9<=w2.heap.size+1+1;omega,d9:=d9.1,md9:=d9.2.1,mn9:=d9.2.2,no9:=by show 0<1000000;decide,ne1:=by have:=hD.lt;show md≠w.heap.size/\md≠w2.heap.size/\mn≠w.heap.size/\mn≠w2.heap.size;omega,log:=Log.nil now },by omega,hB7⟩
end Go.Proofs
namespace Go.Proofs
open Go.RowKit Go.Sort Go.Lib Go.Shelf Go.Maps Go.WideMaps
theorem Tryz.Xi0 {fm:List UInt8} (db md mn:Nat) (fd fn:Option (Nat × List UInt8)) (l f:Int) (w:World) (hD:Xk fm w db md mn fd fn (.slice none 0 0) l f) (hl:l<0) (hl1 : -1000000000<=l) (hf:f<0) (hf1 : -1000000000<=f) :
  Calls prog 309 #[.pointer (some ⟨db,0,none⟩)] w fun e w'=>e=.returned .nilIface/\Xk fm w' db md mn fd fn (.slice none 0 0) (l-1) (f-1)/\Spares [db] w w':=by
 have hW:=Un db _ _ _ l f _ hD.box hl hl1 hf hf1;go_enter func309,ntmps309
 go_wp2_with (go_at_call 314;refine hW.mono ?_;rintro e W1 ⟨rfl,bD1,hS1⟩;have d2:=bD1.cell 2 (v:=.slice none 0 0) rfl;have f2:=bD1.frozen 2)
 have hD1:=hD.cells hS1 bD1;have hD3:=hD1.cells ((Spares.of_below (Below.refl _ W1)).set (bs:=[db]) (by simp) 2 (.slice none 0 0)) (bD1.set 2 _);have hs3:=hS1.set (b:=db) (by simp) 2 (.slice none 0 0);refine wp_loop_rounds 1 ?_;rw [rounds_succ];go_wp2;go_ret;exact⟨rfl,hD3,hs3⟩
theorem Tryz.Xi6 (db md mn b vb mt ml no:Nat) (hno:no<1000000) (fd:Option (Nat × List UInt8)) (l f:Int) (vx:VX) (tm:Int) (s:VSt) (ls:List X9) (hok:OkL ls s) (hne:ls ≠ []) (hlen:(textL ls).length<4294967281) (w:World)
  (hD:Xk (fileN no) w db md mn fd (some (b,textL ls)) (.slice none 0 0) l f) (hl:l<0) (hl1 : -1000000000<=l) (hf:f<0) (hf1 : -1000000000<=f) (hV:VF w vb mt ml vx (tm,s)) (h9:9<=w.heap.size) (hG:Z1 w) (d9:9<=db)
  (n1:db ∉ [vb,mt,ml]) (n2:md ∉ [vb,mt,ml]) (n3:mn ∉ [vb,mt,ml]) (n4:∀ q,fd=some q->q.1 ∉ [vb,mt,ml]) (n5:b ∉ [vb,mt,ml]) :
  Calls prog 99 #[Xw db,.func (.func 100) #[.pointer (some ⟨vb,0,none⟩)] #[]] w fun e w'=>e=.returned (.tuple #[.pointer (some ⟨w.heap.size,0,none⟩),.nilIface])/\BoxN w' w.heap.size 212 #[Xw db,.int .u64 (no:Int),.nilIface]/\VF w' vb mt ml vx (tmL tm ls,playL ls s)/\Xk (fileN no) w' db md mn fd (some (b,textL ls)) (.slice none 0 0) (l-1) (f-1)/\Spares [db,vb,mt,ml] w w':=by
 have hm:=fun W=>Jp db W
 have hB0:Below w.heap.size w (w.alloc (.cells #[Xw db,.int .u64 0,.nilIface] 212)):=(Below.refl _ w).alloc (Nat.le_refl _) _;have bJ:=BoxN.new w 212 #[Xw db,.int .u64 0,.nilIface]
 have hasc:∀ x∈textL ls,x.toNat<128:=fun x hx=>by
  obtain⟨li,hli,hx⟩:=List.mem_flatMap.1 hx
  have h1:Yg (recLine li.recs):=by
   unfold recLine;rw [Zy];exact Yg.cons (by decide) (Xbk (Uc _ (fun r hr=>(hok.back li hli r hr).c)))
  exact h1 x hx
 have hF:=callsIn_wide.1 (Xj5 w.heap.size db md mn b no hno _ (textL ls) fd l f _ bJ (hD.below hB0) hlen hasc (Xj3 hok hne) (hV.below hB0).va.env (Nat.le_trans h9 hB0.size) (hG.below (hB0.mono h9)))
 have hSy:=fun W (hb:Below w.heap.size w W)=>Xi0 db md mn fd _ l f W (hD.below hb) hl hl1 hf hf1
 have hT:=fun W (hV:VF W vb mt ml vx (tm,s)) (h9:9<=W.heap.size) (hG:Z1 W)=>Xm3 vb mt ml vx tm s ls hok hlen W hV h9 hG
 have hnt:=Xfi hne;have lv:=hV.va.v.lt;have lh:=hV.va.held.lt;have lD:=hD.lt;generalize textL ls=txt at *;generalize playL ls s=s' at *;generalize tmL tm ls=tm' at *
 have hnb:(txt == [])=false:=by simpa using hnt
 unfold Xw at hF hB0 bJ ⊢;go_enter func99,ntmps99
 go_wp2_with (first
  | (go_at_call 146;refine hF.mono ?_;rintro e w1 ⟨rfl,hb1⟩;have hB1:=(hB0.setCell (p:=⟨w.heap.size,1,none⟩) (Nat.le_refl _) (.int .u64 (no:Int))).trans (hb1.mono (by simp));have bJ1:=(bJ.set 1 (.int .u64 (no:Int))).below hb1 (by simp))
  | (go_at_call 309;refine(hSy _ hB1).mono ?_;rintro e w2 ⟨rfl,hD2,hS2⟩;have hV2:=(hV.below hB1).spared hS2 (by simp at n1 ⊢;omega) (by simp at n1 ⊢;omega) (by simp at n1 ⊢;omega) (fun b hb=>by rw [List.mem_singleton.1 hb];omega);have hG2:=hG.below (((hB1.mono h9)).trans (hS2.below (by have:=hB1.size;omega) (fun b hb=>by rw [List.mem_singleton.1 hb];exact d9)));have hT2:=hT w2 hV2 (by have:=hB1.size;have:=hS2.size;omega) hG2)
  | (go_at_call 147;refine hT2.mono ?_;rintro e w3 ⟨rfl,hV3,hS3⟩))
 go_ret2
 exact⟨rfl,hS3.box (hS2.box bJ1 (by simp;omega)) (by simp;omega),hV3,hD2.spared hS3 n1 n2 n3 n4 (fun q hq=>by cases hq;exact n5),((Spares.of_below hB1).trans (hS2.mono (by simp))).trans (hS3.mono (by simp))⟩
theorem Xh1 {bs bs':List Nat} {W W' W'':World} (h:Below W.heap.size W W') (h':Spares bs' W' W'') (hg:∀ b∈bs',b∈bs\/W.heap.size<=b):Spares bs W W'':=
 ⟨h'.os.trans h.os,h'.tape.trans h.tape,h'.output.trans h.output,Nat.le_trans h.size h'.size,fun k hk hn=>(h'.block k (Nat.lt_of_lt_of_le hk h.size) (fun e=>by
  rcases hg k e with e | e
  ·exact hn e
  omega)).trans (h.block k hk)⟩
theorem Mi {bs:List Nat} {W W' W'':World} {b:Nat} (h:Spares bs W W') (hg:W'.grownBy W'' (some b)) (hb:W.heap.size<=b):Spares bs W W'':=
 ⟨hg.os.trans h.os,hg.tape.trans h.tape,hg.output.trans h.output,Nat.le_trans h.size hg.size,fun k hk hn=>(hg.block k (Nat.lt_of_lt_of_le hk h.size) (fun e=>by injection e with e;omega)).trans (h.block k hk hn)⟩
theorem Tryz.Yb.reJ {W:World} {vb mt ml:Nat} {vx:VX} {tm:Int} {tn ln:Nat} {tks:List Xe} {lks:List Xd} (h:Yb W vb mt ml vx tm tn ln tks lks) (j:Value):Yb (W.setCell ⟨vb,0,none⟩ j) vb mt ml { vx with jn:=j } tm tn ln tks lks:=by
 have hS:Spares [vb] W (W.setCell ⟨vb,0,none⟩ j):=(Spares.of_below (Below.refl _ W)).set (by simp) _ _;have bV:BoxN (W.setCell ⟨vb,0,none⟩ j) vb 126 (Yp { vx with jn:=j } tm mt ml tn ln):=h.va.v.set 0 j;obtain⟨n1,k1,m1⟩:=h.va.held.mapT;obtain⟨n2,k2,m2⟩:=h.va.held.mapL;have hb6:=hS.below (B:=6) h.va.six (fun b hb=>by rw [List.mem_singleton.1 hb];have:=h.v9;omega);exact⟨⟨bV,⟨⟨n1,k1,hS.map m1 (by simpa using h.nes.1)⟩,⟨n2,k2,hS.map m2 (by simpa using h.nes.2)⟩⟩,h.va.ok,h.va.env.below hb6 (Nat.le_refl _),Nat.le_trans h.va.six hS.size⟩,h.nt,h.nl,h.t0,h.t1,h.okT,h.okL,h.mne,h.v9,h.m9,h.l9⟩
theorem Xly:∀(ls:List X9) (tm:Int),tm<=tmL tm ls/\∀ l∈ls,l.tm<=tmL tm ls
 | [],_=>⟨Int.le_refl _,fun _ h=>by cases h⟩
 | a :: ls,tm=>by
  obtain⟨h1,h2⟩:=Xly ls (max tm a.tm);have e:tmL tm (a :: ls)=tmL (max tm a.tm) ls:=rfl;rw [e];refine⟨by omega,fun l hl=>?_⟩
  rcases List.mem_cons.1 hl with rfl | hl
  ·omega
  exact h2 l hl
theorem Tryz.Xlx (db md mn rb bd b no:Nat) (hno:no<1000000) (l f now:Int) (ls:List X9) (hok:OkL ls rootS) (hnel:ls ≠ []) (hlen:(textL ls).length<4294967281) (w:World) (hD:Xk (fileN no) w db md mn (some (bd,textL ls)) (some (b,textL ls)) (.slice none 0 0) l f) (hl:l<0) (hl1 : -1000000000<=l) (hf:f<0) (hf1 : -1000000000<=f) (hE:Env w) (h9:9<=w.heap.size) (hG:Z1 w) (t0:0<=now) (t1:now<=18446744073709551615) (d9:9<=db/\9<=md/\9<=mn) :
  Calls prog 55 #[Xw db,.iface 75 (.pointer (some ⟨rb,0,none⟩)),.int .u64 now] w fun e w'=>∃ vb mt ml jb,e=.returned (.tuple #[.pointer (some ⟨vb,0,none⟩),.nilIface])/\Whole w' ⟨vb,mt,ml,jb,db,md,mn,no⟩ ⟨.pointer (some ⟨jb,0,none⟩),.iface 75 (.pointer (some ⟨rb,0,none⟩)),false,.slice none 0 0⟩ (tmL now ls) (playL ls rootS) (textL ls) (l-1) (f-1)/\(w.heap.size<=vb/\w.heap.size<=mt/\w.heap.size<=ml/\w.heap.size<=jb)/\Spares [db] w w':=by
 have hmkT:∀ W,(Instr.makeMap 120 none).run prog W=.ok (.map (some W.heap.size)) (W.alloc (.map #[] 0)):=fun W=>run_makeMap _ W
 have hmkL:∀ W,(Instr.makeMap 121 none).run prog W=.ok (.map (some W.heap.size)) (W.alloc (.map #[] 0)):=fun W=>run_makeMap _ W
 have hR:=fun W=>root W
 unfold nmV at hR;have hM:=World.ownsMap_made w prog 114 X8;have hB0:Below w.heap.size w (w.alloc (.map #[] 0)):=(Below.refl _ w).alloc (Nat.le_refl _) _;have lD:=hD.lt;have lbd:=(hD.sd _ rfl).lt;have lbn:=(hD.sn _ rfl).lt;simp only at lbd lbn
 have hO:=fun W vb mt ml vx (hb:Below w.heap.size w W) (hV:VF W vb mt ml vx (now,rootS)) (q1:w.heap.size<=vb) (q2:w.heap.size<=mt) (q3:w.heap.size<=ml)=>Xi6 db md mn b vb mt ml no hno (some (bd,textL ls)) l f vx now rootS ls hok hnel hlen W (hD.below hb) hl hl1 hf hf1 hV (Nat.le_trans h9 hb.size) (hG.below (hb.mono h9)) d9.1 (by simp;omega) (by simp;omega) (by simp;omega) (fun q hq=>by cases hq;simp;omega) (by simp;omega)
 have Hnt:Hid (textL ls ≠ []):=Xb (Xfi hnel);have hlog:Hid (Log (tmL now ls) (playL ls rootS) (textL ls)):=Xb ⟨ls,hok,rfl,rfl,(Xly ls now).2⟩;generalize textL ls=txt at *;generalize playL ls rootS=s' at *;generalize tmL now ls=tm' at *;unfold Xw at hO ⊢;go_enter func55,ntmps55
 go_wp2_with (first
  | (go_at_call 85;refine(hR _).mono ?_;rintro e w1 ⟨rfl,hb1⟩;have hM1:=Y6 hM hb1;have hB1:=hB0.trans (hb1.mono (by simp));obtain⟨w2,hrun,hM2,hT2⟩:=hM1.store Yq underlying120 (by decide) (key:=nmV (1,0)) (val:=Mh) (Xo.keyOf ⟨by decide,by decide⟩) (d:=.held Mh) (ps:=[]) rfl;have hB2:=hB1.grown hT2.grown hB1.size (fun q hq=>by cases hq;omega);have hB4:=hB2.alloc hB2.size (.map #[] 0);have hB5:=hB4.alloc hB4.size (.cells #[.pointer none,.iface 75 (.pointer (some ⟨rb,0,none⟩)),.int .u64 now,.map (some w.heap.size),.map (some w2.heap.size),.int .u64 0,.int .u64 0,.bool false,.slice none 0 0] 126);unfold nmV Mh at hrun)
  | fail)
 have hz2:=hB2.size;have lM2:=hM2.lt;have hMl5:=(World.ownsMap_made w2 prog 114 X8).alloc (.cells #[.pointer none,.iface 75 (.pointer (some ⟨rb,0,none⟩)),.int .u64 now,.map (some w.heap.size),.map (some w2.heap.size),.int .u64 0,.int .u64 0,.bool false,.slice none 0 0] 126);have hMt5:=(hM2.alloc (.map #[] 0)).alloc (.cells #[.pointer none,.iface 75 (.pointer (some ⟨rb,0,none⟩)),.int .u64 now,.map (some w.heap.size),.map (some w2.heap.size),.int .u64 0,.int .u64 0,.bool false,.slice none 0 0] 126);rw [show ((DataW.map []).put (Lit.string (nmB (1,0))) (.held Mh))=mapD ([rootE].map Xe.key).reverse from Xib] at hMt5;have bV5:=BoxN.new (w2.alloc (.map #[] 0)) 126 #[.pointer none,.iface 75 (.pointer (some ⟨rb,0,none⟩)),.int .u64 now,.map (some w.heap.size),.map (some w2.heap.size),.int .u64 0,.int .u64 0,.bool false,.slice none 0 0];rw [World.size_alloc] at bV5
 have hV5:VF ((w2.alloc (.map #[] 0)).alloc (.cells #[.pointer none,.iface 75 (.pointer (some ⟨rb,0,none⟩)),.int .u64 now,.map (some w.heap.size),.map (some w2.heap.size),.int .u64 0,.int .u64 0,.bool false,.slice none 0 0] 126)) (w2.heap.size+1) w.heap.size w2.heap.size ⟨.pointer none,.iface 75 (.pointer (some ⟨rb,0,none⟩)),false,.slice none 0 0⟩ (now,rootS):=
  { va:=⟨bV5,⟨⟨_,by decide,hMt5⟩,⟨0,by decide,hMl5⟩⟩,Xks,hE.below hB5 (by omega),by have:=hB5.size;omega⟩,nt:=fun t ht=>by rw [List.mem_singleton.1 ht];exact Nat.le_refl _,nl:=fun l hl=>(by cases hl),t0:=t0,t1:=t1,okT:=fun t ht=>by rw [List.mem_singleton.1 ht];exact⟨by decide,by decide,by decide,by decide,.inr (.inr ⟨rfl,rfl⟩)⟩,okL:=fun l hl=>(by cases hl),mne:=by show w.heap.size≠w2.heap.size;omega,v9:=by show 9<=w2.heap.size+1;omega,m9:=h9,l9:=by show 9<=w2.heap.size;omega }
 have hO5:=hO _ _ _ _ _ hB5 hV5 (by omega) (Nat.le_refl _) (by omega)
 have hz5:((w2.alloc (.map #[] 0)).alloc (.cells #[.pointer none,.iface 75 (.pointer (some ⟨rb,0,none⟩)),.int .u64 now,.map (some w.heap.size),.map (some w2.heap.size),.int .u64 0,.int .u64 0,.bool false,.slice none 0 0] 126)).heap.size=w2.heap.size+1+1:=by simp
 generalize (w2.alloc (.map #[] 0)).alloc (.cells #[.pointer none,.iface 75 (.pointer (some ⟨rb,0,none⟩)),.int .u64 now,.map (some w.heap.size),.map (some w2.heap.size),.int .u64 0,.int .u64 0,.bool false,.slice none 0 0] 126)=W5 at *;rw [hz5] at hO5;clear hO hV5 bV5 hMt5 hMl5 hrun hM2 hT2 hM1 hM;refine hO5.mono ?_;rintro e w6 ⟨rfl,bJ6,hV6,hD6,hS6⟩;have v0:=hV6.va.v.cell 0 (v:=.pointer none) rfl;have v0f:=hV6.va.v.frozen 0;have hV7:=hV6.reJ (.pointer (some ⟨w2.heap.size+1+1,0,none⟩));have hS7:Spares [w2.heap.size+1] w6 (w6.setCell ⟨w2.heap.size+1,0,none⟩ (.pointer (some ⟨w2.heap.size+1+1,0,none⟩))):=(Spares.of_below (Below.refl _ _)).set (by simp) _ _;have bJ7:=hS7.box bJ6 (by simp);have hD7:=hD6.spared hS7 (by simp;omega) (by simp;omega) (by simp;omega) (fun q hq=>by cases hq;simp;omega) (fun q hq=>by cases hq;simp;omega)
 have hSp:Spares [db] w (w6.setCell ⟨w2.heap.size+1,0,none⟩ (.pointer (some ⟨w2.heap.size+1+1,0,none⟩))):=Xh1 hB5 ((hS6.mono (bs':=[db,w2.heap.size+1,w.heap.size,w2.heap.size]) (by simp)).trans (hS7.mono (by simp))) (fun b hb=>by
  simp only [List.mem_cons,List.not_mem_nil,or_false] at hb ⊢
  omega)
 go_wp2
 exact bodyPost_ret (v:=.tuple #[.pointer (some ⟨w2.heap.size+1,0,none⟩),.nilIface]) (by simp [results,results55,go_sem]) rfl ⟨w2.heap.size+1,w.heap.size,w2.heap.size,w2.heap.size+1+1,rfl,
  { v:=hV7,jn:=rfl,j:=bJ7,d:=⟨_,_,hD7,Fl.some (Xa Hnt),Fl.some (Xa Hnt)⟩,j9:=by show 9<=w2.heap.size+1+1;omega,d9:=d9.1,md9:=d9.2.1,mn9:=d9.2.2,no9:=hno,ne1:=by show md≠w.heap.size/\md≠w2.heap.size/\mn≠w.heap.size/\mn≠w2.heap.size;omega,log:=Xa hlog },by omega,hSp⟩
end Go.Proofs
namespace Go.Proofs
open Go.RowKit Go.Sort Go.Lib Go.Shelf Go.Maps
abbrev Um (hb db rb:Nat) (W:World):Prop:=W.cell? ⟨hb,0,none⟩=some (.pointer (some ⟨db,0,none⟩))/\W.cell? ⟨hb,1,none⟩=some (.pointer (some ⟨rb,0,none⟩))
theorem Um.drew {hb db rb:Nat} {W:World} (h:Um hb db rb W):Um hb db rb W.drew:=h
theorem Tryz.Xoz (B hb db rb md mn:Nat) (vv ra rc:Value) (l f:Int) (now c d:Int) (w:World) (hH:BoxN w hb 78 #[.pointer (some ⟨db,0,none⟩),.pointer (some ⟨rb,0,none⟩),vv]) (hD:Xk jName w db md mn none none (.slice none 0 0) l f) (hR:BoxN w rb 88 #[ra,rc]) (hlo:B<=hb/\B<=db/\B<=rb/\B<=md/\B<=mn) (hBw:B<=w.heap.size) (b9:9<=B) (hE:Env w) (hG:Z1 w) (t0:0<=now) (t1:now<=18446744073709551615) :
  Calls prog 33 #[.pointer (some ⟨hb,0,none⟩),.int .u64 now,Ya (-1) (-1) c d] w fun e w'=>e=.returned (.int .i64 0)/\(∃ k vx,(k.no=0/\B<=k.jb)/\Sys B w' hb rb ⟨k,vx,now,⟨0,0,[rootE],[]⟩,[]⟩)/\Below B w w':=by
 obtain⟨lo1,lo2,lo3,lo4,lo5⟩:=hlo;have hne:=hH.ne hD.box (by decide);have hnr:=hH.ne hR (by decide);have hnd:=hD.box.ne hR (by decide);have lH:=hH.lt;have lD:=hD.lt;have bF:=BoxN.new w 29 #[.int .i64 (-1),.int .i64 (-1),.int .i64 c,.int .i64 d];have hB0:Below w.heap.size w (w.alloc (.cells #[.int .i64 (-1),.int .i64 (-1),.int .i64 c,.int .i64 d] 29)):=(Below.refl _ w).alloc (Nat.le_refl _) _;have hBf:=before hb db _ _ _ _ _ _ _ _ (-1) (-1) c d _ (hH.alloc (.cells #[.int .i64 (-1),.int .i64 (-1),.int .i64 c,.int .i64 d] 29)) (hD.box.alloc _)
 have hO:=fun W (hD':Xk jName W db md mn none none (.slice none 0 0) (-1) (-1)) (hb':Below B w W)=>Xk7 db md mn rb (-1) (-1) now W hD' (hE.below hb' (by omega)) (by have:=hb'.size;omega) (hG.below (hb'.mono b9)) t0 t1 ⟨by omega,by omega,by omega⟩
 unfold Ya at hBf ⊢;go_enter func33,ntmps33
 go_wp2_with (go_at_call 40;refine hBf.mono ?_;rintro e w1 ⟨rfl,bD1,hg1⟩)
 have bH1:=(hH.alloc (.cells #[.int .i64 (-1),.int .i64 (-1),.int .i64 c,.int .i64 d] 29)).kept hg1 (by intro e;injection e with e;exact hne e);have bR1:=(hR.alloc (.cells #[.int .i64 (-1),.int .i64 (-1),.int .i64 c,.int .i64 d] 29)).kept hg1 (by intro e;injection e with e;exact hnd e.symm);have bF1:=bF.kept hg1 (by intro e;injection e with e;omega);have hD1:=(hD.below hB0).cells (Spares.X4 hg1 (by simp)) bD1;have hB1:Below B w w1:=(hB0.mono hBw).grown hg1 (by simp;omega) (fun q hq=>by cases hq;exact lo2)
 have hP1:Um hb db rb w1:=⟨bH1.cell 0 rfl,bH1.cell 1 rfl⟩
 have l1:=bH1.lt;have hO1:=hO w1.drew (hD1.below (Below.refl _ _).drew) hB1.drew;unfold Xw at hO1;clear hBf hO
 go_region_held3 (Um hb db rb) (first
  | with_reducible exact Um.drew hP1
  | with_reducible assumption) (first | (go_at_call 55;refine hO1.mono ?_;rintro e w2 ⟨vb,mt,ml,jb,rfl,hW2,hlo2,hb2⟩;have bH2:=BoxN.below (W:=w1.drew) bH1 hb2 bH1.lt;have hP2:Um hb db rb w2:=⟨bH2.cell 0 rfl,bH2.cell 1 rfl⟩))
 have hz1:w1.drew.heap.size=w1.heap.size:=rfl;have bF2:=BoxN.below (W:=w1.drew) bF1 hb2 bF1.lt;have bR2:=BoxN.below (W:=w1.drew) bR1 hb2 bR1.lt;have hB2:Below B w w2:=hB1.drew.trans (hb2.mono (by have:=hB1.size;omega));have hS3:Spares [hb] w2 (w2.setCell ⟨hb,2,none⟩ (.pointer (some ⟨vb,0,none⟩))):=(Spares.of_below (Below.refl _ _)).set (by simp) _ _;have bH3:=bH2.set 2 (.pointer (some ⟨vb,0,none⟩));have bF3:=hS3.box bF2 (by simp;omega);have bR3:=hS3.box bR2 (by simpa using Ne.symm hnr)
 have hW3:=hW2.spared hS3 (fun b hb'=>by
  obtain⟨fd,fn,hd,-,-⟩:=hW2.d;obtain⟨n3,-,m3⟩:=hd.dm;obtain⟨n4,-,m4⟩:=hd.nm;have hz:=hlo2;simp only [Blk.turns,List.mem_cons,List.not_mem_nil,or_false] at hb';simp only [List.mem_singleton]
  rcases hb' with rfl | rfl | rfl | rfl | rfl | rfl
  ·omega
  ·omega
  ·omega
  ·exact Ne.symm hne
  ·exact BoxN.Xl bH2 m3
  exact BoxN.Xl bH2 m4) (by simp;omega) (fun b x hx=>by simpa using hx.ne bH2 (by decide)) (by simp;omega)
 have hB3:=hB2.setCell (p:=⟨hb,2,none⟩) lo1 (.pointer (some ⟨vb,0,none⟩));obtain⟨fd3,fn3,hD3,-,-⟩:=hW3.d;have hBa:=after hb db _ _ _ _ _ _ _ (-1) (-1) c d _ bH3 hD3.box;have fz:=bH2.frozen 2;have h2:=bH2.cell 2 (v:=vv) rfl;have g0:=bF2.cell 0 (v:=.int .i64 (-1)) rfl;have g1:=bF2.cell 1 (v:=.int .i64 (-1)) rfl;have g2:=bF2.cell 2 (v:=.int .i64 c) rfl;have g3:=bF2.cell 3 (v:=.int .i64 d) rfl
 have nF:w.heap.size≠hb:=by omega
 unfold Ya at hBa;have HW3:=Xb hW3;clear hW3 hW2 hD3
 go_wp2_with (first
  | (go_at_call 42;refine hBa.mono ?_;rintro e w4 ⟨rfl,bD4,hg4⟩)
  | (go_at_call 43;refine(Jh _).mono ?_;rintro e w5 ⟨rfl,hb5⟩))
 go_ret;have kH:=bH3.kept hg4 (by intro e;injection e with e;exact hne e);have kR:=bR3.kept hg4 (by intro e;injection e with e;exact hnd e.symm);have hW4:=(Xa HW3).Xaz (Spares.X4 hg4 (by simp)) bD4;have hB4:=hB3.grown hg4 (by have:=hB3.size;omega) (fun q hq=>by cases hq;exact lo2);have hz:=hlo2
 have hSys:Sys B w4 hb rb ⟨⟨vb,mt,ml,jb,db,md,mn,0⟩,⟨.pointer (some ⟨jb,0,none⟩),.iface 75 (.pointer (some ⟨rb,0,none⟩)),false,.slice none 0 0⟩,now,⟨0,0,[rootE],[]⟩,[]⟩:={
  host:=kH,wh:=hW4,err:=hG.below (hB4.mono b9),b9:=b9,hlow:=lo1,
  low:=fun b hb'=>by
   have:=hB1.size;simp only [Blk.turns,List.mem_cons,List.not_mem_nil,or_false] at hb'
   omega,
  rvb:=⟨_,_,kR⟩,rlow:=lo3,vrv:=rfl,vtk:=rfl,due:=World.ownsRow_nil _ _ _ _ }
 exact⟨rfl,⟨_,_,⟨rfl,show B<=jb by have:=hB1.size;omega⟩,hSys.below hb5⟩,hB4.trans (hb5.mono (by have:=hB4.size;omega))⟩
end Go.Proofs
namespace Go.Proofs
open Go.RowKit Go.Sort Go.Lib Go.Shelf Go.Maps Go.WideMaps
theorem Tryz.Xpe {fm:List UInt8} (hnm:fm.length<=100) (db md n b:Nat) (m2 p l f dn:Value) (w:World) (hD:BoxN w db 100 #[.map (some md),m2,p,l,f,dn]) (hown:w.ownsMap prog 9 X8 md n (Yc fm (some b))) :
  Calls prog 56 #[.pointer (some ⟨db,0,none⟩)] w fun e w'=>e=.returned (.tuple #[])/\∃ b2,w.heap.size<=b2/\w'.ownsMap prog 9 X8 b2 1 (Yc fm (some b))/\BoxN w' db 100 #[.map (some md),.map (some b2),.slice none 0 0,l,f,.bool false]/\Spares [db] w w':=by
 have hmk:∀ W,(Instr.makeMap 97 none).run prog W=.ok (.map (some W.heap.size)) (W.alloc (.map #[] 0)):=fun W=>run_makeMap _ W
 have d0:=hD.cell 0 (v:=.map (some md)) rfl;have d1:=hD.cell 1 (v:=m2) rfl;have f1:=hD.frozen 1;have lD:=hD.lt;have lM:=hown.lt;go_enter func56,ntmps56;have hne:=hD.ne_map hown;have hown1:=(hown.setCell (a:=⟨db,1,none⟩) hne (.map (some w.heap.size))).alloc (.map #[] 0)
 go_wp2_with (first
  | (at_range;refine wpList_range_own _ rfl _ 97 rfl 9 101 (string_keyed underlying9) underlying97 _ md n _ rfl hown1 ?_;intro w1 hrg hg1 hs1)
  | go_in)
 have bD1:BoxN w1 db 100 #[.map (some md),.map (some w.heap.size),p,l,f,dn]:=((hD.set 1 (.map (some w.heap.size))).alloc (.map #[] 0)).kept hg1 (by simp);have hMn0:=World.ownsMap_made (w.setCell ⟨db,1,none⟩ (.map (some w.heap.size))) prog 9 X8;have hMn1:=hMn0.kept hg1 (by simp);rw [World.size_setCell] at hMn1;have hS1:Spares [db] w w1:=(((Spares.of_below (Below.refl _ w)).set (by simp) 1 (.map (some w.heap.size))).alloc (.map #[] 0)).trans ⟨hg1.os,hg1.tape,hg1.output,hg1.size,fun k hk _=>hg1.block k hk (by simp)⟩
 have hs1':w1.heap.size=w.heap.size+1+1:=by simpa using hs1
 have HS:=Xb hS1
 have hrr:((w.setCell ⟨db,1,none⟩ (.map (some w.heap.size))).alloc (.map #[] 0)).heap.size=w.heap.size+1:=by simp
 rw [hrr] at hrg ⊢;clear hS1 hg1 hs1 hown1 hown d0 d1 f1 hMn0;refine wp_loop_rounds 2 ?_;rw [rounds_succ]
 go_wp2_with (first
  | (at_next;refine wpList_next_ranges _ rfl _ rfl 9 (string_keyed underlying9) X8 Value.string (fun v:Value=>v) (fun key kl hk=>by obtain⟨x,hx,_⟩:=string_of_keyOf underlying9 hk;exact⟨x,hx⟩) (fun v _ _=>⟨v,rfl⟩) md _ n _ _ _ rfl hrg ?_ ?_)
  | go_in)
 ·intro _ h0
  have h1:=h0 (.string fm);rw [J0] at h1;cases h1
 intro x c kl y yp w' cnt' hk hl hv hat hrg2 hlt hgr hsz hen;obtain rfl:=Jb hl;obtain⟨x',hx,hx2,-⟩:=string_of_keyOf underlying9 hk
 obtain rfl:x=x':=by cases hx;rfl
 have hxj:x=⟨fm.toArray⟩:=M7 hx2;subst hxj
 have hcb:c=Zx b:=by
  have h4:=hat (.lit (.bool true));rw [Mm] at h4;simp only at h4
  have h5:X8 c=some (.held (Zx b),yp):=by rw [h4];exact hv
  exact Zq h5
 subst hcb;have bD2:=bD1.kept hgr (by intro e;injection e with e;omega);have hMn2:=hMn1.kept hgr (by intro e;injection e with e;omega);obtain⟨w3,hrun,hM3,hg3⟩:=Xgn (o:=none) hnm hMn2 (by omega) b;have bD3:=bD2.kept hg3 (by intro e;injection e with e;omega);have hrg3:=hrg2.kept hg3 (by intro e;injection e with e;omega) (by intro e;injection e with e;omega);have hS3:Spares [db] w w3:=Mi (Mi (Xa HS) hgr (by omega)) hg3 (by omega);unfold Zx at hrun hen;have e1:=bD2.cell 1 (v:=.map (some w.heap.size)) rfl;clear hk hl hv hat hrg hrg2 hgr hlt hx hx2 hMn1 hMn2 hg3 HS;go_wp2;have k2:=bD3.cell 2 (v:=p) rfl;have k5:=bD3.cell 5 (v:=dn) rfl;have k2f:=bD3.frozen 2;have k5f:=bD3.frozen 5;clear hen hrun e1;rw [rounds_succ]
 go_wp2_with (first
  | (at_next;refine wpList_next_ranges _ rfl _ rfl 9 (string_keyed underlying9) X8 (fun v:Value=>v) (fun v:Value=>v) (fun v _ _=>⟨v,rfl⟩) (fun v _ _=>⟨v,rfl⟩) md _ n _ _ _ rfl hrg3 ?_ ?_)
  | go_in)
 ·intro _ _
  clear hrg3;go_wp2
  go_end0
  have hnn:=bD3.ne_map hM3;exact⟨rfl,_,Nat.le_refl _,(hM3.setCell (a:=⟨db,2,none⟩) hnn _).setCell (a:=⟨db,5,none⟩) hnn _,(bD3.set 2 _).set 5 _,(hS3.set (by simp) _ _).set (by simp) _ _⟩
 intro x c kl y yp w'' cnt'' _ h2 h3;obtain rfl:=Jb h2;exact absurd h3 (by simp [Lit.sameKey])
theorem Tryz.Xos (c:Int) (h0 : -9223372036854775808<=c) (h1:c<=9223372036854775807) (w:World):Calls prog 97 #[.int .i64 c,.int .i64 1] w fun e w'=>(∃ z:Int,e=.returned (.int .i64 z))/\w'=w:=by
 by_cases hc:c<0
 ·go_enter func97,ntmps97
  go_wp2;go_ret;exact⟨⟨_,rfl⟩,rfl⟩
 go_enter func97,ntmps97;go_wp2;go_ret;exact⟨⟨_,rfl⟩,rfl⟩
theorem Tryz.Xjb {fm:List UInt8} (db md mn b:Nat) (c:List UInt8) (fn:Option (Nat × List UInt8)) (l f:Int) (ke pa:Int) (p0 : -9223372036854775808<=pa) (p1:pa<=9223372036854775807) (w:World) (hD:Xk fm w db md mn (some (b,c)) fn (.slice none 0 0) l f) :
  Calls prog 54 #[.pointer (some ⟨db,0,none⟩),.int .i64 ke,.int .i64 pa] w fun e w'=>e=.returned (.tuple #[])/\∃ mn',w.heap.size<=mn'/\Xk fm w' db md mn' (some (b,c)) (some (b,c)) (.slice none 0 0) (-1) (-1)/\Spares [db] w w':=by
 have hP:=fun W=>Xos pa p0 p1 W
 have hmk:∀ W,(Instr.makeMap 170 none).run prog W=.ok (.map (some W.heap.size)) (W.alloc (.map #[] 0)):=fun W=>run_makeMap _ W
 have d2:=hD.box.cell 2 (v:=.slice none 0 0) rfl;have d3:=hD.box.cell 3 (v:=.int .i64 l) rfl;have d4:=hD.box.cell 4 (v:=.int .i64 f) rfl;have f3:=hD.box.frozen 3;have f4:=hD.box.frozen 4;have lD:=hD.lt;obtain⟨n,hn,hm⟩:=hD.dm
 change w.ownsMap prog 9 X8 md n (Yc fm (some b)) at hm
 have hU:=fun W (hS:Spares [db] w W) (bD:BoxN W db 100 #[.map (some md),.map (some mn),.slice none 0 0,.int .i64 (-1),.int .i64 (-1),.bool false])=>Xpe hD.nl db md n b _ _ _ _ _ W bD (hS.map hm (by have:=hD.box.ne_map hm;simpa using this))
 have hS1:Spares [db] w (((w.setCell ⟨db,3,none⟩ (.int .i64 (-1))).setCell ⟨db,4,none⟩ (.int .i64 (-1))).alloc (.map #[] 0)):=(((Spares.of_below (Below.refl _ w)).set (by simp) _ _).set (by simp) _ _).alloc (.map #[] 0);have bD1:BoxN (((w.setCell ⟨db,3,none⟩ (.int .i64 (-1))).setCell ⟨db,4,none⟩ (.int .i64 (-1))).alloc (.map #[] 0)) db 100 #[.map (some md),.map (some mn),.slice none 0 0,.int .i64 (-1),.int .i64 (-1),.bool false]:=((hD.box.set 3 _).set 4 _).alloc (.map #[] 0);go_enter func54,ntmps54
 go_wp2_with (go_at_call 97;refine(hP _).mono ?_;rintro e w1 ⟨⟨z,rfl⟩,rfl⟩)
 refine wp_loop_rounds 1 ?_;rw [rounds_succ]
 go_wp2_with (go_at_call 56;refine(hU _ hS1 bD1).mono ?_;rintro e w2 ⟨rfl,mn',hge,hM2,bD2,hS2⟩)
 go_end0
 have hS3:=hS1.trans hS2;have hz1:=hS1.size;have hdb:=hD.box.ne_map hm;have bS:=hS3.box (hD.sd _ rfl) (by have:=(hD.sd _ rfl).ne hD.box (by decide);simpa using this);exact⟨rfl,mn',Nat.le_trans hz1 hge,⟨bD2,⟨n,hn,hS3.map hm (by simpa using hdb)⟩,⟨1,by omega,hM2⟩,fun q hq=>by cases hq;exact bS,fun q hq=>by cases hq;exact bS,by omega,hD.nl⟩,hS3⟩
theorem Tryz.Xjt {fm:List UInt8} (hb db rb md mn b:Nat) (vv:Value) (c:List UInt8) (fn:Option (Nat × List UInt8)) (l f:Int) (ke pa:Int) (p0 : -9223372036854775808<=pa) (p1:pa<=9223372036854775807) (w:World) (hH:BoxN w hb 78 #[.pointer (some ⟨db,0,none⟩),.pointer (some ⟨rb,0,none⟩),vv]) (hD:Xk fm w db md mn (some (b,c)) fn (.slice none 0 0) l f) :
  Calls prog 32 #[.pointer (some ⟨hb,0,none⟩),.int .i64 ke,.int .i64 pa] w fun e w'=>e=.returned (.tuple #[])/\BoxN w' hb 78 #[.pointer (some ⟨db,0,none⟩),.pointer (some ⟨rb,0,none⟩),.pointer none]/\∃ mn',w.heap.size<=mn'/\Xk fm w' db md mn' (some (b,c)) (some (b,c)) (.slice none 0 0) (-1) (-1)/\Spares [hb,db] w w':=by
 have hne:=hH.ne hD.box (by decide);have h0:=hH.cell 0 (v:=.pointer (some ⟨db,0,none⟩)) rfl;have h2:=hH.cell 2 (v:=vv) rfl;have f2:=hH.frozen 2;obtain⟨n,hn,hm⟩:=hD.dm;obtain⟨n',hn',hm'⟩:=hD.nm;have hS1:Spares [hb] w (w.setCell ⟨hb,2,none⟩ (.pointer none)):=(Spares.of_below (Below.refl _ w)).set (by simp) _ _;have bH1:=hH.set 2 (.pointer none);have hD1:=hD.spared hS1 (by simpa using Ne.symm hne) (by simpa using hH.ne_map hm) (by simpa using hH.ne_map hm') (fun q hq=>by have:=(hD.sd q hq).ne hH (by decide);simpa using this) (fun q hq=>by have:=(hD.sn q hq).ne hH (by decide);simpa using this);have hC:=Xjb db md mn b c fn l f ke pa p0 p1 _ hD1;go_enter func32,ntmps32
 go_wp2_with (go_at_call 54;refine hC.mono ?_;rintro e w2 ⟨rfl,mn',hge,hD2,hS2⟩)
 go_end0
 exact⟨rfl,hS2.box bH1 (by simpa using hne),mn',by simpa using hge,hD2,(hS1.mono (by simp)).trans (hS2.mono (by simp))⟩
theorem Tryz.Xiw (B hb db rb md mn bd b no:Nat) (hno:no<1000000) (vv ra rc:Value) (l f:Int) (now c d:Int) (ls:List X9) (hok:OkL ls rootS) (hnel:ls ≠ []) (hlen:(textL ls).length<4294967281) (w:World) (hH:BoxN w hb 78 #[.pointer (some ⟨db,0,none⟩),.pointer (some ⟨rb,0,none⟩),vv]) (hD:Xk (fileN no) w db md mn (some (bd,textL ls)) (some (b,textL ls)) (.slice none 0 0) l f) (hR:BoxN w rb 88 #[ra,rc]) (hlo:B<=hb/\B<=db/\B<=rb/\B<=md/\B<=mn) (hBw:B<=w.heap.size) (b9:9<=B) (hE:Env w) (hG:Z1 w) (t0:0<=now) (t1:now<=18446744073709551615) :
  Calls prog 33 #[.pointer (some ⟨hb,0,none⟩),.int .u64 now,Ya (-1) (-1) c d] w fun e w'=>e=.returned (.int .i64 0)/\(∃ k vx,(k.no=no/\B<=k.jb)/\Sys B w' hb rb ⟨k,vx,tmL now ls,playL ls rootS,textL ls⟩)/\Below B w w'/\Spares [hb,db] w w':=by
 obtain⟨lo1,lo2,lo3,lo4,lo5⟩:=hlo;have hne:=hH.ne hD.box (by decide);have hnr:=hH.ne hR (by decide);have hnd:=hD.box.ne hR (by decide);have lH:=hH.lt;have lD:=hD.lt;have bF:=BoxN.new w 29 #[.int .i64 (-1),.int .i64 (-1),.int .i64 c,.int .i64 d];have hB0:Below w.heap.size w (w.alloc (.cells #[.int .i64 (-1),.int .i64 (-1),.int .i64 c,.int .i64 d] 29)):=(Below.refl _ w).alloc (Nat.le_refl _) _;have hBf:=before hb db _ _ _ _ _ _ _ _ (-1) (-1) c d _ (hH.alloc (.cells #[.int .i64 (-1),.int .i64 (-1),.int .i64 c,.int .i64 d] 29)) (hD.box.alloc _)
 have hO:=fun W (hD':Xk (fileN no) W db md mn (some (bd,textL ls)) (some (b,textL ls)) (.slice none 0 0) (-1) (-1)) (hb':Below B w W)=>Xlx db md mn rb bd b no hno (-1) (-1) now ls hok hnel hlen W hD' (by decide) (by decide) (by decide) (by decide) (hE.below hb' (by omega)) (by have:=hb'.size;omega) (hG.below (hb'.mono b9)) t0 t1 ⟨by omega,by omega,by omega⟩
 unfold Ya at hBf ⊢;go_enter func33,ntmps33
 go_wp2_with (go_at_call 40;refine hBf.mono ?_;rintro e w1 ⟨rfl,bD1,hg1⟩)
 have bH1:=(hH.alloc (.cells #[.int .i64 (-1),.int .i64 (-1),.int .i64 c,.int .i64 d] 29)).kept hg1 (by intro e;injection e with e;exact hne e);have bR1:=(hR.alloc (.cells #[.int .i64 (-1),.int .i64 (-1),.int .i64 c,.int .i64 d] 29)).kept hg1 (by intro e;injection e with e;exact hnd e.symm);have bF1:=bF.kept hg1 (by intro e;injection e with e;omega);have hD1:=(hD.below hB0).cells (Spares.X4 hg1 (by simp)) bD1;have hB1:Below B w w1:=(hB0.mono hBw).grown hg1 (by simp;omega) (fun q hq=>by cases hq;exact lo2)
 have hP1:Um hb db rb w1:=⟨bH1.cell 0 rfl,bH1.cell 1 rfl⟩
 have l1:=bH1.lt;have hO1:=hO w1.drew (hD1.below (Below.refl _ _).drew) hB1.drew;unfold Xw at hO1;clear hBf hO
 go_region_held3 (Um hb db rb) (first
  | with_reducible exact Um.drew hP1
  | with_reducible assumption) (first | (go_at_call 55;refine hO1.mono ?_;rintro e w2 ⟨vb,mt,ml,jb,rfl,hW2,hlo2,hb2⟩;have bH2:=Spares.box (W:=w1.drew) hb2 bH1 (by simpa using hne);have hP2:Um hb db rb w2:=⟨bH2.cell 0 rfl,bH2.cell 1 rfl⟩))
 have hz1:w1.drew.heap.size=w1.heap.size:=rfl;have bF2:=Spares.box (W:=w1.drew) hb2 bF1 (by simp;omega);have bR2:=Spares.box (W:=w1.drew) hb2 bR1 (by simpa using Ne.symm hnd);have hB2:Below B w w2:=hB1.drew.trans (hb2.below (by have:=hB1.size;omega) (fun b hb=>by rw [List.mem_singleton.1 hb];exact lo2));have hS3:Spares [hb] w2 (w2.setCell ⟨hb,2,none⟩ (.pointer (some ⟨vb,0,none⟩))):=(Spares.of_below (Below.refl _ _)).set (by simp) _ _;have bH3:=bH2.set 2 (.pointer (some ⟨vb,0,none⟩));have bF3:=hS3.box bF2 (by simp;omega);have bR3:=hS3.box bR2 (by simpa using Ne.symm hnr)
 have hW3:=hW2.spared hS3 (fun b hb'=>by
  obtain⟨fd,fn,hd,-,-⟩:=hW2.d;obtain⟨n3,-,m3⟩:=hd.dm;obtain⟨n4,-,m4⟩:=hd.nm;have hz:=hlo2;simp only [Blk.turns,List.mem_cons,List.not_mem_nil,or_false] at hb';simp only [List.mem_singleton]
  rcases hb' with rfl | rfl | rfl | rfl | rfl | rfl
  ·omega
  ·omega
  ·omega
  ·exact Ne.symm hne
  ·exact BoxN.Xl bH2 m3
  exact BoxN.Xl bH2 m4) (by simp;omega) (fun b x hx=>by simpa using hx.ne bH2 (by decide)) (by simp;omega)
 have hB3:=hB2.setCell (p:=⟨hb,2,none⟩) lo1 (.pointer (some ⟨vb,0,none⟩));obtain⟨fd3,fn3,hD3,-,-⟩:=hW3.d;have hBa:=after hb db _ _ _ _ _ _ _ (-1) (-1) c d _ bH3 hD3.box;have fz:=bH2.frozen 2;have h2:=bH2.cell 2 (v:=vv) rfl;have g0:=bF2.cell 0 (v:=.int .i64 (-1)) rfl;have g1:=bF2.cell 1 (v:=.int .i64 (-1)) rfl;have g2:=bF2.cell 2 (v:=.int .i64 c) rfl;have g3:=bF2.cell 3 (v:=.int .i64 d) rfl
 have nF:w.heap.size≠hb:=by omega
 unfold Ya at hBa;have HW3:=Xb hW3;clear hW3 hW2 hD3
 go_wp2_with (first
  | (go_at_call 42;refine hBa.mono ?_;rintro e w4 ⟨rfl,bD4,hg4⟩)
  | (go_at_call 43;refine(Jh _).mono ?_;rintro e w5 ⟨rfl,hb5⟩))
 go_ret;have kH:=bH3.kept hg4 (by intro e;injection e with e;exact hne e);have kR:=bR3.kept hg4 (by intro e;injection e with e;exact hnd e.symm);have hW4:=(Xa HW3).Xaz (Spares.X4 hg4 (by simp)) bD4;have hB4:=hB3.grown hg4 (by have:=hB3.size;omega) (fun q hq=>by cases hq;exact lo2);have hz:=hlo2
 have hSys:Sys B w4 hb rb ⟨⟨vb,mt,ml,jb,db,md,mn,no⟩,⟨.pointer (some ⟨jb,0,none⟩),.iface 75 (.pointer (some ⟨rb,0,none⟩)),false,.slice none 0 0⟩,tmL now ls,playL ls rootS,textL ls⟩:={
  host:=kH,wh:=hW4,err:=hG.below (hB4.mono b9),b9:=b9,hlow:=lo1,
  low:=fun b hb'=>by
   have:=hB1.size;simp only [Blk.turns,List.mem_cons,List.not_mem_nil,or_false] at hb'
   omega,
  rvb:=⟨_,_,kR⟩,rlow:=lo3,vrv:=rfl,vtk:=rfl,due:=World.ownsRow_nil _ _ _ _ }
 have hSp:Spares [hb,db] w w4:=((((Spares.of_below (bs:=[hb,db]) hB0).trans (Spares.X4 hg1 (by simp))).drew).trans (hb2.mono (by simp))).trans ((hS3.mono (by simp)).trans (Spares.X4 hg4 (by simp)));exact⟨rfl,⟨_,_,⟨rfl,show B<=jb by have:=hB1.size;omega⟩,hSys.below hb5⟩,hB4.trans (hb5.mono (by have:=hB4.size;omega)),hSp.trans (Spares.of_below hb5)⟩
end Go.Proofs
namespace Go.Proofs
open Go.RowKit Go.Sort Go.Lib Go.Shelf Go.Maps
attribute [local go_sem] Oper.semAt_some
end Go.Proofs
namespace Go.Proofs
open Go.RowKit Go.Sort Go.Lib Go.Shelf Go.Maps
theorem Xkg {c:UInt8} {o b:Bool} (h:Y7 (some o) c=some b):c.toNat<128:=by
 by_cases h47:c.toNat=47
 ·omega
 simp only [Y7,if_neg h47] at h
 by_cases hn:J9 c=true
 ·simp [J9] at hn
  omega
 rw [if_neg hn] at h;cases h
theorem Xat:∀(s:List UInt8) (o b:Bool),s.foldl Y7 (some o)=some b->∀ c∈s,c.toNat<128
 | [],_,_,_,_,h=>by cases h
 | a :: s,o,b,hf,c,hc=>by
  rw [List.foldl_cons] at hf
  cases hp:Y7 (some o) a with
  | none=>rw [hp,Vz] at hf;cases hf
  | some o' =>
   rcases List.mem_cons.1 hc with rfl | hc
   ·exact Xkg hp
   rw [hp] at hf;exact Xat s o' b hf c hc
theorem Xnp {s:List UInt8} (h:pathI s=true):s.length<=24/\Xlj s:=by
 have hc:=Xh0 h;unfold pathI at h;rw [Bool.and_eq_true] at h;exact⟨by simpa using h.2,Xat s false true (by simpa using h.1),hc⟩
section
variable {vb mt ml:Nat} {vx:VX} {tm tn ln:Int} {tks:List Xe} {lks:List Xd} {L:List Xm}
end
theorem Xdf:∀(xs:List InfoD) (k j:Nat) (t:InfoD),xs[k]? = some t->j<6->(Ux xs)[k*6+j]? = t.cells[j]?
 | [],_,_,_,h,_=>by simp at h
 | x :: xs,0,j,t,h,hj=>by
  obtain rfl:x=t:=by simpa using h
  show (x.cells.toList++Ux xs)[0*6+j]? = _
  rw [List.getElem?_append_left (by rw [InfoD.cells_size];omega)];simp
 | x :: xs,k+1,j,t,h,hj=>by
  show (x.cells.toList++Ux xs)[(k+1)*6+j]? = _
  rw [List.getElem?_append_right (by rw [InfoD.cells_size];omega),InfoD.cells_size,show (k+1)*6+j-6=k*6+j by omega];exact Xdf xs k j t (by simpa using h) hj
theorem Xa5 {B:Nat} {W:World} {g cap n:Nat} {e:TypeId} {xs:List InfoD} (h:W.ownsRow B e 6 (.slice (some ⟨g,0,none⟩) n cap) n (Ux xs)) {k:Nat} {t:InfoD} (hk:xs[k]? = some t) :
  W.cell? ⟨g,k*6,none⟩=some (.string ⟨t.id.toArray⟩)/\W.cell? ⟨g,k*6+1,none⟩=some (.int .i64 t.st)/\W.cell? ⟨g,k*6+2,none⟩=some (.int .u64 t.at_)/\W.cell? ⟨g,k*6+3,none⟩=some (.int .i64 t.tr)/\W.cell? ⟨g,k*6+4,none⟩=some (.string ⟨t.tok.toArray⟩)/\W.cell? ⟨g,k*6+5,none⟩=some (.string ⟨t.pth.toArray⟩):=by
 have c:∀ j,j<6->W.cell? ⟨g,k*6+j,none⟩=t.cells[j]?:=fun j hj=>by
  have hc:=h.cells (g:=g) rfl (k*6+j);have hs:j<t.cells.size:=hj;have:=hc (t.cells[j]) (by rw [Xdf xs k j t hk hj];simp [hs]);rw [Lib.add_plain] at this;simp only [Nat.zero_add] at this;rw [this];simp [hs]
 exact⟨c 0 (by omega),c 1 (by omega),c 2 (by omega),c 3 (by omega),c 4 (by omega),c 5 (by omega)⟩
theorem Tryz.Xhf:prog.underlying 49=some (.struct (prog.fieldsOf 49)):=by kernel_rfl
theorem Tryz.Xkw:prog.stoodInHeld 49=false:=by kernel_rfl
theorem Tryz.Xic (x y:InfoD) (W:World):(binOp .neq 49 (.agg x.cells) (.agg y.cells)).run prog W=.ok (.bool (!(x.id==y.id&&x.st==y.st&&x.at_==y.at_&&x.tr==y.tr&&x.tok==y.tok&&x.pth==y.pth))) W:=by
 obtain⟨a0,a1,a2,a3,a4,a5⟩:=x;obtain⟨b0,b1,b2,b3,b4,b5⟩:=y;rw [run_neq_struct,run_equalIn_struct W 9999 _ _ _ Xhf Xkw];simp only [Program.fieldsOf,underlying49];simp [InfoD.cells,Ym,Op.eqFields,go_sem]
 by_cases h0:a0=b0 <;> by_cases h1:a1=b1 <;> by_cases h2:a2=b2 <;> by_cases h3:a3=b3 <;> by_cases h4:a4=b4 <;> by_cases h5:a5=b5 <;> simp_all
end Go.Proofs
