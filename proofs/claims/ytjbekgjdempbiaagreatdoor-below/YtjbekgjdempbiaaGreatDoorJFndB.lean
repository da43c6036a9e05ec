import Derived.Test.YtjbekgjdempbiaaGreatDoorJRefL
import Derived.StringKeys
import Derived.Test.YtjbekgjdempbiaaGreatDoorJCntA
import Derived.Test.YtjbekgjdempbiaaGreatDoorJPutL
import Derived.Lib.SplitLaws
import Derived.Test.YtjbekgjdempbiaaGreatDoorJRefG
import Derived.Lib.Atoi
import Derived.Test.YtjbekgjdempbiaaGreatDoorJVKeep
set_option maxRecDepth 100000
set_option maxHeartbeats 8000000
namespace Go.Proofs
open Go.RowKit Go.Sort Go.Lib Go.Shelf Go.Maps
theorem bytes_drop (p:List UInt8) (n:Nat):(⟨p.toArray⟩:ByteArray).extract n p.length=⟨(p.drop n).toArray⟩:=by
 apply ByteArray.ext;rw [ByteArray.data_extract];simp;exact List.take_of_length_le (by simp)
theorem Tryz.hasPre (p pre:List UInt8) (w:World) :
  Calls prog 204 #[.string ⟨p.toArray⟩,.string ⟨pre.toArray⟩] w fun e w'=>e=.returned (.bool (p.take pre.length==pre))∧w'=w:=by
 have hx:=bytes_take p pre.length
 by_cases h2:pre.length≤p.length
 ·have h2':(pre.length:Int)≤(p.length:Int):=by omega
  by_cases h3:p.take pre.length=pre
  ·have h3':(p.take pre.length==pre)=true:=by simpa using h3
   rw [h3'];rw [h3] at hx;go_enter func204,ntmps204;go_wp2;go_ret;exact⟨rfl,rfl⟩
  ·have h3':(p.take pre.length==pre)=false:=by simpa using h3
   rw [h3'];go_enter func204,ntmps204;go_wp2;go_ret;exact⟨rfl,rfl⟩
 ·have h2':¬ (pre.length:Int)≤(p.length:Int):=by omega
  have h3':(p.take pre.length==pre)=false:=by
   rw [beq_eq_false_iff_ne];intro e;have:=congrArg List.length e;simp at this;omega
  rw [h3'];go_enter func204,ntmps204;go_wp2;go_ret;exact⟨rfl,rfl⟩
theorem Tryz.lcutPre (p pre:List UInt8) (w:World) :
  Calls prog 174 #[.string ⟨p.toArray⟩,.string ⟨pre.toArray⟩] w fun e w'=>e=.returned (.tuple (if p.take pre.length==pre then #[.string ⟨(p.drop pre.length).toArray⟩,.bool true] else #[.string ⟨p.toArray⟩,.bool false]))∧w'=w:=by
 have hH:=hasPre p pre w;have hx:=bytes_drop p pre.length
 by_cases h3:(p.take pre.length==pre)=true
 ·have hle:pre.length≤p.length:=by
   have h:=congrArg List.length (eq_of_beq h3);simp at h;omega
  have hle':(pre.length:Int)≤(p.length:Int):=by omega
  rw [h3] at hH;rw [if_pos h3];go_enter func174,ntmps174
  go_wp2_with (go_at_call 204;refine hH.mono ?_;rintro e w1 ⟨rfl,rfl⟩)
  exact bodyPost_ret (v:=.tuple #[.string ⟨(p.drop pre.length).toArray⟩,.bool true]) (by simp [results,results174,go_sem]) rfl ⟨rfl,rfl⟩
 ·rw [Bool.not_eq_true] at h3
  rw [h3] at hH;rw [if_neg (by simp [h3])];go_enter func174,ntmps174
  go_wp2_with (go_at_call 204;refine hH.mono ?_;rintro e w1 ⟨rfl,rfl⟩)
  exact bodyPost_ret (v:=.tuple #[.string ⟨p.toArray⟩,.bool false]) (by simp [results,results174,go_sem]) rfl ⟨rfl,rfl⟩
theorem Tryz.cutPre (p pre:List UInt8) (w:World) :
  Calls prog 142 #[.string ⟨p.toArray⟩,.string ⟨pre.toArray⟩] w fun e w'=>e=.returned (.tuple (if p.take pre.length==pre then #[.string ⟨(p.drop pre.length).toArray⟩,.bool true] else #[.string ⟨p.toArray⟩,.bool false]))∧w'=w:=by
 have hH:=lcutPre p pre w
 by_cases h3:(p.take pre.length==pre)=true
 ·rw [if_pos h3] at hH ⊢
  go_enter func142,ntmps142
  go_wp2_with (go_at_call 174;refine hH.mono ?_;rintro e w1 ⟨rfl,rfl⟩)
  exact bodyPost_ret (v:=.tuple #[.string ⟨(p.drop pre.length).toArray⟩,.bool true]) (by simp [results,results142,go_sem]) rfl ⟨rfl,rfl⟩
 ·rw [if_neg h3] at hH ⊢
  go_enter func142,ntmps142
  go_wp2_with (go_at_call 174;refine hH.mono ?_;rintro e w1 ⟨rfl,rfl⟩)
  exact bodyPost_ret (v:=.tuple #[.string ⟨p.toArray⟩,.bool false]) (by simp [results,results142,go_sem]) rfl ⟨rfl,rfl⟩
theorem Tryz.within (p pre:List UInt8) (w:World) :
  Calls prog 94 #[.string ⟨p.toArray⟩,.string ⟨pre.toArray⟩] w fun e w'=>e=.returned (.bool (beginsB p pre))∧w'=w:=by
 have hH:=cutPre p pre w
 by_cases h3:(p.take pre.length==pre)=true
 ·rw [if_pos h3] at hH
  have hle:pre.length≤p.length:=by
   have h:=congrArg List.length (eq_of_beq h3);simp at h;omega
  by_cases h0:pre = []
  ·subst h0
   rw [show beginsB p []=true from rfl];go_enter func94,ntmps94
   go_wp2_with (go_at_call 142;refine hH.mono ?_;rintro e w1 ⟨rfl,rfl⟩)
   go_ret;exact⟨rfl,rfl⟩
  ·have h0':(pre == [])=false:=by simpa using h0
   have hl0:((pre.length:Int)==0)=false:=by
    rw [beq_eq_false_iff_ne];intro e;exact h0 (List.length_eq_zero_iff.1 (by omega))
   by_cases h1:p=pre
   ·subst h1
    have hb:beginsB p p=true:=by simp [beginsB]
    have hd:p.drop p.length = []:=by simp
    rw [hb];rw [hd] at hH;go_enter func94,ntmps94
    go_wp2_with (go_at_call 142;refine hH.mono ?_;rintro e w1 ⟨rfl,rfl⟩)
    go_ret;exact⟨rfl,rfl⟩
   ·have hlt:pre.length<p.length:=by
     rcases Nat.lt_or_ge pre.length p.length with h | h
     ·exact h
     ·exact absurd (by rw [← eq_of_beq h3,List.take_of_length_le h]) h1
    obtain⟨c,r,hcr⟩:∃ c r,p.drop pre.length=c :: r:=by
     cases hd:p.drop pre.length with
     | nil=>have:=congrArg List.length hd;simp at this;omega
     | cons c r=>exact⟨c,r,rfl⟩
    have hpc:p[pre.length]? = some c:=by
     have:(p.drop pre.length)[0]? = some c:=by rw [hcr];rfl
     simpa using this
    have hb:beginsB p pre=(c==47):=by
     unfold beginsB;rw [hpc,h3];simp [h0,h1,hlt]
    have hck:∀ hp,((⟨(c :: r).toArray⟩:ByteArray)[0]'hp)=c:=fun hp=>rfl
    rw [hcr] at hH
    by_cases h4:c=47
    ·subst h4
     rw [hb];go_enter func94,ntmps94
     go_wp2_with (go_at_call 142;refine hH.mono ?_;rintro e w1 ⟨rfl,rfl⟩)
     all_goals try simp only [hck] at *
     go_ret;exact⟨rfl,rfl⟩
    ·have h4':(c==47)=false:=by simpa using h4
     have h5:((c.toNat:Int)==47)=false:=by
      rw [beq_eq_false_iff_ne];intro e;exact h4 (by apply UInt8.toNat_inj.1;simpa using Int.ofNat_inj.1 e)
     rw [hb,h4'];go_enter func94,ntmps94
     go_wp2_with (go_at_call 142;refine hH.mono ?_;rintro e w1 ⟨rfl,rfl⟩)
     all_goals try simp only [hck] at *
     go_ret;exact⟨rfl,rfl⟩
 ·rw [if_neg h3] at hH
  have hb:beginsB p pre=false:=by
   rw [Bool.not_eq_true] at h3;unfold beginsB;rw [h3]
   have h0:pre ≠ []:=fun e=>by rw [e] at h3;simp at h3
   have h1:p≠pre:=fun e=>by rw [e] at h3;simp at h3
   simp [h0,h1]
  rw [hb];go_enter func94,ntmps94
  go_wp2_with (go_at_call 142;refine hH.mono ?_;rintro e w1 ⟨rfl,rfl⟩)
  go_ret;exact⟨rfl,rfl⟩
end Go.Proofs
namespace Go.Proofs
open Go.RowKit Go.Sort Go.Lib Go.Shelf Go.Maps Go.WideMaps
theorem Tryz.insU64_one (v:Value) (w:World):Calls prog 254 #[v,.int .i64 0,.int .i64 1] w fun e w'=>e=.returned (.tuple #[])∧w'=w:=by
 go_enter func254,ntmps254;go_wp2;refine wp_loop_rounds 1 ?_;rw [rounds_succ];go_wp2
 go_end0
 exact⟨rfl,rfl⟩
theorem Tryz.pdqU64_one (v:Value) (w:World) (lim:Int):Calls prog 232 #[v,.int .i64 0,.int .i64 1,.int .i64 lim] w fun e w'=>e=.returned (.tuple #[])∧w'=w:=by
 have hI:=fun W=>insU64_one v W
 go_enter func232,ntmps232;go_wp2;refine wp_loop_rounds 1 ?_;rw [rounds_succ]
 go_wp2_with (go_at_call 254;refine(hI _).mono ?_;rintro e w1 ⟨rfl,rfl⟩)
 exact bodyPost_ret (v:=.tuple #[]) (by simp [results,results232,go_sem]) rfl ⟨rfl,rfl⟩
theorem Tryz.insStr_one (v:Value) (w:World):Calls prog 317 #[v,.int .i64 0,.int .i64 1] w fun e w'=>e=.returned (.tuple #[])∧w'=w:=by
 go_enter func317,ntmps317;go_wp2;refine wp_loop_rounds 1 ?_;rw [rounds_succ];go_wp2
 go_end0
 exact⟨rfl,rfl⟩
theorem Tryz.pdqStr_one (v:Value) (w:World) (lim:Int):Calls prog 316 #[v,.int .i64 0,.int .i64 1,.int .i64 lim] w fun e w'=>e=.returned (.tuple #[])∧w'=w:=by
 have hI:=fun W=>insStr_one v W
 go_enter func316,ntmps316;go_wp2;refine wp_loop_rounds 1 ?_;rw [rounds_succ]
 go_wp2_with (go_at_call 317;refine(hI _).mono ?_;rintro e w1 ⟨rfl,rfl⟩)
 exact bodyPost_ret (v:=.tuple #[]) (by simp [results,results316,go_sem]) rfl ⟨rfl,rfl⟩
theorem Tryz.bitsLen1 (w:World):Calls prog 226 #[.int .u64 1] w fun e w'=>(∃ z:Int,e=.returned (.int .i64 z))∧w'=w:=by
 go_enter func226,ntmps226;go_wp2;go_ret;exact⟨⟨_,rfl⟩,rfl⟩
theorem Tryz.sortU64_one (p:Option Addr) (cap:Nat) (w:World):Calls prog 211 #[.slice p 1 cap] w fun e w'=>e=.returned (.tuple #[])∧w'=w:=by
 have hL:=fun W=>bitsLen1 W
 have hI:=fun W lim=>pdqU64_one (.slice p 1 cap) W lim
 go_enter func211,ntmps211
 go_wp2_with (first
  | (go_at_call 226;refine(hL _).mono ?_;rintro e w1 ⟨⟨z,rfl⟩,rfl⟩)
  | (go_at_call 232;refine(hI _ _).mono ?_;rintro e w2 ⟨rfl,rfl⟩))
 go_end0
 exact⟨rfl,rfl⟩
theorem Tryz.slSortStr_one (p:Option Addr) (cap:Nat) (w:World):Calls prog 315 #[.slice p 1 cap] w fun e w'=>e=.returned (.tuple #[])∧w'=w:=by
 have hL:=fun W=>bitsLen1 W
 have hI:=fun W lim=>pdqStr_one (.slice p 1 cap) W lim
 go_enter func315,ntmps315
 go_wp2_with (first
  | (go_at_call 226;refine(hL _).mono ?_;rintro e w1 ⟨⟨z,rfl⟩,rfl⟩)
  | (go_at_call 316;refine(hI _ _).mono ?_;rintro e w2 ⟨rfl,rfl⟩))
 go_end0
 exact⟨rfl,rfl⟩
theorem Tryz.sortStrings_one (p:Option Addr) (cap:Nat) (w:World):Calls prog 312 #[.slice p 1 cap] w fun e w'=>e=.returned (.tuple #[])∧w'=w:=by
 have hI:=fun W=>slSortStr_one p cap W
 go_enter func312,ntmps312
 go_wp2_with (go_at_call 315;refine(hI _).mono ?_;rintro e w2 ⟨rfl,rfl⟩)
 go_end0
 exact⟨rfl,rfl⟩
theorem Tryz.trimL_j (w:World):Calls prog 253 #[.string ⟨#[106,111,117,114,110,97,108]⟩,.string ⟨#[106,111,117,114,110,97,108]⟩] w fun e w'=>e=.returned (.string ⟨#[]⟩)∧w'=w:=by
 have hH:=fun W=>hasPre jName jName W
 rw [show (jName.take jName.length==jName)=true by decide] at hH;unfold jName at hH;go_enter func253,ntmps253
 go_wp2_with (go_at_call 204;refine(hH _).mono ?_;rintro e w1 ⟨rfl,rfl⟩)
 go_ret;exact⟨rfl,rfl⟩
theorem Tryz.trimP_j (w:World):Calls prog 231 #[.string ⟨#[106,111,117,114,110,97,108]⟩,.string ⟨#[106,111,117,114,110,97,108]⟩] w fun e w'=>e=.returned (.string ⟨#[]⟩)∧w'=w:=by
 go_enter func231,ntmps231
 go_wp2_with (go_at_call 253;refine(trimL_j _).mono ?_;rintro e w1 ⟨rfl,rfl⟩)
 go_ret;exact⟨rfl,rfl⟩
theorem Tryz.numberOf_j (w:World) (hE:Env w):Calls prog 210 #[.string ⟨#[106,111,117,114,110,97,108]⟩] w fun e w'=>e=.returned (.tuple #[.int .u64 0,.bool true])∧Below w.heap.size w w':=by
 have hP:=parseU [] (by decide) w hE;rw [show puV []=0 by decide] at hP;go_enter func210,ntmps210
 go_wp2_with (first
  | (go_at_call 231;refine(trimP_j _).mono ?_;rintro e w1 ⟨rfl,rfl⟩)
  | (go_at_call 118;refine hP.mono ?_;rintro e w2 ⟨er,rfl,hb2⟩)
  | (go_at_call 175;refine(fileOf0 _).mono ?_;rintro e w3 ⟨rfl,rfl⟩))
 go_ret2
 exact⟨rfl,hb2⟩
end Go.Proofs
namespace Go.Proofs
open Go.RowKit Go.Sort Go.Lib Go.Shelf Go.Maps
theorem index_free {c:UInt8}:∀ {l:List UInt8},c∉l→Lib.index l [c] = -1
 | [],_=>rfl
 | b :: l,h=>by
  have hb:¬ c=b:=fun e=>h (by simp [e])
  have hl:c∉l:=fun e=>h (by simp [e])
  unfold Lib.index;rw [if_neg (by simp [List.isPrefixOf,hb]),index_free hl];rfl
theorem index_at {c:UInt8} {b:List UInt8}:∀ {a:List UInt8},c∉a→Lib.index (a++c :: b) [c]=a.length
 | [],_=>by
  show Lib.index (c :: b) [c]=0
  unfold Lib.index;rw [if_pos (by simp [List.isPrefixOf])]
 | x :: a,h=>by
  have hb:¬ c=x:=fun e=>h (by simp [e])
  have hl:c∉a:=fun e=>h (by simp [e])
  show Lib.index (x :: (a++c :: b)) [c]=_
  unfold Lib.index;rw [if_neg (by simp [List.isPrefixOf,hb]),index_at hl,if_neg (by simp)];simp
theorem split_free {c:UInt8} {l:List UInt8} (h:c∉l):Lib.split l [c] = [l]:=by
 unfold Lib.split;rw [Lib.count_miss (index_free h)];rfl
theorem split_app {c:UInt8} {a b:List UInt8} (h:c∉a):Lib.split (a++c :: b) [c]=a :: Lib.split b [c]:=by
 have hi:=index_at (b:=b) h
 have hd:(a++c :: b).drop (a.length + [c].length)=b:=by
  rw [show a++c :: b=(a ++ [c])++b by simp,List.drop_left' (by simp)]
 unfold Lib.split;rw [Lib.count_hit (by simp) hi,hd,Nat.add_comm 1]
 show (if Lib.index (a++c :: b) [c] == -1 then _ else _)=_
 rw [if_neg (by rw [hi];simp),hi]
 have e:(((a.length:Nat):Int)).toNat=a.length:=by simp
 rw [e,hd,Nat.add_zero,List.take_left]
theorem split_join {c:UInt8}:∀ {xs:List (List UInt8)},xs ≠ []→(∀ x∈xs,c∉x)→Lib.split (Lib.join xs [c]) [c]=xs
 | [],h,_=>absurd rfl h
 | [x],_,h=>by
  show Lib.split ([c].intercalate [x]) [c] = [x]
  rw [show [c].intercalate [x]=x by simp [List.intercalate]];exact split_free (h x (by simp))
 | x :: y :: xs,_,h=>by
  have ih:=split_join (xs:=y :: xs) (by simp) (fun z hz=>h z (List.mem_cons_of_mem _ hz))
  have e:Lib.join (x :: y :: xs) [c]=x++c :: Lib.join (y :: xs) [c]:=by simp [Lib.join,List.intercalate,List.intersperse]
  rw [e,split_app (h x (by simp)),ih]
theorem cut_at {c:UInt8} {a b:List UInt8} (h:c∉a):Lib.cut (a++c :: b) [c]=(a,b,true):=by
 have hi:=index_at (b:=b) h;unfold Lib.cut;rw [if_pos (by rw [hi];omega),hi]
 have e:(((a.length:Nat):Int)).toNat=a.length:=by simp
 rw [e,List.take_left,show a++c :: b=(a ++ [c])++b by simp,List.drop_left' (by simp)]
def bodyL (t:List UInt8):List UInt8:=Lib.decDigits t.length++32 :: (Lib.decDigits (sumI t).toNat++32 :: t)
theorem lineL_body (t:List UInt8):lineL t=10 :: bodyL t:=rfl
theorem dec_no {c:UInt8} (hc:c.toNat<48) (u:Nat):c∉Lib.decDigits u:=by
 induction u using Nat.strongRecOn with
 | ind u ih =>
  have one:∀ d,d<10→c≠UInt8.ofNat (48+d):=fun d hd e=>by
   have:=congrArg UInt8.toNat e;simp at this;omega
  by_cases h:u<10
  ·rw [Lib.decDigits_one h]
   intro hm;exact one u h (List.mem_singleton.1 hm)
  ·rw [Lib.decDigits,dif_neg h]
   intro hm
   rcases List.mem_append.1 hm with hm | hm
   ·exact ih (u / 10) (by omega) hm
   ·exact one (u % 10) (by omega) (List.mem_singleton.1 hm)
theorem puV_dec (u:Nat) (h:u<18446744073709551616):puV (Lib.decDigits u)=u:=by
 unfold puV;rw [parse_dec u h]
theorem body_whole (t:List UInt8) (ht:t.length<18446744073709551616):wholeB (bodyL t)=true∧txtL (bodyL t)=t:=by
 have h1:=cut_at (b:=Lib.decDigits (sumI t).toNat++32 :: t) (dec_no (c:=32) (by decide) t.length);have h2:=cut_at (b:=t) (dec_no (c:=32) (by decide) (sumI t).toNat);obtain⟨s0,s1⟩:=sum_range t
 have htx:txtL (bodyL t)=t:=by
  unfold txtL bodyL;rw [h1,h2]
 refine⟨?_,htx⟩;unfold wholeB;rw [htx];unfold bodyL;rw [h1]
 show (puV (Lib.decDigits t.length)==(t.length:Int)&&puV (Lib.cut (Lib.decDigits (sumI t).toNat++32 :: t) [32]).1==sumI t)=true
 rw [h2,puV_dec _ ht,puV_dec _ (by omega)]
 have:(((sumI t).toNat:Nat):Int)=sumI t:=by omega
 simp [this]
theorem split_lines:∀(ts:List (List UInt8)),(∀ t∈ts,(10:UInt8)∉t)→Lib.split (ts.flatMap lineL) [10] = [] :: ts.map bodyL:=by
 have hno:∀ t:List UInt8,(10:UInt8)∉t→(10:UInt8)∉bodyL t:=fun t h hm=>by
  unfold bodyL at hm
  rcases List.mem_append.1 hm with hm | hm
  ·exact dec_no (by decide) _ hm
  ·rcases List.mem_cons.1 hm with hm | hm
   ·cases hm
   ·rcases List.mem_append.1 hm with hm | hm
    ·exact dec_no (by decide) _ hm
    ·rcases List.mem_cons.1 hm with hm | hm
     ·cases hm
     ·exact h hm
 have hstep:∀(ts:List (List UInt8)) (a:List UInt8),(10:UInt8)∉a→(∀ t∈ts,(10:UInt8)∉t)→Lib.split (a++ts.flatMap lineL) [10]=a :: ts.map bodyL:=fun ts=>by
  induction ts with
  | nil=>intro a ha _;simpa using split_free ha
  | cons t ts ih =>
   intro a ha h;rw [List.flatMap_cons,lineL_body,List.cons_append,split_app ha,ih (bodyL t) (hno t (h t (by simp))) (fun x hx=>h x (List.mem_cons_of_mem _ hx))];rfl
 intro ts h
 simpa using hstep ts [] (by simp) h
theorem clear_of {s:List UInt8} (h:∀ c∈s,c.toNat≠10∧c.toNat≠32∧c.toNat≠59):Clear s:=
 ⟨fun hm=>(h _ hm).1 rfl,fun hm=>(h _ hm).2.1 rfl,fun hm=>(h _ hm).2.2 rfl⟩
theorem clear_path {s:List UInt8} (h:pathI s=true):Clear s:=by
 have hf:s.foldl pstep (some false)=some true:=by
  unfold pathI at h;simp at h;exact h.1
 have key:∀(s:List UInt8) (o b:Bool),s.foldl pstep (some o)=some b→∀ c∈s,c.toNat≠10∧c.toNat≠32∧c.toNat≠59:=fun s=>by
  induction s with
  | nil=>intro _ _ _ c hc;cases hc
  | cons x s ih =>
   intro o b hs c hc;rw [List.foldl_cons] at hs
   cases hx:pstep (some o) x with
   | none=>rw [hx,pstep_none] at hs;cases hs
   | some o' =>
    rw [hx] at hs
    rcases List.mem_cons.1 hc with rfl | hc
    ·unfold pstep at hx
     simp only at hx
     split at hx
     ·omega
     ·split at hx
      ·rename_i hn
       unfold nameCh at hn;simp at hn;omega
      ·cases hx
    ·exact ih o' b hs c hc
 exact clear_of (key s false true hf)
theorem dec_mem {u:Nat}:∀ c∈Lib.decDigits u,48≤c.toNat∧c.toNat≤57:=by
 induction u using Nat.strongRecOn with
 | ind u ih =>
  have one:∀ d,d<10→∀ c ∈ [UInt8.ofNat (48+d)],48≤c.toNat∧c.toNat≤57:=fun d hd c hc=>by
   rw [List.mem_singleton.1 hc];simp;omega
  by_cases h:u<10
  ·rw [Lib.decDigits_one h]
   exact one u h
  ·rw [Lib.decDigits,dif_neg h]
   intro c hm
   rcases List.mem_append.1 hm with hm | hm
   ·exact ih (u / 10) (by omega) c hm
   ·exact one (u % 10) (by omega) c hm
theorem clear_dec (u:Nat):Clear (Lib.decDigits u):=clear_of (fun c hc=>by have:=dec_mem c hc;omega)
theorem clear_itoa (n:Int):Clear (Lib.itoa n):=by
 unfold Lib.itoa
 split
 ·refine clear_of (fun c hc=>?_)
  rcases List.mem_cons.1 hc with rfl | hc
  ·decide
  ·have:=dec_mem c hc;omega
 ·exact clear_dec _
theorem clear_nm (k:Int) (u:Nat):Clear (nmStr k u):=by
 unfold nmStr
 split
 ·refine clear_of (fun c hc=>?_)
  rcases List.mem_cons.1 hc with rfl | hc
  ·decide
  ·have:=dec_mem c hc;omega
 ·split
  ·refine clear_of (fun c hc=>?_)
   rcases List.mem_cons.1 hc with rfl | hc
   ·decide
   ·have:=dec_mem c hc;omega
  ·exact⟨by simp,by simp,by simp⟩
theorem clear_bool (b:Bool):Clear (Lib.formatBool b):=by cases b <;> exact⟨by decide,by decide,by decide⟩
theorem not_join {c d:UInt8} (hcd:c≠d):∀ {xs:List (List UInt8)},(∀ x∈xs,c∉x)→c∉Lib.join xs [d]
 | [],_=>by simp [Lib.join,List.intercalate]
 | [x],h=>by
  rw [show Lib.join [x] [d]=x by simp [Lib.join,List.intercalate]];exact h x (by simp)
 | x :: y :: xs,h=>by
  have ih:=not_join hcd (xs:=y :: xs) (fun z hz=>h z (List.mem_cons_of_mem _ hz));rw [show Lib.join (x :: y :: xs) [d]=x++d :: Lib.join (y :: xs) [d] by simp [Lib.join,List.intercalate,List.intersperse]];intro hm
  rcases List.mem_append.1 hm with hm | hm
  ·exact h x (by simp) hm
  ·rcases List.mem_cons.1 hm with hm | hm
   ·exact hcd hm
   ·exact ih hm
theorem fields_clear {r:RecD} (hp:Clear r.pth):∀ x∈recFields r,Clear x:=fun x hx=>by
 simp only [recFields,List.mem_cons,List.not_mem_nil,or_false] at hx
 rcases hx with rfl | rfl | rfl | rfl | rfl | rfl | rfl | rfl
 ·exact clear_itoa _
 ·exact clear_nm _ _
 ·exact clear_nm _ _
 ·exact clear_bool _
 ·exact clear_dec _
 ·exact clear_itoa _
 ·exact clear_dec _
 ·exact hp
theorem rec_split {r:RecD} (hp:Clear r.pth):Lib.split (recStr r) [32]=recFields r:=
 split_join (by simp [recFields]) (fun x hx=>(fields_clear hp x hx).2.1)
theorem rec_no {r:RecD} (hp:Clear r.pth):(59:UInt8)∉recStr r∧(10:UInt8)∉recStr r:=
 ⟨not_join (by decide) (fun x hx=>(fields_clear hp x hx).2.2),not_join (by decide) (fun x hx=>(fields_clear hp x hx).1)⟩
theorem txt_split {rs:List RecD} (hne:rs ≠ []) (hp:∀ r∈rs,Clear r.pth):Lib.split (recTxt rs) [59]=rs.map recStr:=
 split_join (by simp [recTexts,hne]) (fun x hx=>by
  obtain⟨r,hr,rfl⟩:=List.mem_map.1 hx
  exact(rec_no (hp r hr)).1)
theorem txt_no {rs:List RecD} (hp:∀ r∈rs,Clear r.pth):(10:UInt8)∉recTxt rs:=
 not_join (by decide) (fun x hx=>by
  obtain⟨r,hr,rfl⟩:=List.mem_map.1 hx
  exact(rec_no (hp r hr)).2)
theorem file_split (ls:List (List RecD)) (hp:∀ rs∈ls,∀ r∈rs,Clear r.pth):Lib.split (ls.flatMap recLine) [10] = [] :: ls.map (fun rs=>bodyL (recTxt rs)):=by
 have h:=split_lines (ls.map recTxt) (fun t ht=>by
  obtain⟨rs,hrs,rfl⟩:=List.mem_map.1 ht
  exact txt_no (hp rs hrs))
 rw [List.map_map] at h;rw [← show (ls.map recTxt).flatMap lineL=ls.flatMap recLine by rw [List.flatMap_map];rfl];exact h
theorem decFrom_app:∀(l:List UInt8) (acc m:Nat) (b:UInt8) (d:Nat),Lib.decFrom acc l=some m→Lib.digitVal b=some d→Lib.decFrom acc (l ++ [b])=some (m*10+d)
 | [],acc,m,b,d,h,hd=>by
  have e:acc=m:=by simpa [Lib.decFrom] using h
  subst e;simp [Lib.decFrom,hd]
 | x :: l,acc,m,b,d,h,hd=>by
  rw [List.cons_append];unfold Lib.decFrom at h ⊢
  cases hx:Lib.digitVal x with
  | none=>rw [hx] at h;cases h
  | some y =>
   rw [hx] at h;exact decFrom_app l _ m b d h hd
theorem digit_val {d:Nat} (h:d<10):Lib.digitVal (UInt8.ofNat (48+d))=some d:=by
 unfold Lib.digitVal
 have e:(UInt8.ofNat (48+d)).toNat=48+d:=by simp;omega
 rw [e,if_pos (by omega)];simp
theorem dec_from (u:Nat):Lib.decFrom 0 (Lib.decDigits u)=some u:=by
 induction u using Nat.strongRecOn with
 | ind u ih =>
  by_cases h:u<10
  ·rw [Lib.decDigits_one h]
   have:=decFrom_app [] 0 0 (UInt8.ofNat (48+u)) u rfl (digit_val h)
   simpa using this
  ·rw [Lib.decDigits,dif_neg h]
   have:=decFrom_app _ 0 _ (UInt8.ofNat (48+u % 10)) (u % 10) (ih (u / 10) (by omega)) (digit_val (by omega));rw [this]
   congr 1
   omega
theorem atoi_dec (u:Nat):Lib.atoi (Lib.decDigits u)=some (u:Int):=by
 have hm:∀ c∈Lib.decDigits u,48≤c.toNat∧c.toNat≤57:=dec_mem
 have hf:=dec_from u
 cases hd:Lib.decDigits u with
 | nil=>exact absurd hd (dec_ne_nil u)
 | cons b r =>
  rw [hd] at hm hf;have hb:=hm b (by simp)
  have h1:(b==45)=false:=by
   rw [beq_eq_false_iff_ne];rintro rfl;exact absurd hb (by decide)
  have h2:(b==43)=false:=by
   rw [beq_eq_false_iff_ne];rintro rfl;exact absurd hb (by decide)
  unfold Lib.atoi;simp only [h1,h2,Bool.false_eq_true,if_false];unfold Lib.decNat;rw [if_neg (by simp),hf];rfl
theorem atoi_itoa {n:Int} (h:0≤n):Lib.atoi (Lib.itoa n)=some n:=by
 obtain⟨u,rfl⟩:∃ u:Nat,n=u:=⟨n.toNat,by omega⟩
 unfold Lib.itoa;rw [if_neg (by omega)]
 simpa using atoi_dec u
theorem parse_nm {k:Int} {u:Nat} (h:k=1∨k=2∨(k=0∧u=0)) (hu:u<18446744073709551616):parseN (nmStr k u)=(k,(u:Int)):=by
 rcases h with rfl | rfl | ⟨rfl,rfl⟩
 ·exact parseN_nm true hu
 ·exact parseN_nm false hu
 ·rfl
theorem bool_back (b:Bool):(Lib.formatBool b==Lib.formatBool true)=b:=by cases b <;> decide
structure RecD.Back (r:RecD):Prop where
 ok:r.Ok
 k:0≤r.kind∧r.kind≤9
 t:0≤r.tr∧r.tr≤1000000000
 n:NmA r.nk r.nn
 a:NmA r.ak r.an
 p:Clear r.pth
 c:Ascii r.pth
theorem clear_nil:Clear []:=⟨by simp,by simp,by simp⟩
theorem Item.back {i:Item} {s:VSt} (h:i.Fits s):i.rec_.Back:=by
 have ho:=Item.ok_of h
 cases i with
 | tok t=>exact⟨ho.1,⟨show (0:Int)≤1 by decide,show (1:Int)≤9 by decide⟩,⟨h.1.r0,h.1.r1.1⟩,.inl rfl,h.1.r1.2,clear_nil,ho.2⟩
 | lea t=>exact⟨ho.1,⟨show (0:Int)≤1 by decide,show (1:Int)≤9 by decide⟩,⟨h.1.r0,h.1.r1.1⟩,.inr (.inl rfl),h.1.r1.2,h.1.pa.2,ho.2⟩
 | gone tk n=>exact⟨ho.1,⟨show (0:Int)≤2 by decide,show (2:Int)≤9 by decide⟩,⟨show (0:Int)≤0 by decide,show (0:Int)≤1000000000 by decide⟩,by cases tk;exact .inr (.inl rfl);exact .inl rfl,.inr (.inr ⟨rfl,rfl⟩),clear_nil,ho.2⟩
theorem FitsAll.back:∀ {is:List Item} {s:VSt},FitsAll is s→∀ r∈is.map Item.rec_,r.Back
 | [],_,_,r,h=>by simp at h
 | a :: is,s,hf,r,h=>by
  rw [List.map_cons] at h
  rcases List.mem_cons.1 h with rfl | h
  ·exact Item.back hf.1
  ·exact FitsAll.back (is:=is) (s:=a.app s) hf.2 r h
theorem now_back {tm:Int} (t0:0≤tm) (t1:tm≤18446744073709551615):(nowR tm).Back:=
 ⟨⟨show (-9223372036854775808:Int)≤0 by decide,show (0:Int)≤9223372036854775807 by decide,show 0<18446744073709551616 by decide,show 0<18446744073709551616 by decide,t0,t1,show (-9223372036854775808:Int)≤0 by decide,show (0:Int)≤9223372036854775807 by decide,show (0:Int)≤0 by decide,show (0:Int)≤18446744073709551615 by decide,show 0≤1000 by decide⟩,⟨show (0:Int)≤0 by decide,show (0:Int)≤9 by decide⟩,⟨show (0:Int)≤0 by decide,show (0:Int)≤1000000000 by decide⟩,.inr (.inr ⟨rfl,rfl⟩),.inr (.inr ⟨rfl,rfl⟩),clear_nil,ascii_nil⟩
theorem LineD.Ok.back {l:LineD} {s:VSt} (h:l.Ok s):∀ r∈l.recs,r.Back:=fun r hr=>by
 rcases List.mem_cons.1 hr with rfl | hr
 ·exact now_back h.1.1 h.1.2
 ·exact h.2.1.back r hr
theorem OkL.back:∀ {ls:List LineD} {s:VSt},OkL ls s→∀ l∈ls,∀ r∈l.recs,r.Back
 | [],_,_,l,hl,_,_=>by cases hl
 | x :: ls,s,⟨h1,h2⟩,l,hl,r,hr=>by
  rcases List.mem_cons.1 hl with rfl | hl
  ·exact h1.back r hr
  ·exact OkL.back h2 l hl r hr
theorem OkL.split {ls:List LineD} {s:VSt} (h:OkL ls s):Lib.split (textL ls) [10] = [] :: ls.map (fun l=>bodyL (recTxt l.recs)):=by
 have h1:=file_split (ls.map LineD.recs) (fun rs hrs r hr=>by
  obtain⟨l,hl,rfl⟩:=List.mem_map.1 hrs
  exact(h.back l hl r hr).p)
 rw [List.map_map] at h1;rw [show textL ls=(ls.map LineD.recs).flatMap recLine by rw [List.flatMap_map];rfl];exact h1
end Go.Proofs
namespace Go.Proofs
open Go.RowKit Go.Sort Go.Lib Go.Shelf Go.Maps Go.WideMaps
theorem file_left {b:Nat} {kl:Lit} (h:Maps.has (fileD (some b)) kl=true):kl=.string jName:=by
 unfold fileD Maps.has at h;simp only [List.any_cons,List.any_nil,Bool.or_false] at h
 cases kl with
 | string s =>
  have:jName=s:=by simpa [Lit.sameKey] using h
  rw [this]
 | _=>simp [Lit.sameKey] at h
theorem Tryz.dNames_one (db md mn b:Nat) (c:List UInt8) (fd:Option (Nat × List UInt8)) (l f:Int) (w:World) (hD:DiskAt w db md mn fd (some (b,c)) (.slice none 0 0) l f) :
  Calls prog 306 #[.pointer (some ⟨db,0,none⟩)] w fun e w'=>∃ g cap,e=.returned (.tuple #[.slice (some ⟨g,0,none⟩) 1 cap,.nilIface])∧w'.cell? ⟨g,0,none⟩=some (.string ⟨#[106,111,117,114,110,97,108]⟩)∧g<w'.heap.size∧Below w.heap.size w w':=by
 have hS:=fun p cap W=>sortStrings_one p cap W
 have d1:=hD.box.cell 1 (v:=.map (some mn)) rfl;have d5:=hD.box.cell 5 (v:=.bool false) rfl;obtain⟨n,hn,hown⟩:=hD.nm;obtain⟨i0,hi,hz0,hz1,hz2⟩:=info_parts strInfo
 change w.ownsMap prog 9 valR mn n (fileD (some b)) at hown
 go_enter func306,ntmps306
 go_wp2_with (first
  | (at_range;refine wpList_range_own _ rfl _ 97 rfl 9 101 (string_keyed underlying9) underlying97 _ mn n _ rfl hown ?_;intro w1 hrg hg1 hs1)
  | go_in)
 have HB:=hid_intro (show Below w.heap.size w w1 from ⟨hg1.os,hg1.tape,hg1.output,hg1.size,fun k hk=>hg1.block k hk (by simp)⟩)
 have hz:w.heap.size<w1.heap.size:=by omega
 clear hg1 hs1 hown d1 d5;refine wp_loop_rounds 2 ?_;rw [rounds_succ]
 go_wp2_with (first
  | (at_next;refine wpList_next_ranges _ rfl _ rfl 9 (string_keyed underlying9) valR Value.string (fun v:Value=>v) (fun key kl hk=>by obtain⟨x,hx,_⟩:=string_of_keyOf underlying9 hk;exact⟨x,hx⟩) (fun v _ _=>⟨v,rfl⟩) mn _ n _ _ _ rfl hrg ?_ ?_)
  | go_in)
 ·intro _ h0
  have h1:=h0 (.string jName);rw [fileD_has] at h1;cases h1
 ·intro x c kl y yp w' cnt' hk hl hv hat hrg2 hlt hgr hsz hen
  obtain rfl:=file_left hl;obtain⟨x',hx,hx2,-⟩:=string_of_keyOf underlying9 hk
  obtain rfl:x=x':=by cases hx;rfl
  have hxj:x=⟨#[106,111,117,114,110,97,108]⟩:=by
   have h3:jName=x.data.toList:=by injection hx2
   apply ByteArray.ext;rw [← Array.toArray_toList (xs:=x.data),← h3];rfl
  subst hxj;have HB2:=hid_intro (show Below w.heap.size w w' from (hid_elim HB).grown hgr (by omega) (fun q hq=>by cases hq;exact Nat.le_refl _));clear hx hx2 hk hl hv hat hrg HB hgr hlt
  go_wp2_with (at_builtin;refine wpList_append_own _ rfl _ _ 40 rfl w.heap.size 9 i0 _ 1 16 underlying40 hi hz0 hz1 hz2 rfl (by decide) _ _ _ rfl (World.ownsRow_nil _ _ _ _) ⟨w'.heap.size,0,none⟩ 1 1 [.string ⟨#[106,111,117,114,110,97,108]⟩] rfl rfl (fun j u hu=>by
   match j,hu with
   | 0,hu =>
    have hu':Value.string ⟨#[106,111,117,114,110,97,108]⟩=u:=by simpa using hu
    rw [← hu',add_cell];exact(BoxN.new w' 9 #[.string ⟨#[106,111,117,114,110,97,108]⟩]).cell 0 rfl
   | k+1,hu=>simp at hu) (by simp [Value.oneCell']) (by decide) (by decide) (by simp;omega) ?_)
  obtain⟨cap,hcap⟩:∃ cap,(Question.appendCap 1 0 9).cut (w'.tape w'.drawn (Question.appendCap 1 0 9))=cap:=⟨_,rfl⟩
  rw [hcap];have bG:=BoxN.new (w'.alloc (.cells #[.string ⟨#[106,111,117,114,110,97,108]⟩] 9)) 9 (#[.string ⟨#[106,111,117,114,110,97,108]⟩] ++ Builtin.zeroCells #[.string ⟨#[]⟩] (cap-1));rw [World.size_alloc,hsz] at bG;have g0:=bG.cell 0 (v:=.string ⟨#[106,111,117,114,110,97,108]⟩) (by rw [Array.getElem?_append_left (by simp)];rfl);have hr3:=(hrg2.alloc (.cells #[.string ⟨#[106,111,117,114,110,97,108]⟩] 9)).alloc (.cells (#[.string ⟨#[106,111,117,114,110,97,108]⟩] ++ Builtin.zeroCells #[.string ⟨#[]⟩] (cap-1)) 9);have hB3:=(((hid_elim HB2).alloc (by omega) (.cells #[.string ⟨#[106,111,117,114,110,97,108]⟩] 9)).alloc (by simp;omega) (.cells (#[.string ⟨#[106,111,117,114,110,97,108]⟩] ++ Builtin.zeroCells #[.string ⟨#[]⟩] (cap-1)) 9)).drew;have hr4:((w'.alloc (.cells #[.string ⟨#[106,111,117,114,110,97,108]⟩] 9)).alloc (.cells (#[.string ⟨#[106,111,117,114,110,97,108]⟩] ++ Builtin.zeroCells #[.string ⟨#[]⟩] (cap-1)) 9)).drew.ranges prog 9 valR mn w.heap.size n (fileD (some b)) (fun z=>Maps.has (fileD (some b)) z && !z.sameKey (Lit.string jName)) cnt':=hr3;have g1:((w'.alloc (.cells #[.string ⟨#[106,111,117,114,110,97,108]⟩] 9)).alloc (.cells (#[.string ⟨#[106,111,117,114,110,97,108]⟩] ++ Builtin.zeroCells #[.string ⟨#[]⟩] (cap-1)) 9)).drew.cell? ⟨w1.heap.size+1,0,none⟩=some (.string ⟨#[106,111,117,114,110,97,108]⟩):=g0;have g2:w1.heap.size+1<((w'.alloc (.cells #[.string ⟨#[106,111,117,114,110,97,108]⟩] 9)).alloc (.cells (#[.string ⟨#[106,111,117,114,110,97,108]⟩] ++ Builtin.zeroCells #[.string ⟨#[]⟩] (cap-1)) 9)).drew.heap.size:=bG.lt;generalize ((w'.alloc (.cells #[.string ⟨#[106,111,117,114,110,97,108]⟩] 9)).alloc (.cells (#[.string ⟨#[106,111,117,114,110,97,108]⟩] ++ Builtin.zeroCells #[.string ⟨#[]⟩] (cap-1)) 9)).drew=W3 at *;clear bG g0 hr3 hcap hrg2 HB2 hen;rw [rounds_succ]
  go_wp2_with (first
   | (at_next;refine wpList_next_ranges _ rfl _ rfl 9 (string_keyed underlying9) valR (fun v:Value=>v) (fun v:Value=>v) (fun v _ _=>⟨v,rfl⟩) (fun v _ _=>⟨v,rfl⟩) mn _ n _ _ _ rfl hr4 ?_ ?_)
   | go_in)
  ·intro _ _
   clear hr4
   go_wp2_with (go_at_call 312;refine(hS _ _ _).mono ?_;rintro e w2 ⟨rfl,rfl⟩)
   exact bodyPost_ret (v:=.tuple #[.slice (some ⟨w1.heap.size+1,0,none⟩) 1 cap,.nilIface]) (by simp [results,results306,go_sem]) rfl ⟨_,_,rfl,g1,g2,hB3⟩
  ·intro x c kl y yp w'' cnt'' _ h2 h3
   obtain rfl:=file_left h2;exact absurd h3 (by decide)
theorem Tryz.dRead_one (db md mn b:Nat) (c:List UInt8) (fd:Option (Nat × List UInt8)) (l f:Int) (w:World) (hD:DiskAt w db md mn fd (some (b,c)) (.slice none 0 0) l f) :
  Calls prog 307 #[.pointer (some ⟨db,0,none⟩),.string ⟨#[106,111,117,114,110,97,108]⟩] w fun e w'=>∃ g cap,e=.returned (.tuple #[.slice (some ⟨g,0,none⟩) c.length cap,.nilIface])∧BytesAt w' g c∧(w.heap.size≤g∧g<w'.heap.size)∧Below w.heap.size w w':=by
 obtain⟨cp,mk,hTB⟩:=toBytes c;have d1:=hD.box.cell 1 (v:=.map (some mn)) rfl;have d5:=hD.box.cell 5 (v:=.bool false) rfl;obtain⟨n,hn,hown⟩:=hD.nm;have hL:=lookF hown;unfold ptrV at hL;have s0:=(hD.sn (b,c) rfl).cell 0 (v:=.string ⟨c.toArray⟩) rfl;simp only at s0
 have hcv:=fun W=>(hTB W).1
 go_enter func307,ntmps307;go_wp2;refine bodyPost_ret (v:=.tuple #[.slice (some ⟨w.heap.size,0,none⟩) c.length (cp w),.nilIface]) (by simp [results,results307,go_sem]) rfl ?_;exact⟨w.heap.size,⟨cp w,rfl⟩,(hTB w).2.2.2,⟨Nat.le_refl _,(hTB w).2.2.1⟩,(hTB w).2.1⟩
theorem Tryz.numbersOn_one (db md mn b:Nat) (c:List UInt8) (fd:Option (Nat × List UInt8)) (l f:Int) (w:World) (hD:DiskAt w db md mn fd (some (b,c)) (.slice none 0 0) l f) (hE:Env w) (h6:6≤w.heap.size) :
  Calls prog 180 #[diskV db] w fun e w'=>∃ g cap,e=.returned (.tuple #[.slice (some ⟨g,0,none⟩) 1 cap,.nilIface])∧w'.cell? ⟨g,0,none⟩=some (.int .u64 0)∧g<w'.heap.size∧Below w.heap.size w w':=by
 have hm:=fun W=>method_names db W
 have hN:=dNames_one db md mn b c fd l f w hD
 have hS:=fun p cap W=>sortU64_one p cap W
 have hO:=fun W (hb:Below w.heap.size w W)=>numberOf_j W (hE.below hb h6)
 unfold diskV;go_enter func180,ntmps180
 go_wp2_with (go_at_call 306;refine hN.mono ?_;rintro e w1 ⟨g,cap,rfl,g0,g1,hb1⟩)
 refine wp_loop_rounds 2 ?_;rw [rounds_succ]
 go_wp2_with (go_at_call 210;refine(hO _ hb1).mono ?_;rintro e w2 ⟨rfl,hb2⟩)
 obtain⟨cap2,hcap⟩:∃ cap,(Question.appendCap 1 0 31).cut (w2.tape w2.drawn (Question.appendCap 1 0 31))=cap:=⟨_,rfl⟩
 rw [hcap];have hB2:=hb1.trans (hb2.mono hb1.size);have bG:=BoxN.new (w2.alloc (.cells #[.int .u64 0] 31)) 31 (#[.int .u64 0] ++ Builtin.zeroCells #[.int .u64 0] (cap2-1));rw [World.size_alloc] at bG;have q0:=bG.cell 0 (v:=.int .u64 0) (by rw [Array.getElem?_append_left (by simp)];rfl);have hB3:=((hB2.alloc hB2.size (.cells #[.int .u64 0] 31)).alloc (by have:=hB2.size;simp;omega) (.cells (#[.int .u64 0] ++ Builtin.zeroCells #[.int .u64 0] (cap2-1)) 31)).drew;have q1:((w2.alloc (.cells #[.int .u64 0] 31)).alloc (.cells (#[.int .u64 0] ++ Builtin.zeroCells #[.int .u64 0] (cap2-1)) 31)).drew.cell? ⟨w2.heap.size+1,0,none⟩=some (.int .u64 0):=q0;have q2:w2.heap.size+1<((w2.alloc (.cells #[.int .u64 0] 31)).alloc (.cells (#[.int .u64 0] ++ Builtin.zeroCells #[.int .u64 0] (cap2-1)) 31)).drew.heap.size:=bG.lt;generalize ((w2.alloc (.cells #[.int .u64 0] 31)).alloc (.cells (#[.int .u64 0] ++ Builtin.zeroCells #[.int .u64 0] (cap2-1)) 31)).drew=W3 at *;clear bG q0 hcap;rw [rounds_succ]
 go_wp2_with (go_at_call 211;refine(hS _ _ _).mono ?_;rintro e w4 ⟨rfl,rfl⟩)
 go_ret2
 exact⟨_,_,rfl,q1,q2,hB3⟩
def begB (c:List UInt8):Bool:=wholeB (Lib.cut (Lib.cut c [10]).2.1 [10]).1
theorem Tryz.beginsWhole (c:List UInt8) (hc:c.length<4294967281) (ha:∀ b∈c,b.toNat<128) (w:World) (hE:Env w) (h9:9≤w.heap.size) (hG:ErrT w) :
  Calls prog 182 #[.string ⟨c.toArray⟩] w fun e w'=>e=.returned (.bool (begB c))∧Below w.heap.size w w':=by
 obtain⟨-,a1,l0,l1⟩:=cut_sub c [10];obtain⟨a2,-,l2,l3⟩:=cut_sub (Lib.cut c [10]).2.1 [10]
 have hC1:=fun W (hb:Below w.heap.size w W)=>cut c [10] W hc (hG.below (hb.mono h9))
 have hC2:=fun W (hb:Below w.heap.size w W)=>cut (Lib.cut c [10]).2.1 [10] W (by omega) (hG.below (hb.mono h9))
 have hT:=fun W (hb:Below w.heap.size w W)=>textOf (Lib.cut (Lib.cut c [10]).2.1 [10]).1 W (by omega) (fun b hb=>ha b (a1 b (a2 b hb))) (hE.below hb (by omega)) (Nat.le_trans h9 hb.size) (hG.below (hb.mono h9))
 change ∀ W,_→Calls _ _ _ _ (fun e w'=>e=.returned (.tuple #[.string ⟨(txtL (Lib.cut (Lib.cut c [10]).2.1 [10]).1).toArray⟩,.bool (begB c)])∧_) at hT
 generalize begB c=bg at *;generalize txtL (Lib.cut (Lib.cut c [10]).2.1 [10]).1=tx at *;generalize Lib.cut c [10]=x1 at *;obtain⟨n1,r1,f1⟩:=x1;simp only at *;generalize Lib.cut r1 [10]=x2 at *;obtain⟨n2,r2,f2⟩:=x2;simp only at *;clear a1 a2 l0 l1 l2 l3 ha hc;go_enter func182,ntmps182
 go_wp2_with (first
  | (go_at_call_of 213 (Value.string ⟨c.toArray⟩);refine(hC1 _ (Below.refl _ _)).mono ?_;rintro e w1 ⟨rfl,hb1⟩)
  | (go_at_call_of 213 (Value.string ⟨r1.toArray⟩);refine(hC2 _ hb1).mono ?_;rintro e w2 ⟨rfl,hb2⟩;have hB2:=hb1.trans (hb2.mono hb1.size))
  | (go_at_call 185;refine(hT _ hB2).mono ?_;rintro e w3 ⟨rfl,hb3⟩;have hB3:=hB2.trans (hb3.mono hB2.size)))
 go_ret;exact⟨rfl,hB3⟩
theorem begB_text {ls:List LineD} {s:VSt} (h:OkL ls s) (hne:ls ≠ []):begB (textL ls)=true:=by
 obtain⟨l,ls,rfl⟩:=List.exists_cons_of_ne_nil hne
 have hb:=fun r hr=>h.back l (by simp) r hr
 have hno:(10:UInt8)∉bodyL (recTxt l.recs):=by
  have h1:=txt_no (fun r hr=>(hb r hr).p);unfold bodyL;intro hm
  rcases List.mem_append.1 hm with hm | hm
  ·exact dec_no (by decide) _ hm
  ·rcases List.mem_cons.1 hm with hm | hm
   ·cases hm
   ·rcases List.mem_append.1 hm with hm | hm
    ·exact dec_no (by decide) _ hm
    ·rcases List.mem_cons.1 hm with hm | hm
     ·cases hm
     ·exact h1 hm
 have hl:(recTxt l.recs).length<18446744073709551616:=by
  have h2:=recText_len l.recs (fun r hr=>(hb r hr).ok);have h3:=h.1.2.2.2
  have h4:l.recs.length=l.is.length+1:=by simp [LineD.recs]
  omega
 have e1:textL (l :: ls) = [] ++ 10 :: (bodyL (recTxt l.recs)++textL ls):=by
  unfold textL recLine;rw [List.flatMap_cons,lineL_body];simp
 unfold begB;rw [e1,cut_at (by simp)];simp only
 have e2:(Lib.cut (bodyL (recTxt l.recs)++textL ls) [10]).1=bodyL (recTxt l.recs):=by
  cases ls with
  | nil =>
   unfold Lib.cut;rw [show bodyL (recTxt l.recs)++textL []=bodyL (recTxt l.recs) by simp [textL],index_free hno,if_neg (by decide)]
  | cons l2 ls =>
   have e3:textL (l2 :: ls)=10 :: (bodyL (recTxt l2.recs)++textL ls):=by
    unfold textL recLine;rw [List.flatMap_cons,lineL_body];simp
   rw [e3,cut_at hno]
 rw [e2];exact(body_whole _ hl).1
end Go.Proofs
