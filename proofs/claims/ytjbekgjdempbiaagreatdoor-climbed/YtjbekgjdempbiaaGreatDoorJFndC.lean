import Derived.Test.YtjbekgjdempbiaaGreatDoorJCntC
import Derived.Test.YtjbekgjdempbiaaGreatDoorJFndA
import Derived.Test.YtjbekgjdempbiaaGreatDoorJRel
import Derived.Lib.SplitLaws
import Derived.Test.YtjbekgjdempbiaaGreatDoorJRefH
import Derived.Lib.Atoi
import Derived.Test.YtjbekgjdempbiaaGreatDoorJCodeE
import Derived.Test.YtjbekgjdempbiaaGreatDoorJRounds
import Derived.RangeFuncCalls
set_option maxRecDepth 100000
set_option maxHeartbeats 8000000
namespace Go.Proofs
open Go.RowKit Go.Sort Go.Lib Go.Shelf Go.Maps
theorem index_free {c:UInt8}:∀ {l:List UInt8},c∉l→Lib.index l [c] = -1
 | [],_=>rfl
 | b :: l,h=>by
  have hb:¬ c=b:=fun e=>h (by simp [e])
  have hl:c∉l:=fun e=>h (by simp [e])
  unfold Lib.index;rw [if_neg (by simp [List.isPrefixOf,hb]),index_free hl];rfl
theorem index_at {c:UInt8} {b:List UInt8}:∀ {a:List UInt8},c∉a→Lib.index (a++c :: b) [c]=a.length
 | [],_=>by
  show Lib.index (c :: b) [c]=0
  unfold Lib.index;rw [if_pos (by simp [List.isPrefixOf])]
 | x :: a,h=>by
  have hb:¬ c=x:=fun e=>h (by simp [e])
  have hl:c∉a:=fun e=>h (by simp [e])
  show Lib.index (x :: (a++c :: b)) [c]=_
  unfold Lib.index;rw [if_neg (by simp [List.isPrefixOf,hb]),index_at hl,if_neg (by simp)];simp
theorem split_free {c:UInt8} {l:List UInt8} (h:c∉l):Lib.split l [c] = [l]:=by
 unfold Lib.split;rw [Lib.count_miss (index_free h)];rfl
theorem split_app {c:UInt8} {a b:List UInt8} (h:c∉a):Lib.split (a++c :: b) [c]=a :: Lib.split b [c]:=by
 have hi:=index_at (b:=b) h
 have hd:(a++c :: b).drop (a.length + [c].length)=b:=by
  rw [show a++c :: b=(a ++ [c])++b by simp,List.drop_left' (by simp)]
 unfold Lib.split;rw [Lib.count_hit (by simp) hi,hd,Nat.add_comm 1]
 show (if Lib.index (a++c :: b) [c] == -1 then _ else _)=_
 rw [if_neg (by rw [hi];simp),hi]
 have e:(((a.length:Nat):Int)).toNat=a.length:=by simp
 rw [e,hd,Nat.add_zero,List.take_left]
theorem split_join {c:UInt8}:∀ {xs:List (List UInt8)},xs ≠ []→(∀ x∈xs,c∉x)→Lib.split (Lib.join xs [c]) [c]=xs
 | [],h,_=>absurd rfl h
 | [x],_,h=>by
  show Lib.split ([c].intercalate [x]) [c] = [x]
  rw [show [c].intercalate [x]=x by simp [List.intercalate]];exact split_free (h x (by simp))
 | x :: y :: xs,_,h=>by
  have ih:=split_join (xs:=y :: xs) (by simp) (fun z hz=>h z (List.mem_cons_of_mem _ hz))
  have e:Lib.join (x :: y :: xs) [c]=x++c :: Lib.join (y :: xs) [c]:=by simp [Lib.join,List.intercalate,List.intersperse]
  rw [e,split_app (h x (by simp)),ih]
theorem cut_at {c:UInt8} {a b:List UInt8} (h:c∉a):Lib.cut (a++c :: b) [c]=(a,b,true):=by
 have hi:=index_at (b:=b) h;unfold Lib.cut;rw [if_pos (by rw [hi];omega),hi]
 have e:(((a.length:Nat):Int)).toNat=a.length:=by simp
 rw [e,List.take_left,show a++c :: b=(a ++ [c])++b by simp,List.drop_left' (by simp)]
def bodyL (t:List UInt8):List UInt8:=Lib.decDigits t.length++32 :: (Lib.decDigits (sumI t).toNat++32 :: t)
theorem lineL_body (t:List UInt8):lineL t=10 :: bodyL t:=rfl
theorem dec_no {c:UInt8} (hc:c.toNat<48) (u:Nat):c∉Lib.decDigits u:=by
 induction u using Nat.strongRecOn with
 | ind u ih =>
  have one:∀ d,d<10→c≠UInt8.ofNat (48+d):=fun d hd e=>by
   have:=congrArg UInt8.toNat e;simp at this;omega
  by_cases h:u<10
  ·rw [Lib.decDigits_one h]
   intro hm;exact one u h (List.mem_singleton.1 hm)
  ·rw [Lib.decDigits,dif_neg h]
   intro hm
   rcases List.mem_append.1 hm with hm | hm
   ·exact ih (u / 10) (by omega) hm
   ·exact one (u % 10) (by omega) (List.mem_singleton.1 hm)
theorem puV_dec (u:Nat) (h:u<18446744073709551616):puV (Lib.decDigits u)=u:=by
 unfold puV;rw [parse_dec u h]
theorem body_whole (t:List UInt8) (ht:t.length<18446744073709551616):wholeB (bodyL t)=true∧txtL (bodyL t)=t:=by
 have h1:=cut_at (b:=Lib.decDigits (sumI t).toNat++32 :: t) (dec_no (c:=32) (by decide) t.length);have h2:=cut_at (b:=t) (dec_no (c:=32) (by decide) (sumI t).toNat);obtain⟨s0,s1⟩:=sum_range t
 have htx:txtL (bodyL t)=t:=by
  unfold txtL bodyL;rw [h1,h2]
 refine⟨?_,htx⟩;unfold wholeB;rw [htx];unfold bodyL;rw [h1]
 show (puV (Lib.decDigits t.length)==(t.length:Int)&&puV (Lib.cut (Lib.decDigits (sumI t).toNat++32 :: t) [32]).1==sumI t)=true
 rw [h2,puV_dec _ ht,puV_dec _ (by omega)]
 have:(((sumI t).toNat:Nat):Int)=sumI t:=by omega
 simp [this]
theorem split_lines:∀(ts:List (List UInt8)),(∀ t∈ts,(10:UInt8)∉t)→Lib.split (ts.flatMap lineL) [10] = [] :: ts.map bodyL:=by
 have hno:∀ t:List UInt8,(10:UInt8)∉t→(10:UInt8)∉bodyL t:=fun t h hm=>by
  unfold bodyL at hm
  rcases List.mem_append.1 hm with hm | hm
  ·exact dec_no (by decide) _ hm
  ·rcases List.mem_cons.1 hm with hm | hm
   ·cases hm
   ·rcases List.mem_append.1 hm with hm | hm
    ·exact dec_no (by decide) _ hm
    ·rcases List.mem_cons.1 hm with hm | hm
     ·cases hm
     ·exact h hm
 have hstep:∀(ts:List (List UInt8)) (a:List UInt8),(10:UInt8)∉a→(∀ t∈ts,(10:UInt8)∉t)→Lib.split (a++ts.flatMap lineL) [10]=a :: ts.map bodyL:=fun ts=>by
  induction ts with
  | nil=>intro a ha _;simpa using split_free ha
  | cons t ts ih =>
   intro a ha h;rw [List.flatMap_cons,lineL_body,List.cons_append,split_app ha,ih (bodyL t) (hno t (h t (by simp))) (fun x hx=>h x (List.mem_cons_of_mem _ hx))];rfl
 intro ts h
 simpa using hstep ts [] (by simp) h
theorem clear_of {s:List UInt8} (h:∀ c∈s,c.toNat≠10∧c.toNat≠32∧c.toNat≠59):Clear s:=
 ⟨fun hm=>(h _ hm).1 rfl,fun hm=>(h _ hm).2.1 rfl,fun hm=>(h _ hm).2.2 rfl⟩
theorem clear_path {s:List UInt8} (h:pathI s=true):Clear s:=by
 have hf:s.foldl pstep (some false)=some true:=by
  unfold pathI at h;simp at h;exact h.1
 have key:∀(s:List UInt8) (o b:Bool),s.foldl pstep (some o)=some b→∀ c∈s,c.toNat≠10∧c.toNat≠32∧c.toNat≠59:=fun s=>by
  induction s with
  | nil=>intro _ _ _ c hc;cases hc
  | cons x s ih =>
   intro o b hs c hc;rw [List.foldl_cons] at hs
   cases hx:pstep (some o) x with
   | none=>rw [hx,pstep_none] at hs;cases hs
   | some o' =>
    rw [hx] at hs
    rcases List.mem_cons.1 hc with rfl | hc
    ·unfold pstep at hx
     simp only at hx
     split at hx
     ·omega
     ·split at hx
      ·rename_i hn
       unfold nameCh at hn;simp at hn;omega
      ·cases hx
    ·exact ih o' b hs c hc
 exact clear_of (key s false true hf)
theorem dec_mem {u:Nat}:∀ c∈Lib.decDigits u,48≤c.toNat∧c.toNat≤57:=by
 induction u using Nat.strongRecOn with
 | ind u ih =>
  have one:∀ d,d<10→∀ c ∈ [UInt8.ofNat (48+d)],48≤c.toNat∧c.toNat≤57:=fun d hd c hc=>by
   rw [List.mem_singleton.1 hc];simp;omega
  by_cases h:u<10
  ·rw [Lib.decDigits_one h]
   exact one u h
  ·rw [Lib.decDigits,dif_neg h]
   intro c hm
   rcases List.mem_append.1 hm with hm | hm
   ·exact ih (u / 10) (by omega) c hm
   ·exact one (u % 10) (by omega) c hm
theorem clear_dec (u:Nat):Clear (Lib.decDigits u):=clear_of (fun c hc=>by have:=dec_mem c hc;omega)
theorem clear_itoa (n:Int):Clear (Lib.itoa n):=by
 unfold Lib.itoa
 split
 ·refine clear_of (fun c hc=>?_)
  rcases List.mem_cons.1 hc with rfl | hc
  ·decide
  ·have:=dec_mem c hc;omega
 ·exact clear_dec _
theorem clear_nm (k:Int) (u:Nat):Clear (nmStr k u):=by
 unfold nmStr
 split
 ·refine clear_of (fun c hc=>?_)
  rcases List.mem_cons.1 hc with rfl | hc
  ·decide
  ·have:=dec_mem c hc;omega
 ·split
  ·refine clear_of (fun c hc=>?_)
   rcases List.mem_cons.1 hc with rfl | hc
   ·decide
   ·have:=dec_mem c hc;omega
  ·exact⟨by simp,by simp,by simp⟩
theorem clear_bool (b:Bool):Clear (Lib.formatBool b):=by cases b <;> exact⟨by decide,by decide,by decide⟩
theorem not_join {c d:UInt8} (hcd:c≠d):∀ {xs:List (List UInt8)},(∀ x∈xs,c∉x)→c∉Lib.join xs [d]
 | [],_=>by simp [Lib.join,List.intercalate]
 | [x],h=>by
  rw [show Lib.join [x] [d]=x by simp [Lib.join,List.intercalate]];exact h x (by simp)
 | x :: y :: xs,h=>by
  have ih:=not_join hcd (xs:=y :: xs) (fun z hz=>h z (List.mem_cons_of_mem _ hz));rw [show Lib.join (x :: y :: xs) [d]=x++d :: Lib.join (y :: xs) [d] by simp [Lib.join,List.intercalate,List.intersperse]];intro hm
  rcases List.mem_append.1 hm with hm | hm
  ·exact h x (by simp) hm
  ·rcases List.mem_cons.1 hm with hm | hm
   ·exact hcd hm
   ·exact ih hm
theorem fields_clear {r:RecD} (hp:Clear r.pth):∀ x∈recFields r,Clear x:=fun x hx=>by
 simp only [recFields,List.mem_cons,List.not_mem_nil,or_false] at hx
 rcases hx with rfl | rfl | rfl | rfl | rfl | rfl | rfl | rfl
 ·exact clear_itoa _
 ·exact clear_nm _ _
 ·exact clear_nm _ _
 ·exact clear_bool _
 ·exact clear_dec _
 ·exact clear_itoa _
 ·exact clear_dec _
 ·exact hp
theorem rec_split {r:RecD} (hp:Clear r.pth):Lib.split (recStr r) [32]=recFields r:=
 split_join (by simp [recFields]) (fun x hx=>(fields_clear hp x hx).2.1)
theorem rec_no {r:RecD} (hp:Clear r.pth):(59:UInt8)∉recStr r∧(10:UInt8)∉recStr r:=
 ⟨not_join (by decide) (fun x hx=>(fields_clear hp x hx).2.2),not_join (by decide) (fun x hx=>(fields_clear hp x hx).1)⟩
theorem txt_split {rs:List RecD} (hne:rs ≠ []) (hp:∀ r∈rs,Clear r.pth):Lib.split (recTxt rs) [59]=rs.map recStr:=
 split_join (by simp [recTexts,hne]) (fun x hx=>by
  obtain⟨r,hr,rfl⟩:=List.mem_map.1 hx
  exact(rec_no (hp r hr)).1)
theorem txt_no {rs:List RecD} (hp:∀ r∈rs,Clear r.pth):(10:UInt8)∉recTxt rs:=
 not_join (by decide) (fun x hx=>by
  obtain⟨r,hr,rfl⟩:=List.mem_map.1 hx
  exact(rec_no (hp r hr)).2)
theorem file_split (ls:List (List RecD)) (hp:∀ rs∈ls,∀ r∈rs,Clear r.pth):Lib.split (ls.flatMap recLine) [10] = [] :: ls.map (fun rs=>bodyL (recTxt rs)):=by
 have h:=split_lines (ls.map recTxt) (fun t ht=>by
  obtain⟨rs,hrs,rfl⟩:=List.mem_map.1 ht
  exact txt_no (hp rs hrs))
 rw [List.map_map] at h;rw [← show (ls.map recTxt).flatMap lineL=ls.flatMap recLine by rw [List.flatMap_map];rfl];exact h
theorem decFrom_app:∀(l:List UInt8) (acc m:Nat) (b:UInt8) (d:Nat),Lib.decFrom acc l=some m→Lib.digitVal b=some d→Lib.decFrom acc (l ++ [b])=some (m*10+d)
 | [],acc,m,b,d,h,hd=>by
  have e:acc=m:=by simpa [Lib.decFrom] using h
  subst e;simp [Lib.decFrom,hd]
 | x :: l,acc,m,b,d,h,hd=>by
  rw [List.cons_append];unfold Lib.decFrom at h ⊢
  cases hx:Lib.digitVal x with
  | none=>rw [hx] at h;cases h
  | some y =>
   rw [hx] at h;exact decFrom_app l _ m b d h hd
theorem digit_val {d:Nat} (h:d<10):Lib.digitVal (UInt8.ofNat (48+d))=some d:=by
 unfold Lib.digitVal
 have e:(UInt8.ofNat (48+d)).toNat=48+d:=by simp;omega
 rw [e,if_pos (by omega)];simp
theorem dec_from (u:Nat):Lib.decFrom 0 (Lib.decDigits u)=some u:=by
 induction u using Nat.strongRecOn with
 | ind u ih =>
  by_cases h:u<10
  ·rw [Lib.decDigits_one h]
   have:=decFrom_app [] 0 0 (UInt8.ofNat (48+u)) u rfl (digit_val h)
   simpa using this
  ·rw [Lib.decDigits,dif_neg h]
   have:=decFrom_app _ 0 _ (UInt8.ofNat (48+u % 10)) (u % 10) (ih (u / 10) (by omega)) (digit_val (by omega));rw [this]
   congr 1
   omega
theorem atoi_dec (u:Nat):Lib.atoi (Lib.decDigits u)=some (u:Int):=by
 have hm:∀ c∈Lib.decDigits u,48≤c.toNat∧c.toNat≤57:=dec_mem
 have hf:=dec_from u
 cases hd:Lib.decDigits u with
 | nil=>exact absurd hd (dec_ne_nil u)
 | cons b r =>
  rw [hd] at hm hf;have hb:=hm b (by simp)
  have h1:(b==45)=false:=by
   rw [beq_eq_false_iff_ne];rintro rfl;exact absurd hb (by decide)
  have h2:(b==43)=false:=by
   rw [beq_eq_false_iff_ne];rintro rfl;exact absurd hb (by decide)
  unfold Lib.atoi;simp only [h1,h2,Bool.false_eq_true,if_false];unfold Lib.decNat;rw [if_neg (by simp),hf];rfl
theorem atoi_itoa {n:Int} (h:0≤n):Lib.atoi (Lib.itoa n)=some n:=by
 obtain⟨u,rfl⟩:∃ u:Nat,n=u:=⟨n.toNat,by omega⟩
 unfold Lib.itoa;rw [if_neg (by omega)]
 simpa using atoi_dec u
theorem parse_nm {k:Int} {u:Nat} (h:k=1∨k=2∨(k=0∧u=0)) (hu:u<18446744073709551616):parseN (nmStr k u)=(k,(u:Int)):=by
 rcases h with rfl | rfl | ⟨rfl,rfl⟩
 ·exact parseN_nm true hu
 ·exact parseN_nm false hu
 ·rfl
theorem bool_back (b:Bool):(Lib.formatBool b==Lib.formatBool true)=b:=by cases b <;> decide
structure RecD.Back (r:RecD):Prop where
 ok:r.Ok
 k:0≤r.kind∧r.kind≤9
 t:0≤r.tr∧r.tr≤1000000000
 n:NmA r.nk r.nn
 a:NmA r.ak r.an
 p:Clear r.pth
 c:Ascii r.pth
theorem clear_nil:Clear []:=⟨by simp,by simp,by simp⟩
theorem Item.back {i:Item} {s:VSt} (h:i.Fits s):i.rec_.Back:=by
 have ho:=Item.ok_of h
 cases i with
 | tok t=>exact⟨ho.1,⟨show (0:Int)≤1 by decide,show (1:Int)≤9 by decide⟩,⟨h.1.r0,h.1.r1.1⟩,.inl rfl,h.1.r1.2,clear_nil,ho.2⟩
 | lea t=>exact⟨ho.1,⟨show (0:Int)≤1 by decide,show (1:Int)≤9 by decide⟩,⟨h.1.r0,h.1.r1.1⟩,.inr (.inl rfl),h.1.r1.2,h.1.pa.2,ho.2⟩
 | gone tk n=>exact⟨ho.1,⟨show (0:Int)≤2 by decide,show (2:Int)≤9 by decide⟩,⟨show (0:Int)≤0 by decide,show (0:Int)≤1000000000 by decide⟩,by cases tk;exact .inr (.inl rfl);exact .inl rfl,.inr (.inr ⟨rfl,rfl⟩),clear_nil,ho.2⟩
theorem FitsAll.back:∀ {is:List Item} {s:VSt},FitsAll is s→∀ r∈is.map Item.rec_,r.Back
 | [],_,_,r,h=>by simp at h
 | a :: is,s,hf,r,h=>by
  rw [List.map_cons] at h
  rcases List.mem_cons.1 h with rfl | h
  ·exact Item.back hf.1
  ·exact FitsAll.back (is:=is) (s:=a.app s) hf.2 r h
theorem now_back {tm:Int} (t0:0≤tm) (t1:tm≤18446744073709551615):(nowR tm).Back:=
 ⟨⟨show (-9223372036854775808:Int)≤0 by decide,show (0:Int)≤9223372036854775807 by decide,show 0<18446744073709551616 by decide,show 0<18446744073709551616 by decide,t0,t1,show (-9223372036854775808:Int)≤0 by decide,show (0:Int)≤9223372036854775807 by decide,show (0:Int)≤0 by decide,show (0:Int)≤18446744073709551615 by decide,show 0≤1000 by decide⟩,⟨show (0:Int)≤0 by decide,show (0:Int)≤9 by decide⟩,⟨show (0:Int)≤0 by decide,show (0:Int)≤1000000000 by decide⟩,.inr (.inr ⟨rfl,rfl⟩),.inr (.inr ⟨rfl,rfl⟩),clear_nil,ascii_nil⟩
theorem LineD.Ok.back {l:LineD} {s:VSt} (h:l.Ok s):∀ r∈l.recs,r.Back:=fun r hr=>by
 rcases List.mem_cons.1 hr with rfl | hr
 ·exact now_back h.1.1 h.1.2
 ·exact h.2.1.back r hr
theorem OkL.back:∀ {ls:List LineD} {s:VSt},OkL ls s→∀ l∈ls,∀ r∈l.recs,r.Back
 | [],_,_,l,hl,_,_=>by cases hl
 | x :: ls,s,⟨h1,h2⟩,l,hl,r,hr=>by
  rcases List.mem_cons.1 hl with rfl | hl
  ·exact h1.back r hr
  ·exact OkL.back h2 l hl r hr
theorem OkL.split {ls:List LineD} {s:VSt} (h:OkL ls s):Lib.split (textL ls) [10] = [] :: ls.map (fun l=>bodyL (recTxt l.recs)):=by
 have h1:=file_split (ls.map LineD.recs) (fun rs hrs r hr=>by
  obtain⟨l,hl,rfl⟩:=List.mem_map.1 hrs
  exact(h.back l hl r hr).p)
 rw [List.map_map] at h1;rw [show textL ls=(ls.map LineD.recs).flatMap recLine by rw [List.flatMap_map];rfl];exact h1
end Go.Proofs
namespace Go.Proofs
open Go.RowKit Go.Sort Go.Lib Go.Shelf Go.Maps Go.WideMaps
theorem file_left {b:Nat} {kl:Lit} (h:Maps.has (fileD (some b)) kl=true):kl=.string jName:=by
 unfold fileD Maps.has at h;simp only [List.any_cons,List.any_nil,Bool.or_false] at h
 cases kl with
 | string s =>
  have:jName=s:=by simpa [Lit.sameKey] using h
  rw [this]
 | _=>simp [Lit.sameKey] at h
theorem Tryz.dNames_one (db md mn b:Nat) (c:List UInt8) (fd:Option (Nat × List UInt8)) (l f:Int) (w:World) (hD:DiskAt w db md mn fd (some (b,c)) (.slice none 0 0) l f) :
  Calls prog 306 #[.pointer (some ⟨db,0,none⟩)] w fun e w'=>∃ g cap,e=.returned (.tuple #[.slice (some ⟨g,0,none⟩) 1 cap,.nilIface])∧w'.cell? ⟨g,0,none⟩=some (.string ⟨#[106,111,117,114,110,97,108]⟩)∧g<w'.heap.size∧Below w.heap.size w w':=by
 have hS:=fun p cap W=>sortStrings_one p cap W
 have d1:=hD.box.cell 1 (v:=.map (some mn)) rfl;have d5:=hD.box.cell 5 (v:=.bool false) rfl;obtain⟨n,hn,hown⟩:=hD.nm;obtain⟨i0,hi,hz0,hz1,hz2⟩:=info_parts strInfo
 change w.ownsMap prog 9 valR mn n (fileD (some b)) at hown
 go_enter func306,ntmps306
 go_wp2_with (first
  | (at_range;refine wpList_range_own _ rfl _ 97 rfl 9 101 (string_keyed underlying9) underlying97 _ mn n _ rfl hown ?_;intro w1 hrg hg1 hs1)
  | go_in)
 have HB:=hid_intro (show Below w.heap.size w w1 from ⟨hg1.os,hg1.tape,hg1.output,hg1.size,fun k hk=>hg1.block k hk (by simp)⟩)
 have hz:w.heap.size<w1.heap.size:=by omega
 clear hg1 hs1 hown d1 d5;refine wp_loop_rounds 2 ?_;rw [rounds_succ]
 go_wp2_with (first
  | (at_next;refine wpList_next_ranges _ rfl _ rfl 9 (string_keyed underlying9) valR Value.string (fun v:Value=>v) (fun key kl hk=>by obtain⟨x,hx,_⟩:=string_of_keyOf underlying9 hk;exact⟨x,hx⟩) (fun v _ _=>⟨v,rfl⟩) mn _ n _ _ _ rfl hrg ?_ ?_)
  | go_in)
 ·intro _ h0
  have h1:=h0 (.string jName);rw [fileD_has] at h1;cases h1
 ·intro x c kl y yp w' cnt' hk hl hv hat hrg2 hlt hgr hsz hen
  obtain rfl:=file_left hl;obtain⟨x',hx,hx2,-⟩:=string_of_keyOf underlying9 hk
  obtain rfl:x=x':=by cases hx;rfl
  have hxj:x=⟨#[106,111,117,114,110,97,108]⟩:=by
   have h3:jName=x.data.toList:=by injection hx2
   apply ByteArray.ext;rw [← Array.toArray_toList (xs:=x.data),← h3];rfl
  subst hxj;have HB2:=hid_intro (show Below w.heap.size w w' from (hid_elim HB).grown hgr (by omega) (fun q hq=>by cases hq;exact Nat.le_refl _));clear hx hx2 hk hl hv hat hrg HB hgr hlt
  go_wp2_with (at_builtin;refine wpList_append_own _ rfl _ _ 40 rfl w.heap.size 9 i0 _ 1 16 underlying40 hi hz0 hz1 hz2 rfl (by decide) _ _ _ rfl (World.ownsRow_nil _ _ _ _) ⟨w'.heap.size,0,none⟩ 1 1 [.string ⟨#[106,111,117,114,110,97,108]⟩] rfl rfl (fun j u hu=>by
   match j,hu with
   | 0,hu =>
    have hu':Value.string ⟨#[106,111,117,114,110,97,108]⟩=u:=by simpa using hu
    rw [← hu',add_cell];exact(BoxN.new w' 9 #[.string ⟨#[106,111,117,114,110,97,108]⟩]).cell 0 rfl
   | k+1,hu=>simp at hu) (by simp [Value.oneCell']) (by decide) (by decide) (by simp;omega) ?_)
  obtain⟨cap,hcap⟩:∃ cap,(Question.appendCap 1 0 9).cut (w'.tape w'.drawn (Question.appendCap 1 0 9))=cap:=⟨_,rfl⟩
  rw [hcap];have bG:=BoxN.new (w'.alloc (.cells #[.string ⟨#[106,111,117,114,110,97,108]⟩] 9)) 9 (#[.string ⟨#[106,111,117,114,110,97,108]⟩] ++ Builtin.zeroCells #[.string ⟨#[]⟩] (cap-1));rw [World.size_alloc,hsz] at bG;have g0:=bG.cell 0 (v:=.string ⟨#[106,111,117,114,110,97,108]⟩) (by rw [Array.getElem?_append_left (by simp)];rfl);have hr3:=(hrg2.alloc (.cells #[.string ⟨#[106,111,117,114,110,97,108]⟩] 9)).alloc (.cells (#[.string ⟨#[106,111,117,114,110,97,108]⟩] ++ Builtin.zeroCells #[.string ⟨#[]⟩] (cap-1)) 9);have hB3:=(((hid_elim HB2).alloc (by omega) (.cells #[.string ⟨#[106,111,117,114,110,97,108]⟩] 9)).alloc (by simp;omega) (.cells (#[.string ⟨#[106,111,117,114,110,97,108]⟩] ++ Builtin.zeroCells #[.string ⟨#[]⟩] (cap-1)) 9)).drew;have hr4:((w'.alloc (.cells #[.string ⟨#[106,111,117,114,110,97,108]⟩] 9)).alloc (.cells (#[.string ⟨#[106,111,117,114,110,97,108]⟩] ++ Builtin.zeroCells #[.string ⟨#[]⟩] (cap-1)) 9)).drew.ranges prog 9 valR mn w.heap.size n (fileD (some b)) (fun z=>Maps.has (fileD (some b)) z && !z.sameKey (Lit.string jName)) cnt':=hr3;have g1:((w'.alloc (.cells #[.string ⟨#[106,111,117,114,110,97,108]⟩] 9)).alloc (.cells (#[.string ⟨#[106,111,117,114,110,97,108]⟩] ++ Builtin.zeroCells #[.string ⟨#[]⟩] (cap-1)) 9)).drew.cell? ⟨w1.heap.size+1,0,none⟩=some (.string ⟨#[106,111,117,114,110,97,108]⟩):=g0;have g2:w1.heap.size+1<((w'.alloc (.cells #[.string ⟨#[106,111,117,114,110,97,108]⟩] 9)).alloc (.cells (#[.string ⟨#[106,111,117,114,110,97,108]⟩] ++ Builtin.zeroCells #[.string ⟨#[]⟩] (cap-1)) 9)).drew.heap.size:=bG.lt;generalize ((w'.alloc (.cells #[.string ⟨#[106,111,117,114,110,97,108]⟩] 9)).alloc (.cells (#[.string ⟨#[106,111,117,114,110,97,108]⟩] ++ Builtin.zeroCells #[.string ⟨#[]⟩] (cap-1)) 9)).drew=W3 at *;clear bG g0 hr3 hcap hrg2 HB2 hen;rw [rounds_succ]
  go_wp2_with (first
   | (at_next;refine wpList_next_ranges _ rfl _ rfl 9 (string_keyed underlying9) valR (fun v:Value=>v) (fun v:Value=>v) (fun v _ _=>⟨v,rfl⟩) (fun v _ _=>⟨v,rfl⟩) mn _ n _ _ _ rfl hr4 ?_ ?_)
   | go_in)
  ·intro _ _
   clear hr4
   go_wp2_with (go_at_call 312;refine(hS _ _ _).mono ?_;rintro e w2 ⟨rfl,rfl⟩)
   exact bodyPost_ret (v:=.tuple #[.slice (some ⟨w1.heap.size+1,0,none⟩) 1 cap,.nilIface]) (by simp [results,results306,go_sem]) rfl ⟨_,_,rfl,g1,g2,hB3⟩
  ·intro x c kl y yp w'' cnt'' _ h2 h3
   obtain rfl:=file_left h2;exact absurd h3 (by decide)
theorem Tryz.dRead_one (db md mn b:Nat) (c:List UInt8) (fd:Option (Nat × List UInt8)) (l f:Int) (w:World) (hD:DiskAt w db md mn fd (some (b,c)) (.slice none 0 0) l f) :
  Calls prog 307 #[.pointer (some ⟨db,0,none⟩),.string ⟨#[106,111,117,114,110,97,108]⟩] w fun e w'=>∃ g cap,e=.returned (.tuple #[.slice (some ⟨g,0,none⟩) c.length cap,.nilIface])∧BytesAt w' g c∧(w.heap.size≤g∧g<w'.heap.size)∧Below w.heap.size w w':=by
 obtain⟨cp,mk,hTB⟩:=toBytes c;have d1:=hD.box.cell 1 (v:=.map (some mn)) rfl;have d5:=hD.box.cell 5 (v:=.bool false) rfl;obtain⟨n,hn,hown⟩:=hD.nm;have hL:=lookF hown;unfold ptrV at hL;have s0:=(hD.sn (b,c) rfl).cell 0 (v:=.string ⟨c.toArray⟩) rfl;simp only at s0
 have hcv:=fun W=>(hTB W).1
 go_enter func307,ntmps307;go_wp2;refine bodyPost_ret (v:=.tuple #[.slice (some ⟨w.heap.size,0,none⟩) c.length (cp w),.nilIface]) (by simp [results,results307,go_sem]) rfl ?_;exact⟨w.heap.size,⟨cp w,rfl⟩,(hTB w).2.2.2,⟨Nat.le_refl _,(hTB w).2.2.1⟩,(hTB w).2.1⟩
theorem Tryz.numbersOn_one (db md mn b:Nat) (c:List UInt8) (fd:Option (Nat × List UInt8)) (l f:Int) (w:World) (hD:DiskAt w db md mn fd (some (b,c)) (.slice none 0 0) l f) (hE:Env w) (h6:6≤w.heap.size) :
  Calls prog 180 #[diskV db] w fun e w'=>∃ g cap,e=.returned (.tuple #[.slice (some ⟨g,0,none⟩) 1 cap,.nilIface])∧w'.cell? ⟨g,0,none⟩=some (.int .u64 0)∧g<w'.heap.size∧Below w.heap.size w w':=by
 have hm:=fun W=>method_names db W
 have hN:=dNames_one db md mn b c fd l f w hD
 have hS:=fun p cap W=>sortU64_one p cap W
 have hO:=fun W (hb:Below w.heap.size w W)=>numberOf_j W (hE.below hb h6)
 unfold diskV;go_enter func180,ntmps180
 go_wp2_with (go_at_call 306;refine hN.mono ?_;rintro e w1 ⟨g,cap,rfl,g0,g1,hb1⟩)
 refine wp_loop_rounds 2 ?_;rw [rounds_succ]
 go_wp2_with (go_at_call 210;refine(hO _ hb1).mono ?_;rintro e w2 ⟨rfl,hb2⟩)
 obtain⟨cap2,hcap⟩:∃ cap,(Question.appendCap 1 0 31).cut (w2.tape w2.drawn (Question.appendCap 1 0 31))=cap:=⟨_,rfl⟩
 rw [hcap];have hB2:=hb1.trans (hb2.mono hb1.size);have bG:=BoxN.new (w2.alloc (.cells #[.int .u64 0] 31)) 31 (#[.int .u64 0] ++ Builtin.zeroCells #[.int .u64 0] (cap2-1));rw [World.size_alloc] at bG;have q0:=bG.cell 0 (v:=.int .u64 0) (by rw [Array.getElem?_append_left (by simp)];rfl);have hB3:=((hB2.alloc hB2.size (.cells #[.int .u64 0] 31)).alloc (by have:=hB2.size;simp;omega) (.cells (#[.int .u64 0] ++ Builtin.zeroCells #[.int .u64 0] (cap2-1)) 31)).drew;have q1:((w2.alloc (.cells #[.int .u64 0] 31)).alloc (.cells (#[.int .u64 0] ++ Builtin.zeroCells #[.int .u64 0] (cap2-1)) 31)).drew.cell? ⟨w2.heap.size+1,0,none⟩=some (.int .u64 0):=q0;have q2:w2.heap.size+1<((w2.alloc (.cells #[.int .u64 0] 31)).alloc (.cells (#[.int .u64 0] ++ Builtin.zeroCells #[.int .u64 0] (cap2-1)) 31)).drew.heap.size:=bG.lt;generalize ((w2.alloc (.cells #[.int .u64 0] 31)).alloc (.cells (#[.int .u64 0] ++ Builtin.zeroCells #[.int .u64 0] (cap2-1)) 31)).drew=W3 at *;clear bG q0 hcap;rw [rounds_succ]
 go_wp2_with (go_at_call 211;refine(hS _ _ _).mono ?_;rintro e w4 ⟨rfl,rfl⟩)
 go_ret2
 exact⟨_,_,rfl,q1,q2,hB3⟩
def begB (c:List UInt8):Bool:=wholeB (Lib.cut (Lib.cut c [10]).2.1 [10]).1
theorem Tryz.beginsWhole (c:List UInt8) (hc:c.length<4294967281) (ha:∀ b∈c,b.toNat<128) (w:World) (hE:Env w) (h9:9≤w.heap.size) (hG:ErrT w) :
  Calls prog 182 #[.string ⟨c.toArray⟩] w fun e w'=>e=.returned (.bool (begB c))∧Below w.heap.size w w':=by
 obtain⟨-,a1,l0,l1⟩:=cut_sub c [10];obtain⟨a2,-,l2,l3⟩:=cut_sub (Lib.cut c [10]).2.1 [10]
 have hC1:=fun W (hb:Below w.heap.size w W)=>cut c [10] W hc (hG.below (hb.mono h9))
 have hC2:=fun W (hb:Below w.heap.size w W)=>cut (Lib.cut c [10]).2.1 [10] W (by omega) (hG.below (hb.mono h9))
 have hT:=fun W (hb:Below w.heap.size w W)=>textOf (Lib.cut (Lib.cut c [10]).2.1 [10]).1 W (by omega) (fun b hb=>ha b (a1 b (a2 b hb))) (hE.below hb (by omega)) (Nat.le_trans h9 hb.size) (hG.below (hb.mono h9))
 change ∀ W,_→Calls _ _ _ _ (fun e w'=>e=.returned (.tuple #[.string ⟨(txtL (Lib.cut (Lib.cut c [10]).2.1 [10]).1).toArray⟩,.bool (begB c)])∧_) at hT
 generalize begB c=bg at *;generalize txtL (Lib.cut (Lib.cut c [10]).2.1 [10]).1=tx at *;generalize Lib.cut c [10]=x1 at *;obtain⟨n1,r1,f1⟩:=x1;simp only at *;generalize Lib.cut r1 [10]=x2 at *;obtain⟨n2,r2,f2⟩:=x2;simp only at *;clear a1 a2 l0 l1 l2 l3 ha hc;go_enter func182,ntmps182
 go_wp2_with (first
  | (go_at_call_of 213 (Value.string ⟨c.toArray⟩);refine(hC1 _ (Below.refl _ _)).mono ?_;rintro e w1 ⟨rfl,hb1⟩)
  | (go_at_call_of 213 (Value.string ⟨r1.toArray⟩);refine(hC2 _ hb1).mono ?_;rintro e w2 ⟨rfl,hb2⟩;have hB2:=hb1.trans (hb2.mono hb1.size))
  | (go_at_call 185;refine(hT _ hB2).mono ?_;rintro e w3 ⟨rfl,hb3⟩;have hB3:=hB2.trans (hb3.mono hB2.size)))
 go_ret;exact⟨rfl,hB3⟩
theorem begB_text {ls:List LineD} {s:VSt} (h:OkL ls s) (hne:ls ≠ []):begB (textL ls)=true:=by
 obtain⟨l,ls,rfl⟩:=List.exists_cons_of_ne_nil hne
 have hb:=fun r hr=>h.back l (by simp) r hr
 have hno:(10:UInt8)∉bodyL (recTxt l.recs):=by
  have h1:=txt_no (fun r hr=>(hb r hr).p);unfold bodyL;intro hm
  rcases List.mem_append.1 hm with hm | hm
  ·exact dec_no (by decide) _ hm
  ·rcases List.mem_cons.1 hm with hm | hm
   ·cases hm
   ·rcases List.mem_append.1 hm with hm | hm
    ·exact dec_no (by decide) _ hm
    ·rcases List.mem_cons.1 hm with hm | hm
     ·cases hm
     ·exact h1 hm
 have hl:(recTxt l.recs).length<18446744073709551616:=by
  have h2:=recText_len l.recs (fun r hr=>(hb r hr).ok);have h3:=h.1.2.2.2
  have h4:l.recs.length=l.is.length+1:=by simp [LineD.recs]
  omega
 have e1:textL (l :: ls) = [] ++ 10 :: (bodyL (recTxt l.recs)++textL ls):=by
  unfold textL recLine;rw [List.flatMap_cons,lineL_body];simp
 unfold begB;rw [e1,cut_at (by simp)];simp only
 have e2:(Lib.cut (bodyL (recTxt l.recs)++textL ls) [10]).1=bodyL (recTxt l.recs):=by
  cases ls with
  | nil =>
   unfold Lib.cut;rw [show bodyL (recTxt l.recs)++textL []=bodyL (recTxt l.recs) by simp [textL],index_free hno,if_neg (by decide)]
  | cons l2 ls =>
   have e3:textL (l2 :: ls)=10 :: (bodyL (recTxt l2.recs)++textL ls):=by
    unfold textL recLine;rw [List.flatMap_cons,lineL_body];simp
   rw [e3,cut_at hno]
 rw [e2];exact(body_whole _ hl).1
attribute [local go_sem] Oper.semAt_some
theorem Tryz.backward_one (g cap:Nat) (w:World):Calls prog 181 #[.slice (some ⟨g,0,none⟩) 1 cap] w fun e w'=>e=.returned (.func (.func 212) #[] #[.pointer (some ⟨w.heap.size,0,none⟩)])∧w'=w.alloc (.cells #[.slice (some ⟨g,0,none⟩) 1 cap] 272):=by
 go_enter func181,ntmps181;go_wp2;go_ret;exact⟨rfl,rfl⟩
theorem Tryz.backward1_one (n bx g cap:Nat) (hn:1≤n) (w:World) (hb:BoxN w bx 272 #[.slice (some ⟨g,0,none⟩) 1 cap]) (hg:w.cell? ⟨g,0,none⟩=some (.int .u64 0)) (hgl:g<w.heap.size) :
  SeqO (α:=Unit) n prog 212 #[.pointer (some ⟨bx,0,none⟩)] (fun _=>#[.int .i64 0,.int .u64 0]) (fun _=>True) (fun _ _=>True) (fun xs=>xs = [()]) (fun pre=>pre = [()]) 1 w:=by
 intro l J Jx W hbW _ _ _ hY h0;have c0:=(hb.below hbW hb.lt).cell 0 (v:=.slice (some ⟨g,0,none⟩) 1 cap) rfl;have g0:W.cell? ⟨g,0,none⟩=some (.int .u64 0):=(hbW.cell (p:=⟨g,0,none⟩) hgl).trans hg;obtain⟨fn,tmps,assign,body,hy,hR⟩:=hY [] () W h0 (by simp);refine callsIn_of_wp func212 rfl trivial ?_ rfl;simp only [ntmps212,List.size_toArray,List.length_cons,List.length_nil,Nat.reduceAdd,Nat.reduceSub,Array.replicate_succ,Array.replicate_zero,List.push_toArray,List.append_toArray,List.nil_append,List.cons_append]
 gi_wp2
 gi_loopw [3] (fun i wr=>(i=.int .i64 0∧wr=W)∨(i=.int .i64 (-1)∧J [()] wr)) (fun i _=>(intOf i+1).toNat)
 case atStart=>exact .inl ⟨rfl,rfl⟩
 case round =>
  rcases hrel with⟨rfl,rfl⟩ | ⟨rfl,hJ1⟩
  ·gi_wp2
   refine hR.mono ?_;rintro e W3 (⟨rfl,hJ4,-,-⟩ | ⟨rfl,hJx3,-⟩)
   ·gi_wp2
    go_roundw
    case rel=>exact .inr ⟨rfl,hJ4⟩
    case measure=>simp [intOf]
   ·gi_wp2
    refine bodyPost_ret (results_none rfl _ _ _) rfl ?_;exact⟨⟨_,rfl⟩,.inr ⟨[()],rfl,hJx3⟩⟩
  ·gi_wp2
   go_end0
   exact⟨⟨_,rfl⟩,.inl ⟨[()],rfl,hJ1⟩⟩
theorem keepsFrom_set {B b i:Nat} {V W:World} {v:Value} (h:KeepsFrom B V W) (hb:b<B):KeepsFrom B V (W.setCell ⟨b,i,none⟩ v):=
 h.trans (KeepsFrom.of_grownBy (row:=some b) ⟨rfl,rfl,rfl,by simp,fun k _ hne=>set_other _ _ _ _ _ (fun e=>hne (by rw [e]))⟩ (fun k e=>by cases e;exact hb))
theorem BytesAt.below {B g:Nat} {W W':World} {c:List UInt8} (h:BytesAt W g c) (hb:Below B W W') (hg:g<B):BytesAt W' g c:=fun j hj=>by
 have e:=cell_of_block (hb.block g hg) j;exact⟨e.1.trans (h j hj).1,e.2.trans (h j hj).2⟩
theorem Tryz.fromBytes {W:World} {g cap:Nat} {c:List UInt8} (h:BytesAt W g c):(convert 267 9 (.slice (some ⟨g,0,none⟩) c.length cap)).run prog W=.ok (.string ⟨c.toArray⟩) W:=
 run_convert_bytes_back W 267 9 5 ⟨g,0,none⟩ cap c underlying267 underlying5 underlying9 (fun j hj=>by
  rw [add_cell]
  exact(h j hj).1)
theorem below_setSame {B:Nat} {w W:World} {b i:Nat} {t:TypeId} {cs:Array Value} {v:Value} (h:Below B w W) (hb:BoxN W b t cs) (hv:cs[i]? = some v):Below B w (W.setCell ⟨b,i,none⟩ v):=by
 have e:cs.setIfInBounds i v=cs:=by
  apply Array.ext
  ·simp
  ·intro j h1 h2
   rw [Array.getElem_setIfInBounds (by simpa using h2)]
   split
   ·rename_i hij
    subst hij;obtain⟨h3,h4⟩:=Array.getElem?_eq_some_iff.1 hv;exact h4.symm
   ·rfl
 have h1:BoxN (W.setCell ⟨b,i,none⟩ v) b t cs:=by
  have:=hb.set i v
  rwa [e] at this
 exact⟨h.os,h.tape,h.output,by simpa using h.size,fun k hk=>by
  by_cases hkb:k=b
  ·subst hkb
   exact h1.trans (hb.symm.trans (h.block k hk))
  ·rw [set_other _ _ _ _ _ hkb]
   exact h.block k hk⟩
theorem Tryz.jFind_one (jb db md mn b:Nat) (c2:Value) (c:List UInt8) (fd:Option (Nat × List UInt8)) (l f:Int) (w:World) (hJ:BoxN w jb 212 #[diskV db,.int .u64 0,c2]) (hD:DiskAt w db md mn fd (some (b,c)) (.slice none 0 0) l f) (hc:c.length<4294967281) (ha:∀ b∈c,b.toNat<128) (hbg:begB c=true) (hE:Env w) (h9:9≤w.heap.size) (hG:ErrT w) :
  CallsIn Fence.wide 9 prog 146 #[.pointer (some ⟨jb,0,none⟩)] w fun e w'=>e=.returned (.tuple #[.string ⟨c.toArray⟩,.nilIface])∧Below w.heap.size w w':=by
 have j0:=hJ.cell 0 (v:=diskV db) rfl;unfold diskV at j0;have lJ:=hJ.lt
 have hm:=fun W=>method_read db W
 have hB0:Below w.heap.size w (((w.alloc (.cells #[.pointer (some ⟨jb,0,none⟩)] 117)).alloc (.cells #[.string ⟨#[]⟩] 9)).alloc (.cells #[.nilIface] 81)):=(((Below.refl _ w).alloc (Nat.le_refl _) _).alloc (by simp) _).alloc (by simp;omega) _;have bP:=((BoxN.new w 117 #[.pointer (some ⟨jb,0,none⟩)]).alloc (.cells #[.string ⟨#[]⟩] 9)).alloc (.cells #[.nilIface] 81);have bS:=(BoxN.new (w.alloc (.cells #[.pointer (some ⟨jb,0,none⟩)] 117)) 9 #[.string ⟨#[]⟩]).alloc (.cells #[.nilIface] 81);have bE:=BoxN.new ((w.alloc (.cells #[.pointer (some ⟨jb,0,none⟩)] 117)).alloc (.cells #[.string ⟨#[]⟩] 9)) 81 #[.nilIface];simp only [World.size_alloc] at bS bE;have hN:=numbersOn_one db md mn b c fd l f _ (hD.below hB0) (hE.below hB0 (Nat.le_trans (by decide) h9)) (Nat.le_trans (Nat.le_trans (by decide) h9) hB0.size);unfold diskV at hN;have j0w:=cell_later hB0 j0;have hf1:Fence.wide.fn 180:=trivial;have hf2:Fence.wide.fn 181:=trivial;have hf3:Fence.wide.fn 182:=trivial;have hf4:Fence.wide.fn 175:=trivial;have hf5:Fence.wide.fn 307:=trivial;refine callsIn_of_wp_marks func146 rfl trivial ?_ rfl;simp only [ntmps146,List.size_toArray,List.length_cons,List.length_nil,Nat.reduceAdd,Nat.reduceSub,Array.replicate_succ,Array.replicate_zero,List.push_toArray,List.append_toArray,List.nil_append,List.cons_append]
 gi_wp2_with (first
  | (gi_at_call 180;refine(callsIn_wide.2 hN).mono ?_;rintro e w1 ⟨g,cap,rfl,g0,gl,hb1⟩)
  | (gi_at_call 181;refine(callsIn_wide.2 (backward_one _ _ _)).mono ?_;rintro e w2 ⟨rfl,rfl⟩))
 have hB1:=hB0.trans (hb1.mono (by simp;omega));have bP1:=(bP.below hb1 (by simp;omega)).alloc (.cells #[.slice (some ⟨g,0,none⟩) 1 cap] 272);have bS1:=(bS.below hb1 (by simp)).alloc (.cells #[.slice (some ⟨g,0,none⟩) 1 cap] 272);have bE1:=(bE.below hb1 (by simp)).alloc (.cells #[.slice (some ⟨g,0,none⟩) 1 cap] 272);have bX1:=BoxN.new w1 272 #[.slice (some ⟨g,0,none⟩) 1 cap];have hB2:=hB1.alloc hB1.size (.cells #[.slice (some ⟨g,0,none⟩) 1 cap] 272)
 have hsz:(w1.alloc (.cells #[.slice (some ⟨g,0,none⟩) 1 cap] 272)).heap.size=w1.heap.size+1:=by simp
 have g0':(w1.alloc (.cells #[.slice (some ⟨g,0,none⟩) 1 cap] 272)).cell? ⟨g,0,none⟩=some (.int .u64 0):=cell_later ((Below.refl _ w1).alloc (Nat.le_refl _) _) g0;have hz1:=hB1.size
 obtain⟨W2,hW2⟩:∃ W2,w1.alloc (.cells #[.slice (some ⟨g,0,none⟩) 1 cap] 272)=W2:=⟨_,rfl⟩
 rw [hW2] at bP1 bS1 bE1 bX1 hB2 hsz g0' ⊢;clear hW2 bP bS bE hN j0w
 have hown:∀ sv:Value,OwnFrom W2.heap.size (fun(_:List Unit) V=>((BoxN V w.heap.size 117 #[.pointer (some ⟨jb,0,none⟩)]∧BoxN V (w.heap.size+1) 9 #[sv])∧BoxN V (w.heap.size+1+1) 81 #[.nilIface])∧Below w.heap.size w V):=fun sv =>
  OwnFrom.and (OwnFrom.and (OwnFrom.and (Own.from (boxN_own _ _ (fun _=>#[.pointer (some ⟨jb,0,none⟩)])) _) (Own.from (boxN_own _ _ (fun _=>#[sv])) _)) (Own.from (boxN_own _ _ (fun _=>#[.nilIface])) _)) (ownFrom_below (Nat.le_refl _) (by omega))
 refine wpIn_rangeO (n:=9) (by omega) (gf:=212) (lb:=#[.pointer (some ⟨w1.heap.size,0,none⟩)]) rfl (enters_of func212 (by kernel_rfl) rfl) (backward1_one 8 w1.heap.size g cap (by decide) W2 bX1 g0' (by omega)) (fun _ _=>trivial) (fun _ _ _ _ _ _ _ _=>trivial) (Below.refl _ _) (fun _=>rfl)
  (fun pre V=>pre = []∧((BoxN V w.heap.size 117 #[.pointer (some ⟨jb,0,none⟩)]∧BoxN V (w.heap.size+1) 9 #[.string ⟨#[]⟩])∧BoxN V (w.heap.size+1+1) 81 #[.nilIface])∧Below w.heap.size w V)
  (fun cd pre V=>cd=Code.ret∧((BoxN V w.heap.size 117 #[.pointer (some ⟨jb,0,none⟩)]∧BoxN V (w.heap.size+1) 9 #[.string ⟨c.toArray⟩])∧BoxN V (w.heap.size+1+1) 81 #[.nilIface])∧Below w.heap.size w V)
  ?ownI ?ownX
  (fun _ _ _=>trivial)
  ⟨rfl,⟨⟨bP1,bS1⟩,bE1⟩,hB2⟩
  (fun _ a' V=>a' = { tmps:=#[.pointer (some ⟨jb,0,none⟩),.pointer (some ⟨w.heap.size,0,none⟩),.pointer (some ⟨w.heap.size+1,0,none⟩),.pointer (some ⟨w.heap.size+1+1,0,none⟩),.slice (some ⟨g,0,none⟩) 1 cap,.nilIface,undef,.int .u64 0,undef,undef,.tuple #[.slice (some ⟨g,0,none⟩) 1 cap,.nilIface],.pointer (some ⟨jb,0,none⟩),.pointer (some ⟨jb,0,none⟩),.pointer (some ⟨jb,0,none⟩),.iface 74 (.pointer (some ⟨db,0,none⟩)),.tuple #[.slice (some ⟨g,0,none⟩) 1 cap,.nilIface],.slice (some ⟨g,0,none⟩) 1 cap,.nilIface,.nilIface,.bool false,undef,.slice (some ⟨g,0,none⟩) 1 cap,.func (.func 212) #[] #[.pointer (some ⟨w1.heap.size,0,none⟩)],.int .i64 0,.int .u64 0,undef,undef,undef,undef,undef,undef,undef,undef,undef,undef,undef,undef,undef,undef,undef,undef,undef,undef,undef,undef,undef,undef,undef,undef,undef,undef,undef,undef],defers:=[] }) ?ownA
  ?assign ?body ?done ?stop
 case ownI=>exact fun s A B row hs hg hr=>⟨hs.1,hown (.string ⟨#[]⟩) s A B row hs.2 hg hr⟩
 case ownX=>exact fun cd s A B row hs hg hr=>⟨hs.1,hown (.string ⟨c.toArray⟩) s A B row hs.2 hg hr⟩
 case assign =>
  rintro ll pre x V K ⟨rfl,⟨⟨bPV,bSV⟩,bEV⟩,hBV⟩ hK
  gi_wp2
  exact hK _ _ (KeepsFrom.refl _ _) trivial ⟨by simp,⟨⟨bPV,bSV⟩,bEV⟩,hBV⟩ rfl
 case ownA=>exact fun _ _ _ _ _ _ hs _ _=>hs
 case body =>
  rintro ll pre x _ V hl ⟨rfl,⟨⟨bPV,bSV⟩,bEV⟩,hBV⟩ rfl hlt;have p0:=bPV.cell 0 (v:=.pointer (some ⟨jb,0,none⟩)) rfl;have p0d:V.drew.cell? ⟨w.heap.size,0,none⟩=some (.pointer (some ⟨jb,0,none⟩)):=p0;have jV:=cell_later hBV j0;have jVd:V.drew.cell? ⟨jb,0,none⟩=some (.iface 74 (.pointer (some ⟨db,0,none⟩))):=jV;have hRd:=dRead_one db md mn b c fd l f V.drew (hD.below hBV.drew)
  gi_wp2_with fail
  refine wpIn_region_any (by kernel_rfl) (wpAnyIn_inRound ll (by kernel_rfl) _ _ _ _ ?_)
  change wpAnyIn _ _ _ _ _ _ _ _ _ (World.drew _)
  refine wpAnyIn_take (i:=4) (v:=.int .u64 0) rfl rfl (by kernel_rfl) (by kernel_rfl) (by kernel_rfl) (fun _ _ _ h=>h) ⟨Or.inl ⟨by rfl,?_⟩,fun _=>rfl⟩ ?_
  ·intro w;go_simp
  refine wpAnyIn_ready (rs:=[0,5]) (by kernel_rfl) (by simp) ?_;refine AllReadyIn.cons rfl (fun K hK=>?_) (AllReadyIn.cons rfl (fun K hK=>?_) (AllReadyIn.nil))
  ·go_simp
   refine hK _ _ ?_;clear hK K;refine wpAnyIn_take (i:=1) (v:=.pointer (some ⟨jb,0,none⟩)) rfl rfl (by kernel_rfl) (by kernel_rfl) (by kernel_rfl) (fun _ _ _ h=>h) ⟨Or.inl ⟨by rfl,?_⟩,fun _=>rfl⟩ ?_
   ·intro w;go_simp
   refine wpAnyIn_take (i:=2) (v:=.pointer (some ⟨jb,0,none⟩)) rfl rfl (by kernel_rfl) (by kernel_rfl) (by kernel_rfl) (fun _ _ _ h=>h) ⟨Or.inl ⟨by rfl,?_⟩,fun _=>rfl⟩ ?_
   ·intro w;go_simp
   refine wpAnyIn_ready (rs:=[3,5]) (by kernel_rfl) (by simp) ?_;refine AllReadyIn.cons rfl (fun K hK=>?_) (AllReadyIn.cons rfl (fun K hK=>?_) (AllReadyIn.nil))
   ·go_simp
    refine hK _ _ ?_;clear hK K;refine wpAnyIn_take (i:=6) (v:=.iface 74 (.pointer (some ⟨db,0,none⟩))) rfl rfl (by kernel_rfl) (by kernel_rfl) (by kernel_rfl) (fun _ _ _ h=>h) ⟨Or.inl ⟨by rfl,?_⟩,fun _=>rfl⟩ ?_
    ·intro w;go_simp
    refine wpAnyIn_take (i:=7) (v:=.iface 74 (.pointer (some ⟨db,0,none⟩))) rfl rfl (by kernel_rfl) (by kernel_rfl) (by kernel_rfl) (fun _ _ _ h=>h) ⟨Or.inl ⟨by rfl,?_⟩,fun _=>rfl⟩ ?_
    ·intro w;go_simp
    refine wpAnyIn_ready (rs:=[5]) (by kernel_rfl) (by simp) ?_;refine AllReadyIn.cons rfl (fun K hK=>?_) (AllReadyIn.nil)
    ·go_simp
     refine(callsIn_wide.2 (fileOf0 _)).mono ?_;rintro e V2 ⟨rfl,rfl⟩;refine hK _ _ ?_;clear hK K;refine wpAnyIn_ready (rs:=[8]) (by kernel_rfl) (by simp) ?_;refine AllReadyIn.cons rfl (fun K hK=>?_) (AllReadyIn.nil)
     ·go_simp
      refine(callsIn_wide.2 hRd).mono ?_;rintro e V2 ⟨g,cap,rfl,hby,⟨hg1,hg2⟩,hb2⟩;refine hK _ _ ?_;clear hK K;refine wpAnyIn_take (i:=9) (v:=.tuple #[.slice (some ⟨g,0,none⟩) c.length cap,.nilIface]) rfl rfl (by kernel_rfl) (by kernel_rfl) (by kernel_rfl) (fun _ _ _ h=>h) ⟨Or.inl ⟨by rfl,?_⟩,fun _=>rfl⟩ ?_
      ·intro w;go_simp
      refine wpAnyIn_take (i:=10) (v:=.slice (some ⟨g,0,none⟩) c.length cap) rfl rfl (by kernel_rfl) (by kernel_rfl) (by kernel_rfl) (fun _ _ _ h=>h) ⟨Or.inl ⟨by rfl,?_⟩,fun _=>rfl⟩ ?_
      ·intro w;go_simp
      refine wpAnyIn_take (i:=11) (v:=.nilIface) rfl rfl (by kernel_rfl) (by kernel_rfl) (by kernel_rfl) (fun _ _ _ h=>h) ⟨Or.inl ⟨by rfl,?_⟩,fun _=>rfl⟩ ?_
      ·intro w;go_simp
      refine wpAnyIn_ready (rs:=[12]) (by kernel_rfl) (by simp) ?_;refine AllReadyIn.cons rfl (fun K hK=>?_) (AllReadyIn.nil)
      ·go_simp
       refine hK _ _ ?_;clear hK K;refine wpAnyIn_ready (rs:=[13]) (by kernel_rfl) (by simp) ?_;refine AllReadyIn.cons rfl (fun K hK=>?_) (AllReadyIn.nil)
       ·go_simp
        refine hK _ _ ?_;clear hK K;refine wpAnyIn_done (by kernel_rfl) ?_ _;have hB2d:Below w.heap.size w V2:=hBV.drew.trans (hb2.mono hBV.size);have hbV2:Below V.heap.size V V2:=(Below.refl _ V).drew.trans hb2;have hcv2:=fromBytes (cap:=cap) hby;have hBW:=beginsWhole c hc ha V2 (hE.below hB2d (Nat.le_trans (by decide) h9)) (Nat.le_trans h9 hB2d.size) (hG.below (hB2d.mono h9));rw [hbg] at hBW;clear hRd hm
        gi_wp2_with fail
        refine(CallsIn.inRound ll (callsIn_wide.2 hBW)).mono ?_;rintro e V3 ⟨rfl,hb3⟩;have hbV3:=hbV2.trans (hb3.mono hbV2.size);have hB3:=hBV.trans (hbV3.mono hBV.size);have bP3:=bPV.below hbV3 bPV.lt;have bS3:=bSV.below hbV3 bSV.lt;have bE3:=bEV.below hbV3 bEV.lt;have bJ3:=hJ.below hB3 hJ.lt;have hby3:=hby.below hb3 hg2;have p3:=bP3.cell 0 (v:=.pointer (some ⟨jb,0,none⟩)) rfl;have j3:=bJ3.cell 1 (v:=.int .u64 0) rfl;have j3f:=bJ3.frozen 1;have hB4:=below_setSame hB3 (i:=1) (v:=.int .u64 0) bJ3 rfl;have hbJ4:=below_setSame (Below.refl V3.heap.size V3) (i:=1) (v:=.int .u64 0) bJ3 rfl;have hcv4:=fromBytes (cap:=cap) (hby3.below hbJ4 (Nat.lt_of_lt_of_le hg2 hb3.size));have s3:=(bS3.below hbJ4 bS3.lt).cell 0 (v:=.string ⟨#[]⟩) rfl;have s3f:=(bS3.below hbJ4 bS3.lt).frozen 0;have e3:=(bE3.below hbJ4 bE3.lt).cell 0 (v:=.nilIface) rfl;have e3f:=(bE3.below hbJ4 bE3.lt).frozen 0
        gi_wp2
        have bP5:=((bP3.below hbJ4 bP3.lt).other (B':=w.heap.size+1) (by omega) 0 (.string ⟨c.toArray⟩)).other (B':=w.heap.size+1+1) (by omega) 0 .nilIface;have bS5:=((bS3.below hbJ4 bS3.lt).set 0 (.string ⟨c.toArray⟩)).other (B':=w.heap.size+1+1) (by omega) 0 .nilIface;have bE5:=((bE3.below hbJ4 bE3.lt).other (B':=w.heap.size+1) (by omega) 0 (.string ⟨c.toArray⟩)).set 0 .nilIface;have hB5:=(hB4.setCell (p:=⟨w.heap.size+1,0,none⟩) (by simp) (.string ⟨c.toArray⟩)).setCell (p:=⟨w.heap.size+1+1,0,none⟩) (by simp;omega) .nilIface;have hlE:=bE1.lt;exact⟨keepsFrom_set (keepsFrom_set (keepsFrom_set (keepsFrom_below _ hbV3) (by omega)) (by omega)) (by omega),rfl,⟨⟨bP5,bS5⟩,bE5⟩,hB5⟩
   ·go_simp
    refine(callsIn_wide.2 (fileOf0 _)).mono ?_;rintro e V2 ⟨rfl,rfl⟩;refine hK _ _ ?_;clear hK K;refine wpAnyIn_ready (rs:=[3]) (by kernel_rfl) (by simp) ?_;refine AllReadyIn.cons rfl (fun K hK=>?_) (AllReadyIn.nil)
    ·go_simp
     refine hK _ _ ?_;clear hK K;refine wpAnyIn_take (i:=6) (v:=.iface 74 (.pointer (some ⟨db,0,none⟩))) rfl rfl (by kernel_rfl) (by kernel_rfl) (by kernel_rfl) (fun _ _ _ h=>h) ⟨Or.inl ⟨by rfl,?_⟩,fun _=>rfl⟩ ?_
     ·intro w;go_simp
     refine wpAnyIn_take (i:=7) (v:=.iface 74 (.pointer (some ⟨db,0,none⟩))) rfl rfl (by kernel_rfl) (by kernel_rfl) (by kernel_rfl) (fun _ _ _ h=>h) ⟨Or.inl ⟨by rfl,?_⟩,fun _=>rfl⟩ ?_
     ·intro w;go_simp
     refine wpAnyIn_ready (rs:=[8]) (by kernel_rfl) (by simp) ?_;refine AllReadyIn.cons rfl (fun K hK=>?_) (AllReadyIn.nil)
     ·go_simp
      refine(callsIn_wide.2 hRd).mono ?_;rintro e V2 ⟨g,cap,rfl,hby,⟨hg1,hg2⟩,hb2⟩;refine hK _ _ ?_;clear hK K;refine wpAnyIn_take (i:=9) (v:=.tuple #[.slice (some ⟨g,0,none⟩) c.length cap,.nilIface]) rfl rfl (by kernel_rfl) (by kernel_rfl) (by kernel_rfl) (fun _ _ _ h=>h) ⟨Or.inl ⟨by rfl,?_⟩,fun _=>rfl⟩ ?_
      ·intro w;go_simp
      refine wpAnyIn_take (i:=10) (v:=.slice (some ⟨g,0,none⟩) c.length cap) rfl rfl (by kernel_rfl) (by kernel_rfl) (by kernel_rfl) (fun _ _ _ h=>h) ⟨Or.inl ⟨by rfl,?_⟩,fun _=>rfl⟩ ?_
      ·intro w;go_simp
      refine wpAnyIn_take (i:=11) (v:=.nilIface) rfl rfl (by kernel_rfl) (by kernel_rfl) (by kernel_rfl) (fun _ _ _ h=>h) ⟨Or.inl ⟨by rfl,?_⟩,fun _=>rfl⟩ ?_
      ·intro w;go_simp
      refine wpAnyIn_ready (rs:=[12]) (by kernel_rfl) (by simp) ?_;refine AllReadyIn.cons rfl (fun K hK=>?_) (AllReadyIn.nil)
      ·go_simp
       refine hK _ _ ?_;clear hK K;refine wpAnyIn_ready (rs:=[13]) (by kernel_rfl) (by simp) ?_;refine AllReadyIn.cons rfl (fun K hK=>?_) (AllReadyIn.nil)
       ·go_simp
        refine hK _ _ ?_;clear hK K;refine wpAnyIn_done (by kernel_rfl) ?_ _;have hB2d:Below w.heap.size w V2:=hBV.drew.trans (hb2.mono hBV.size);have hbV2:Below V.heap.size V V2:=(Below.refl _ V).drew.trans hb2;have hcv2:=fromBytes (cap:=cap) hby;have hBW:=beginsWhole c hc ha V2 (hE.below hB2d (Nat.le_trans (by decide) h9)) (Nat.le_trans h9 hB2d.size) (hG.below (hB2d.mono h9));rw [hbg] at hBW;clear hRd hm
        gi_wp2_with fail
        refine(CallsIn.inRound ll (callsIn_wide.2 hBW)).mono ?_;rintro e V3 ⟨rfl,hb3⟩;have hbV3:=hbV2.trans (hb3.mono hbV2.size);have hB3:=hBV.trans (hbV3.mono hBV.size);have bP3:=bPV.below hbV3 bPV.lt;have bS3:=bSV.below hbV3 bSV.lt;have bE3:=bEV.below hbV3 bEV.lt;have bJ3:=hJ.below hB3 hJ.lt;have hby3:=hby.below hb3 hg2;have p3:=bP3.cell 0 (v:=.pointer (some ⟨jb,0,none⟩)) rfl;have j3:=bJ3.cell 1 (v:=.int .u64 0) rfl;have j3f:=bJ3.frozen 1;have hB4:=below_setSame hB3 (i:=1) (v:=.int .u64 0) bJ3 rfl;have hbJ4:=below_setSame (Below.refl V3.heap.size V3) (i:=1) (v:=.int .u64 0) bJ3 rfl;have hcv4:=fromBytes (cap:=cap) (hby3.below hbJ4 (Nat.lt_of_lt_of_le hg2 hb3.size));have s3:=(bS3.below hbJ4 bS3.lt).cell 0 (v:=.string ⟨#[]⟩) rfl;have s3f:=(bS3.below hbJ4 bS3.lt).frozen 0;have e3:=(bE3.below hbJ4 bE3.lt).cell 0 (v:=.nilIface) rfl;have e3f:=(bE3.below hbJ4 bE3.lt).frozen 0
        gi_wp2
        have bP5:=((bP3.below hbJ4 bP3.lt).other (B':=w.heap.size+1) (by omega) 0 (.string ⟨c.toArray⟩)).other (B':=w.heap.size+1+1) (by omega) 0 .nilIface;have bS5:=((bS3.below hbJ4 bS3.lt).set 0 (.string ⟨c.toArray⟩)).other (B':=w.heap.size+1+1) (by omega) 0 .nilIface;have bE5:=((bE3.below hbJ4 bE3.lt).other (B':=w.heap.size+1) (by omega) 0 (.string ⟨c.toArray⟩)).set 0 .nilIface;have hB5:=(hB4.setCell (p:=⟨w.heap.size+1,0,none⟩) (by simp) (.string ⟨c.toArray⟩)).setCell (p:=⟨w.heap.size+1+1,0,none⟩) (by simp;omega) .nilIface;have hlE:=bE1.lt;exact⟨keepsFrom_set (keepsFrom_set (keepsFrom_set (keepsFrom_below _ hbV3) (by omega)) (by omega)) (by omega),rfl,⟨⟨bP5,bS5⟩,bE5⟩,hB5⟩
  ·go_simp
   refine(callsIn_wide.2 (fileOf0 _)).mono ?_;rintro e V2 ⟨rfl,rfl⟩;refine hK _ _ ?_;clear hK K;refine wpAnyIn_ready (rs:=[0]) (by kernel_rfl) (by simp) ?_;refine AllReadyIn.cons rfl (fun K hK=>?_) (AllReadyIn.nil)
   ·go_simp
    refine hK _ _ ?_;clear hK K;refine wpAnyIn_take (i:=1) (v:=.pointer (some ⟨jb,0,none⟩)) rfl rfl (by kernel_rfl) (by kernel_rfl) (by kernel_rfl) (fun _ _ _ h=>h) ⟨Or.inl ⟨by rfl,?_⟩,fun _=>rfl⟩ ?_
    ·intro w;go_simp
    refine wpAnyIn_take (i:=2) (v:=.pointer (some ⟨jb,0,none⟩)) rfl rfl (by kernel_rfl) (by kernel_rfl) (by kernel_rfl) (fun _ _ _ h=>h) ⟨Or.inl ⟨by rfl,?_⟩,fun _=>rfl⟩ ?_
    ·intro w;go_simp
    refine wpAnyIn_ready (rs:=[3]) (by kernel_rfl) (by simp) ?_;refine AllReadyIn.cons rfl (fun K hK=>?_) (AllReadyIn.nil)
    ·go_simp
     refine hK _ _ ?_;clear hK K;refine wpAnyIn_take (i:=6) (v:=.iface 74 (.pointer (some ⟨db,0,none⟩))) rfl rfl (by kernel_rfl) (by kernel_rfl) (by kernel_rfl) (fun _ _ _ h=>h) ⟨Or.inl ⟨by rfl,?_⟩,fun _=>rfl⟩ ?_
     ·intro w;go_simp
     refine wpAnyIn_take (i:=7) (v:=.iface 74 (.pointer (some ⟨db,0,none⟩))) rfl rfl (by kernel_rfl) (by kernel_rfl) (by kernel_rfl) (fun _ _ _ h=>h) ⟨Or.inl ⟨by rfl,?_⟩,fun _=>rfl⟩ ?_
     ·intro w;go_simp
     refine wpAnyIn_ready (rs:=[8]) (by kernel_rfl) (by simp) ?_;refine AllReadyIn.cons rfl (fun K hK=>?_) (AllReadyIn.nil)
     ·go_simp
      refine(callsIn_wide.2 hRd).mono ?_;rintro e V2 ⟨g,cap,rfl,hby,⟨hg1,hg2⟩,hb2⟩;refine hK _ _ ?_;clear hK K;refine wpAnyIn_take (i:=9) (v:=.tuple #[.slice (some ⟨g,0,none⟩) c.length cap,.nilIface]) rfl rfl (by kernel_rfl) (by kernel_rfl) (by kernel_rfl) (fun _ _ _ h=>h) ⟨Or.inl ⟨by rfl,?_⟩,fun _=>rfl⟩ ?_
      ·intro w;go_simp
      refine wpAnyIn_take (i:=10) (v:=.slice (some ⟨g,0,none⟩) c.length cap) rfl rfl (by kernel_rfl) (by kernel_rfl) (by kernel_rfl) (fun _ _ _ h=>h) ⟨Or.inl ⟨by rfl,?_⟩,fun _=>rfl⟩ ?_
      ·intro w;go_simp
      refine wpAnyIn_take (i:=11) (v:=.nilIface) rfl rfl (by kernel_rfl) (by kernel_rfl) (by kernel_rfl) (fun _ _ _ h=>h) ⟨Or.inl ⟨by rfl,?_⟩,fun _=>rfl⟩ ?_
      ·intro w;go_simp
      refine wpAnyIn_ready (rs:=[12]) (by kernel_rfl) (by simp) ?_;refine AllReadyIn.cons rfl (fun K hK=>?_) (AllReadyIn.nil)
      ·go_simp
       refine hK _ _ ?_;clear hK K;refine wpAnyIn_ready (rs:=[13]) (by kernel_rfl) (by simp) ?_;refine AllReadyIn.cons rfl (fun K hK=>?_) (AllReadyIn.nil)
       ·go_simp
        refine hK _ _ ?_;clear hK K;refine wpAnyIn_done (by kernel_rfl) ?_ _;have hB2d:Below w.heap.size w V2:=hBV.drew.trans (hb2.mono hBV.size);have hbV2:Below V.heap.size V V2:=(Below.refl _ V).drew.trans hb2;have hcv2:=fromBytes (cap:=cap) hby;have hBW:=beginsWhole c hc ha V2 (hE.below hB2d (Nat.le_trans (by decide) h9)) (Nat.le_trans h9 hB2d.size) (hG.below (hB2d.mono h9));rw [hbg] at hBW;clear hRd hm
        gi_wp2_with fail
        refine(CallsIn.inRound ll (callsIn_wide.2 hBW)).mono ?_;rintro e V3 ⟨rfl,hb3⟩;have hbV3:=hbV2.trans (hb3.mono hbV2.size);have hB3:=hBV.trans (hbV3.mono hBV.size);have bP3:=bPV.below hbV3 bPV.lt;have bS3:=bSV.below hbV3 bSV.lt;have bE3:=bEV.below hbV3 bEV.lt;have bJ3:=hJ.below hB3 hJ.lt;have hby3:=hby.below hb3 hg2;have p3:=bP3.cell 0 (v:=.pointer (some ⟨jb,0,none⟩)) rfl;have j3:=bJ3.cell 1 (v:=.int .u64 0) rfl;have j3f:=bJ3.frozen 1;have hB4:=below_setSame hB3 (i:=1) (v:=.int .u64 0) bJ3 rfl;have hbJ4:=below_setSame (Below.refl V3.heap.size V3) (i:=1) (v:=.int .u64 0) bJ3 rfl;have hcv4:=fromBytes (cap:=cap) (hby3.below hbJ4 (Nat.lt_of_lt_of_le hg2 hb3.size));have s3:=(bS3.below hbJ4 bS3.lt).cell 0 (v:=.string ⟨#[]⟩) rfl;have s3f:=(bS3.below hbJ4 bS3.lt).frozen 0;have e3:=(bE3.below hbJ4 bE3.lt).cell 0 (v:=.nilIface) rfl;have e3f:=(bE3.below hbJ4 bE3.lt).frozen 0
        gi_wp2
        have bP5:=((bP3.below hbJ4 bP3.lt).other (B':=w.heap.size+1) (by omega) 0 (.string ⟨c.toArray⟩)).other (B':=w.heap.size+1+1) (by omega) 0 .nilIface;have bS5:=((bS3.below hbJ4 bS3.lt).set 0 (.string ⟨c.toArray⟩)).other (B':=w.heap.size+1+1) (by omega) 0 .nilIface;have bE5:=((bE3.below hbJ4 bE3.lt).other (B':=w.heap.size+1) (by omega) 0 (.string ⟨c.toArray⟩)).set 0 .nilIface;have hB5:=(hB4.setCell (p:=⟨w.heap.size+1,0,none⟩) (by simp) (.string ⟨c.toArray⟩)).setCell (p:=⟨w.heap.size+1+1,0,none⟩) (by simp;omega) .nilIface;have hlE:=bE1.lt;exact⟨keepsFrom_set (keepsFrom_set (keepsFrom_set (keepsFrom_below _ hbV3) (by omega)) (by omega)) (by omega),rfl,⟨⟨bP5,bS5⟩,bE5⟩,hB5⟩
 case done =>
  rintro D zs V hD0 rfl ⟨h,-⟩ _;exact absurd h (by simp)
 case stop =>
  rintro D cd pre V hD0 _ ⟨rfl,⟨⟨bPV,bSV⟩,bEV⟩,hBV⟩ hK;have s0:=bSV.cell 0 (v:=.string ⟨c.toArray⟩) rfl;have e0:=bEV.cell 0 (v:=.nilIface) rfl
  gi_wp2
  refine⟨by simp,.inl ⟨_,_,rfl,run_takeDeferred hK,?_⟩⟩;have bS6:BoxN (V.putObj D (.deferred none)) (w.heap.size+1) 9 #[.string ⟨c.toArray⟩]:=(World.putObj_heap_other (by have:=bE1.lt;omega)).trans bSV;have bE6:BoxN (V.putObj D (.deferred none)) (w.heap.size+1+1) 81 #[.nilIface]:=(World.putObj_heap_other (by have:=bE1.lt;omega)).trans bEV;have q1:=bS6.cell 0 (v:=.string ⟨c.toArray⟩) rfl;have q2:=bE6.cell 0 (v:=.nilIface) rfl;exact⟨.tuple #[.string ⟨c.toArray⟩,.nilIface],by simp [results,results146,go_sem,q1,q2],rfl,hBV.trans (belowK_b (w:=w) (Nat.le_refl _) V D _ _ (by omega) hK rfl rfl)⟩
end Go.Proofs
