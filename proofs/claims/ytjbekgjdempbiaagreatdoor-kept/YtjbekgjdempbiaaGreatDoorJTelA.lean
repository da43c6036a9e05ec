import Derived.Test.YtjbekgjdempbiaaGreatDoorJSq
import Derived.Test.YtjbekgjdempbiaaGreatDoorJJrnC
import Derived.Test.YtjbekgjdempbiaaGreatDoorJRefH
import Derived.Test.YtjbekgjdempbiaaGreatDoorJFndA
import Derived.Test.YtjbekgjdempbiaaGreatDoorJCntB
import Derived.Lib.SplitLaws
import Derived.Lib.Atoi
import Derived.Test.YtjbekgjdempbiaaGreatDoorJVIssue
import Derived.Test.YtjbekgjdempbiaaGreatDoorJRounds
import Derived.RangeFuncCalls
import Derived.Test.YtjbekgjdempbiaaGreatDoorJLay3
import Derived.Test.YtjbekgjdempbiaaGreatDoorJRecC
import Derived.Lib.ItoaLen
set_option maxRecDepth 100000
set_option maxHeartbeats 8000000
namespace Go.Proofs
open Go.RowKit Go.Sort Go.Lib Go.Shelf Go.Maps
theorem Mn {s:List UInt8} (h:∀ c∈s,c.toNat≠10/\c.toNat≠32/\c.toNat≠59):Uk s:=
 ⟨fun hm=>(h _ hm).1 rfl,fun hm=>(h _ hm).2.1 rfl,fun hm=>(h _ hm).2.2 rfl⟩
theorem Xmi {s:List UInt8} (h:pathI s=true):Uk s:=by
 have hf:s.foldl Zk (some false)=some true:=by
  unfold pathI at h;simp at h;exact h.1
 have key:∀(s:List UInt8) (o b:Bool),s.foldl Zk (some o)=some b->∀ c∈s,c.toNat≠10/\c.toNat≠32/\c.toNat≠59:=fun s=>by
  induction s with
  | nil=>intro _ _ _ c hc;cases hc
  | cons x s ih =>
   intro o b hs c hc;rw [List.foldl_cons] at hs
   cases hx:Zk (some o) x with
   | none=>rw [hx,Xbk] at hs;cases hs
   | some o' =>
    rw [hx] at hs
    rcases List.mem_cons.1 hc with rfl | hc
    ·unfold Zk at hx
     simp only at hx
     split at hx
     ·omega
     split at hx
     ·rename_i hn
      unfold V8 at hn;simp at hn;omega
     cases hx
    exact ih o' b hs c hc
 exact Mn (key s false true hf)
theorem Xbc {c:UInt8}:∀ {l:List UInt8},c∉l->Lib.index l [c] = -1
 | [],_=>rfl
 | b :: l,h=>by
  have hb:¬ c=b:=fun e=>h (by simp [e])
  have hl:c∉l:=fun e=>h (by simp [e])
  unfold Lib.index;rw [if_neg (by simp [List.isPrefixOf,hb]),Xbc hl];rfl
theorem Xei {c:UInt8} {b:List UInt8}:∀ {a:List UInt8},c∉a->Lib.index (a++c :: b) [c]=a.length
 | [],_=>by
  show Lib.index (c :: b) [c]=0
  unfold Lib.index;rw [if_pos (by simp [List.isPrefixOf])]
 | x :: a,h=>by
  have hb:¬ c=x:=fun e=>h (by simp [e])
  have hl:c∉a:=fun e=>h (by simp [e])
  show Lib.index (x :: (a++c :: b)) [c]=_
  unfold Lib.index;rw [if_neg (by simp [List.isPrefixOf,hb]),Xei hl,if_neg (by simp)];simp
theorem Xeq {c:UInt8} {l:List UInt8} (h:c∉l):Lib.split l [c] = [l]:=by
 unfold Lib.split;rw [Lib.count_miss (Xbc h)];rfl
theorem Xgx {c:UInt8} {a b:List UInt8} (h:c∉a):Lib.split (a++c :: b) [c]=a :: Lib.split b [c]:=by
 have hi:=Xei (b:=b) h
 have hd:(a++c :: b).drop (a.length + [c].length)=b:=by
  rw [show a++c :: b=(a ++ [c])++b by simp,List.drop_left' (by simp)]
 unfold Lib.split;rw [Lib.count_hit (by simp) hi,hd,Nat.add_comm 1]
 show (if Lib.index (a++c :: b) [c] == -1 then _ else _)=_
 rw [if_neg (by rw [hi];simp),hi]
 have e:(((a.length:Nat):Int)).toNat=a.length:=by simp
 rw [e,hd,Nat.add_zero,List.take_left]
theorem Xbm {c:UInt8}:∀ {xs:List (List UInt8)},xs ≠ []->(∀ x∈xs,c∉x)->Lib.split (Lib.join xs [c]) [c]=xs
 | [],h,_=>absurd rfl h
 | [x],_,h=>by
  show Lib.split ([c].intercalate [x]) [c] = [x]
  rw [show [c].intercalate [x]=x by simp [List.intercalate]];exact Xeq (h x (by simp))
 | x :: y :: xs,_,h=>by
  have ih:=Xbm (xs:=y :: xs) (by simp) (fun z hz=>h z (List.mem_cons_of_mem _ hz))
  have e:Lib.join (x :: y :: xs) [c]=x++c :: Lib.join (y :: xs) [c]:=by simp [Lib.join,List.intercalate,List.intersperse]
  rw [e,Xgx (h x (by simp)),ih]
theorem Xik {c:UInt8} {a b:List UInt8} (h:c∉a):Lib.cut (a++c :: b) [c]=(a,b,true):=by
 have hi:=Xei (b:=b) h;unfold Lib.cut;rw [if_pos (by rw [hi];omega),hi]
 have e:(((a.length:Nat):Int)).toNat=a.length:=by simp
 rw [e,List.take_left,show a++c :: b=(a ++ [c])++b by simp,List.drop_left' (by simp)]
def bodyL (t:List UInt8):List UInt8:=Lib.decDigits t.length++32 :: (Lib.decDigits (sumI t).toNat++32 :: t)
theorem Je (t:List UInt8):lineL t=10 :: bodyL t:=rfl
theorem Xcy {c:UInt8} (hc:c.toNat<48) (u:Nat):c∉Lib.decDigits u:=by
 induction u using Nat.strongRecOn with
 | ind u ih =>
  have one:∀ d,d<10->c≠UInt8.ofNat (48+d):=fun d hd e=>by
   have:=congrArg UInt8.toNat e;simp at this;omega
  by_cases h:u<10
  ·rw [Lib.decDigits_one h]
   intro hm;exact one u h (List.mem_singleton.1 hm)
  rw [Lib.decDigits,dif_neg h];intro hm
  rcases List.mem_append.1 hm with hm | hm
  ·exact ih (u / 10) (by omega) hm
  exact one (u % 10) (by omega) (List.mem_singleton.1 hm)
theorem Xd0 (u:Nat) (h:u<18446744073709551616):puV (Lib.decDigits u)=u:=by
 unfold puV;rw [Vx u h]
theorem Xbd (t:List UInt8) (ht:t.length<18446744073709551616):wholeB (bodyL t)=true/\txtL (bodyL t)=t:=by
 have h1:=Xik (b:=Lib.decDigits (sumI t).toNat++32 :: t) (Xcy (c:=32) (by decide) t.length);have h2:=Xik (b:=t) (Xcy (c:=32) (by decide) (sumI t).toNat);obtain⟨s0,s1⟩:=Xcq t
 have htx:txtL (bodyL t)=t:=by
  unfold txtL bodyL;rw [h1,h2]
 refine⟨?_,htx⟩;unfold wholeB;rw [htx];unfold bodyL;rw [h1]
 show (puV (Lib.decDigits t.length)==(t.length:Int)&&puV (Lib.cut (Lib.decDigits (sumI t).toNat++32 :: t) [32]).1==sumI t)=true
 rw [h2,Xd0 _ ht,Xd0 _ (by omega)]
 have:(((sumI t).toNat:Nat):Int)=sumI t:=by omega
 simp [this]
theorem Xji:∀(ts:List (List UInt8)),(∀ t∈ts,(10:UInt8)∉t)->Lib.split (ts.flatMap lineL) [10] = [] :: ts.map bodyL:=by
 have hno:∀ t:List UInt8,(10:UInt8)∉t->(10:UInt8)∉bodyL t:=fun t h hm=>by
  unfold bodyL at hm
  rcases List.mem_append.1 hm with hm | hm
  ·exact Xcy (by decide) _ hm
  rcases List.mem_cons.1 hm with hm | hm
  ·cases hm
  rcases List.mem_append.1 hm with hm | hm
  ·exact Xcy (by decide) _ hm
  rcases List.mem_cons.1 hm with hm | hm
  ·cases hm
  exact h hm
 have hstep:∀(ts:List (List UInt8)) (a:List UInt8),(10:UInt8)∉a->(∀ t∈ts,(10:UInt8)∉t)->Lib.split (a++ts.flatMap lineL) [10]=a :: ts.map bodyL:=fun ts=>by
  induction ts with
  | nil=>intro a ha _;simpa using Xeq ha
  | cons t ts ih =>
   intro a ha h;rw [List.flatMap_cons,Je,List.cons_append,Xgx ha,ih (bodyL t) (hno t (h t (by simp))) (fun x hx=>h x (List.mem_cons_of_mem _ hx))];rfl
 intro ts h
 simpa using hstep ts [] (by simp) h
theorem Xbx {u:Nat}:∀ c∈Lib.decDigits u,48<=c.toNat/\c.toNat<=57:=by
 induction u using Nat.strongRecOn with
 | ind u ih =>
  have one:∀ d,d<10->∀ c ∈ [UInt8.ofNat (48+d)],48<=c.toNat/\c.toNat<=57:=fun d hd c hc=>by
   rw [List.mem_singleton.1 hc];simp;omega
  by_cases h:u<10
  ·rw [Lib.decDigits_one h]
   exact one u h
  rw [Lib.decDigits,dif_neg h];intro c hm
  rcases List.mem_append.1 hm with hm | hm
  ·exact ih (u / 10) (by omega) c hm
  exact one (u % 10) (by omega) c hm
theorem Xc0 (u:Nat):Uk (Lib.decDigits u):=Mn (fun c hc=>by have:=Xbx c hc;omega)
theorem Xey (n:Int):Uk (Lib.itoa n):=by
 unfold Lib.itoa
 split
 ·refine Mn (fun c hc=>?_)
  rcases List.mem_cons.1 hc with rfl | hc
  ·decide
  have:=Xbx c hc;omega
 exact Xc0 _
theorem Xj9 (k:Int) (u:Nat):Uk (nmStr k u):=by
 unfold nmStr
 split
 ·refine Mn (fun c hc=>?_)
  rcases List.mem_cons.1 hc with rfl | hc
  ·decide
  have:=Xbx c hc;omega
 split
 ·refine Mn (fun c hc=>?_)
  rcases List.mem_cons.1 hc with rfl | hc
  ·decide
  have:=Xbx c hc;omega
 exact⟨by simp,by simp,by simp⟩
theorem Xk6 (b:Bool):Uk (Lib.formatBool b):=by cases b <;> exact⟨by decide,by decide,by decide⟩
theorem Xbu {c d:UInt8} (hcd:c≠d):∀ {xs:List (List UInt8)},(∀ x∈xs,c∉x)->c∉Lib.join xs [d]
 | [],_=>by simp [Lib.join,List.intercalate]
 | [x],h=>by
  rw [show Lib.join [x] [d]=x by simp [Lib.join,List.intercalate]];exact h x (by simp)
 | x :: y :: xs,h=>by
  have ih:=Xbu hcd (xs:=y :: xs) (fun z hz=>h z (List.mem_cons_of_mem _ hz));rw [show Lib.join (x :: y :: xs) [d]=x++d :: Lib.join (y :: xs) [d] by simp [Lib.join,List.intercalate,List.intersperse]];intro hm
  rcases List.mem_append.1 hm with hm | hm
  ·exact h x (by simp) hm
  rcases List.mem_cons.1 hm with hm | hm
  ·exact hcd hm
  exact ih hm
theorem V4 {r:Yf} (hp:Uk r.pth):∀ x∈Ji r,Uk x:=fun x hx=>by
 simp only [Ji,List.mem_cons,List.not_mem_nil,or_false] at hx
 rcases hx with rfl | rfl | rfl | rfl | rfl | rfl | rfl | rfl
 ·exact Xey _
 ·exact Xj9 _ _
 ·exact Xj9 _ _
 ·exact Xk6 _
 ·exact Xc0 _
 ·exact Xey _
 ·exact Xc0 _
 exact hp
theorem Xpd {r:Yf} (hp:Uk r.pth):Lib.split (recStr r) [32]=Ji r:=
 Xbm (by simp [Ji]) (fun x hx=>(V4 hp x hx).2.1)
theorem Xrc {r:Yf} (hp:Uk r.pth):(59:UInt8)∉recStr r/\(10:UInt8)∉recStr r:=
 ⟨Xbu (by decide) (fun x hx=>(V4 hp x hx).2.2),Xbu (by decide) (fun x hx=>(V4 hp x hx).1)⟩
theorem Xot {rs:List Yf} (hne:rs ≠ []) (hp:∀ r∈rs,Uk r.pth):Lib.split (recTxt rs) [59]=rs.map recStr:=
 Xbm (by simp [Zv,hne]) (fun x hx=>by
  obtain⟨r,hr,rfl⟩:=List.mem_map.1 hx
  exact(Xrc (hp r hr)).1)
theorem Xqm {rs:List Yf} (hp:∀ r∈rs,Uk r.pth):(10:UInt8)∉recTxt rs:=
 Xbu (by decide) (fun x hx=>by
  obtain⟨r,hr,rfl⟩:=List.mem_map.1 hx
  exact(Xrc (hp r hr)).2)
theorem Xma (ls:List (List Yf)) (hp:∀ rs∈ls,∀ r∈rs,Uk r.pth):Lib.split (ls.flatMap recLine) [10] = [] :: ls.map (fun rs=>bodyL (recTxt rs)):=by
 have h:=Xji (ls.map recTxt) (fun t ht=>by
  obtain⟨rs,hrs,rfl⟩:=List.mem_map.1 ht
  exact Xqm (hp rs hrs))
 rw [List.map_map] at h;rw [<- show (ls.map recTxt).flatMap lineL=ls.flatMap recLine by rw [List.flatMap_map];rfl];exact h
theorem Mo:∀(l:List UInt8) (acc m:Nat) (b:UInt8) (d:Nat),Lib.decFrom acc l=some m->Lib.digitVal b=some d->Lib.decFrom acc (l ++ [b])=some (m*10+d)
 | [],acc,m,b,d,h,hd=>by
  have e:acc=m:=by simpa [Lib.decFrom] using h
  subst e;simp [Lib.decFrom,hd]
 | x :: l,acc,m,b,d,h,hd=>by
  rw [List.cons_append];unfold Lib.decFrom at h ⊢
  cases hx:Lib.digitVal x with
  | none=>rw [hx] at h;cases h
  | some y =>
   rw [hx] at h;exact Mo l _ m b d h hd
theorem Xgh {d:Nat} (h:d<10):Lib.digitVal (UInt8.ofNat (48+d))=some d:=by
 unfold Lib.digitVal
 have e:(UInt8.ofNat (48+d)).toNat=48+d:=by simp;omega
 rw [e,if_pos (by omega)];simp
theorem Xq1 (u:Nat):Lib.decFrom 0 (Lib.decDigits u)=some u:=by
 induction u using Nat.strongRecOn with
 | ind u ih =>
  by_cases h:u<10
  ·rw [Lib.decDigits_one h]
   have:=Mo [] 0 0 (UInt8.ofNat (48+u)) u rfl (Xgh h)
   simpa using this
  rw [Lib.decDigits,dif_neg h];have:=Mo _ 0 _ (UInt8.ofNat (48+u % 10)) (u % 10) (ih (u / 10) (by omega)) (Xgh (by omega));rw [this]
  congr 1
  omega
theorem Xrb (u:Nat):Lib.atoi (Lib.decDigits u)=some (u:Int):=by
 have hm:∀ c∈Lib.decDigits u,48<=c.toNat/\c.toNat<=57:=Xbx
 have hf:=Xq1 u
 cases hd:Lib.decDigits u with
 | nil=>exact absurd hd (Xek u)
 | cons b r =>
  rw [hd] at hm hf;have hb:=hm b (by simp)
  have h1:(b==45)=false:=by
   rw [beq_eq_false_iff_ne];rintro rfl;exact absurd hb (by decide)
  have h2:(b==43)=false:=by
   rw [beq_eq_false_iff_ne];rintro rfl;exact absurd hb (by decide)
  unfold Lib.atoi;simp only [h1,h2,Bool.false_eq_true,if_false];unfold Lib.decNat;rw [if_neg (by simp),hf];rfl
theorem Xgz {n:Int} (h:0<=n):Lib.atoi (Lib.itoa n)=some n:=by
 obtain⟨u,rfl⟩:∃ u:Nat,n=u:=⟨n.toNat,by omega⟩
 unfold Lib.itoa;rw [if_neg (by omega)]
 simpa using Xrb u
theorem Xpk {k:Int} {u:Nat} (h:k=1\/k=2\/(k=0/\u=0)) (hu:u<18446744073709551616):parseN (nmStr k u)=(k,(u:Int)):=by
 rcases h with rfl | rfl | ⟨rfl,rfl⟩
 ·exact Xae true hu
 ·exact Xae false hu
 rfl
theorem Xo8 (b:Bool):(Lib.formatBool b==Lib.formatBool true)=b:=by cases b <;> decide
structure Yf.Xms (r:Yf):Prop where
 ok:r.Ok
 k:0<=r.kind/\r.kind<=9
 t:0<=r.tr/\r.tr<=1000000000
 n:NmA r.nk r.nn
 a:NmA r.ak r.an
 p:Uk r.pth
 c:Ym r.pth
theorem Xcw:Uk []:=⟨by simp,by simp,by simp⟩
theorem Item.back {i:Item} {s:VSt} (h:i.Fits s):i.rec_.Xms:=by
 have ho:=Item.Xur h
 cases i with
 | tok t=>exact⟨ho.1,⟨show (0:Int)<=1 by decide,show (1:Int)<=9 by decide⟩,⟨h.1.r0,h.1.r1.1⟩,.inl rfl,h.1.r1.2,Xcw,ho.2⟩
 | lea t=>exact⟨ho.1,⟨show (0:Int)<=1 by decide,show (1:Int)<=9 by decide⟩,⟨h.1.r0,h.1.r1.1⟩,.inr (.inl rfl),h.1.r1.2,h.1.pa.2,ho.2⟩
 | gone tk n=>exact⟨ho.1,⟨show (0:Int)<=2 by decide,show (2:Int)<=9 by decide⟩,⟨show (0:Int)<=0 by decide,show (0:Int)<=1000000000 by decide⟩,by cases tk;exact .inr (.inl rfl);exact .inl rfl,.inr (.inr ⟨rfl,rfl⟩),Xcw,ho.2⟩
theorem Yr.back:∀ {is:List Item} {s:VSt},Yr is s->∀ r∈is.map Item.rec_,r.Xms
 | [],_,_,r,h=>by simp at h
 | a :: is,s,hf,r,h=>by
  rw [List.map_cons] at h
  rcases List.mem_cons.1 h with rfl | h
  ·exact Item.back hf.1
  exact Yr.back (is:=is) (s:=a.app s) hf.2 r h
theorem Xrn {tm:Int} (t0:0<=tm) (t1:tm<=18446744073709551615):(nowR tm).Xms:=
 ⟨⟨show (-9223372036854775808:Int)<=0 by decide,show (0:Int)<=9223372036854775807 by decide,show 0<18446744073709551616 by decide,show 0<18446744073709551616 by decide,t0,t1,show (-9223372036854775808:Int)<=0 by decide,show (0:Int)<=9223372036854775807 by decide,show (0:Int)<=0 by decide,show (0:Int)<=18446744073709551615 by decide,show 0<=1000 by decide⟩,⟨show (0:Int)<=0 by decide,show (0:Int)<=9 by decide⟩,⟨show (0:Int)<=0 by decide,show (0:Int)<=1000000000 by decide⟩,.inr (.inr ⟨rfl,rfl⟩),.inr (.inr ⟨rfl,rfl⟩),Xcw,Zn⟩
theorem Ye.Ok.back {l:Ye} {s:VSt} (h:l.Ok s):∀ r∈l.recs,r.Xms:=fun r hr=>by
 rcases List.mem_cons.1 hr with rfl | hr
 ·exact Xrn h.1.1 h.1.2
 exact h.2.1.back r hr
theorem OkL.back:∀ {ls:List Ye} {s:VSt},OkL ls s->∀ l∈ls,∀ r∈l.recs,r.Xms
 | [],_,_,l,hl,_,_=>by cases hl
 | x :: ls,s,⟨h1,h2⟩,l,hl,r,hr=>by
  rcases List.mem_cons.1 hl with rfl | hl
  ·exact h1.back r hr
  exact OkL.back h2 l hl r hr
theorem OkL.split {ls:List Ye} {s:VSt} (h:OkL ls s):Lib.split (textL ls) [10] = [] :: ls.map (fun l=>bodyL (recTxt l.recs)):=by
 have h1:=Xma (ls.map Ye.recs) (fun rs hrs r hr=>by
  obtain⟨l,hl,rfl⟩:=List.mem_map.1 hrs
  exact(h.back l hl r hr).p)
 rw [List.map_map] at h1;rw [show textL ls=(ls.map Ye.recs).flatMap recLine by rw [List.flatMap_map];rfl];exact h1
end Go.Proofs
namespace Go.Proofs
open Go.RowKit Go.Sort Go.Lib Go.Shelf Go.Maps Go.WideMaps
theorem Xat {b:Nat} {kl:Lit} (h:Maps.has (Zp (some b)) kl=true):kl=.string Jw:=by
 unfold Zp Maps.has at h;simp only [List.any_cons,List.any_nil,Bool.or_false] at h
 cases kl with
 | string s =>
  have:Jw=s:=by simpa [Lit.sameKey] using h
  rw [this]
 | _=>simp [Lit.sameKey] at h
theorem Tryz.Xmk (db md mn b:Nat) (c:List UInt8) (fd:Option (Nat × List UInt8)) (l f:Int) (w:World) (hD:Xj w db md mn fd (some (b,c)) (.slice none 0 0) l f) :
  Calls prog 306 #[.pointer (some ⟨db,0,none⟩)] w fun e w'=>∃ g cap,e=.returned (.tuple #[.slice (some ⟨g,0,none⟩) 1 cap,.nilIface])/\w'.cell? ⟨g,0,none⟩=some (.string ⟨#[106,111,117,114,110,97,108]⟩)/\g<w'.heap.size/\Below w.heap.size w w':=by
 have hS:=fun p cap W=>Xdx p cap W
 have d1:=hD.box.cell 1 (v:=.map (some mn)) rfl;have d5:=hD.box.cell 5 (v:=.bool false) rfl;obtain⟨n,hn,hown⟩:=hD.nm;obtain⟨i0,hi,hz0,hz1,hz2⟩:=info_parts Xb6
 change w.ownsMap prog 9 Yd mn n (Zp (some b)) at hown
 go_enter func306,ntmps306
 go_wp2_with (first
  | (at_range;refine wpList_range_own _ rfl _ 97 rfl 9 101 (string_keyed underlying9) underlying97 _ mn n _ rfl hown ?_;intro w1 hrg hg1 hs1)
  | go_in)
 have HB:=Xb (show Below w.heap.size w w1 from ⟨hg1.os,hg1.tape,hg1.output,hg1.size,fun k hk=>hg1.block k hk (by simp)⟩)
 have hz:w.heap.size<w1.heap.size:=by omega
 clear hg1 hs1 hown d1 d5;refine wp_loop_rounds 2 ?_;rw [rounds_succ]
 go_wp2_with (first
  | (at_next;refine wpList_next_ranges _ rfl _ rfl 9 (string_keyed underlying9) Yd Value.string (fun v:Value=>v) (fun key kl hk=>by obtain⟨x,hx,_⟩:=string_of_keyOf underlying9 hk;exact⟨x,hx⟩) (fun v _ _=>⟨v,rfl⟩) mn _ n _ _ _ rfl hrg ?_ ?_)
  | go_in)
 ·intro _ h0
  have h1:=h0 (.string Jw);rw [Xai] at h1;cases h1
 intro x c kl y yp w' cnt' hk hl hv hat hrg2 hlt hgr hsz hen;obtain rfl:=Xat hl;obtain⟨x',hx,hx2,-⟩:=string_of_keyOf underlying9 hk
 obtain rfl:x=x':=by cases hx;rfl
 have hxj:x=⟨#[106,111,117,114,110,97,108]⟩:=by
  have h3:Jw=x.data.toList:=by injection hx2
  apply ByteArray.ext;rw [<- Array.toArray_toList (xs:=x.data),<- h3];rfl
 subst hxj;have HB2:=Xb (show Below w.heap.size w w' from (Xa HB).grown hgr (by omega) (fun q hq=>by cases hq;exact Nat.le_refl _));clear hx hx2 hk hl hv hat hrg HB hgr hlt
 go_wp2_with (at_builtin;refine wpList_append_own _ rfl _ _ 40 rfl w.heap.size 9 i0 _ 1 16 underlying40 hi hz0 hz1 hz2 rfl (by decide) _ _ _ rfl (World.ownsRow_nil _ _ _ _) ⟨w'.heap.size,0,none⟩ 1 1 [.string ⟨#[106,111,117,114,110,97,108]⟩] rfl rfl (fun j u hu=>by
  match j,hu with
  | 0,hu =>
   have hu':Value.string ⟨#[106,111,117,114,110,97,108]⟩=u:=by simpa using hu
   rw [<- hu',M8];exact(BoxN.new w' 9 #[.string ⟨#[106,111,117,114,110,97,108]⟩]).cell 0 rfl
  | k+1,hu=>simp at hu) (by simp [Value.oneCell']) (by decide) (by decide) (by simp;omega) ?_)
 obtain⟨cap,hcap⟩:∃ cap,(Question.appendCap 1 0 9).cut (w'.tape w'.drawn (Question.appendCap 1 0 9))=cap:=⟨_,rfl⟩
 rw [hcap];have bG:=BoxN.new (w'.alloc (.cells #[.string ⟨#[106,111,117,114,110,97,108]⟩] 9)) 9 (#[.string ⟨#[106,111,117,114,110,97,108]⟩] ++ Builtin.zeroCells #[.string ⟨#[]⟩] (cap-1));rw [World.size_alloc,hsz] at bG;have g0:=bG.cell 0 (v:=.string ⟨#[106,111,117,114,110,97,108]⟩) (by rw [Array.getElem?_append_left (by simp)];rfl);have hr3:=(hrg2.alloc (.cells #[.string ⟨#[106,111,117,114,110,97,108]⟩] 9)).alloc (.cells (#[.string ⟨#[106,111,117,114,110,97,108]⟩] ++ Builtin.zeroCells #[.string ⟨#[]⟩] (cap-1)) 9);have hB3:=(((Xa HB2).alloc (by omega) (.cells #[.string ⟨#[106,111,117,114,110,97,108]⟩] 9)).alloc (by simp;omega) (.cells (#[.string ⟨#[106,111,117,114,110,97,108]⟩] ++ Builtin.zeroCells #[.string ⟨#[]⟩] (cap-1)) 9)).drew;have hr4:((w'.alloc (.cells #[.string ⟨#[106,111,117,114,110,97,108]⟩] 9)).alloc (.cells (#[.string ⟨#[106,111,117,114,110,97,108]⟩] ++ Builtin.zeroCells #[.string ⟨#[]⟩] (cap-1)) 9)).drew.ranges prog 9 Yd mn w.heap.size n (Zp (some b)) (fun z=>Maps.has (Zp (some b)) z && !z.sameKey (Lit.string Jw)) cnt':=hr3;have g1:((w'.alloc (.cells #[.string ⟨#[106,111,117,114,110,97,108]⟩] 9)).alloc (.cells (#[.string ⟨#[106,111,117,114,110,97,108]⟩] ++ Builtin.zeroCells #[.string ⟨#[]⟩] (cap-1)) 9)).drew.cell? ⟨w1.heap.size+1,0,none⟩=some (.string ⟨#[106,111,117,114,110,97,108]⟩):=g0;have g2:w1.heap.size+1<((w'.alloc (.cells #[.string ⟨#[106,111,117,114,110,97,108]⟩] 9)).alloc (.cells (#[.string ⟨#[106,111,117,114,110,97,108]⟩] ++ Builtin.zeroCells #[.string ⟨#[]⟩] (cap-1)) 9)).drew.heap.size:=bG.lt;generalize ((w'.alloc (.cells #[.string ⟨#[106,111,117,114,110,97,108]⟩] 9)).alloc (.cells (#[.string ⟨#[106,111,117,114,110,97,108]⟩] ++ Builtin.zeroCells #[.string ⟨#[]⟩] (cap-1)) 9)).drew=W3 at *;clear bG g0 hr3 hcap hrg2 HB2 hen;rw [rounds_succ]
 go_wp2_with (first
  | (at_next;refine wpList_next_ranges _ rfl _ rfl 9 (string_keyed underlying9) Yd (fun v:Value=>v) (fun v:Value=>v) (fun v _ _=>⟨v,rfl⟩) (fun v _ _=>⟨v,rfl⟩) mn _ n _ _ _ rfl hr4 ?_ ?_)
  | go_in)
 ·intro _ _
  clear hr4
  go_wp2_with (go_at_call 312;refine(hS _ _ _).mono ?_;rintro e w2 ⟨rfl,rfl⟩)
  exact bodyPost_ret (v:=.tuple #[.slice (some ⟨w1.heap.size+1,0,none⟩) 1 cap,.nilIface]) (by simp [results,results306,go_sem]) rfl ⟨_,_,rfl,g1,g2,hB3⟩
 intro x c kl y yp w'' cnt'' _ h2 h3;obtain rfl:=Xat h2;exact absurd h3 (by decide)
theorem Tryz.Xo4 (db md mn b:Nat) (c:List UInt8) (fd:Option (Nat × List UInt8)) (l f:Int) (w:World) (hD:Xj w db md mn fd (some (b,c)) (.slice none 0 0) l f) :
  Calls prog 307 #[.pointer (some ⟨db,0,none⟩),.string ⟨#[106,111,117,114,110,97,108]⟩] w fun e w'=>∃ g cap,e=.returned (.tuple #[.slice (some ⟨g,0,none⟩) c.length cap,.nilIface])/\BytesAt w' g c/\(w.heap.size<=g/\g<w'.heap.size)/\Below w.heap.size w w':=by
 obtain⟨cp,mk,hTB⟩:=Xmy c;have d1:=hD.box.cell 1 (v:=.map (some mn)) rfl;have d5:=hD.box.cell 5 (v:=.bool false) rfl;obtain⟨n,hn,hown⟩:=hD.nm;have hL:=Xru hown;unfold Xbz at hL;have s0:=(hD.sn (b,c) rfl).cell 0 (v:=.string ⟨c.toArray⟩) rfl;simp only at s0
 have hcv:=fun W=>(hTB W).1
 go_enter func307,ntmps307;go_wp2;refine bodyPost_ret (v:=.tuple #[.slice (some ⟨w.heap.size,0,none⟩) c.length (cp w),.nilIface]) (by simp [results,results307,go_sem]) rfl ?_;exact⟨w.heap.size,⟨cp w,rfl⟩,(hTB w).2.2.2,⟨Nat.le_refl _,(hTB w).2.2.1⟩,(hTB w).2.1⟩
theorem Tryz.Xf8 (db md mn b:Nat) (c:List UInt8) (fd:Option (Nat × List UInt8)) (l f:Int) (w:World) (hD:Xj w db md mn fd (some (b,c)) (.slice none 0 0) l f) (hE:Env w) (h6:6<=w.heap.size) :
  Calls prog 180 #[Yg db] w fun e w'=>∃ g cap,e=.returned (.tuple #[.slice (some ⟨g,0,none⟩) 1 cap,.nilIface])/\w'.cell? ⟨g,0,none⟩=some (.int .u64 0)/\g<w'.heap.size/\Below w.heap.size w w':=by
 have hm:=fun W=>Xb1 db W
 have hN:=Xmk db md mn b c fd l f w hD
 have hS:=fun p cap W=>Xkd p cap W
 have hO:=fun W (hb:Below w.heap.size w W)=>Xk5 W (hE.below hb h6)
 unfold Yg;go_enter func180,ntmps180
 go_wp2_with (go_at_call 306;refine hN.mono ?_;rintro e w1 ⟨g,cap,rfl,g0,g1,hb1⟩)
 refine wp_loop_rounds 2 ?_;rw [rounds_succ]
 go_wp2_with (go_at_call 210;refine(hO _ hb1).mono ?_;rintro e w2 ⟨rfl,hb2⟩)
 obtain⟨cap2,hcap⟩:∃ cap,(Question.appendCap 1 0 31).cut (w2.tape w2.drawn (Question.appendCap 1 0 31))=cap:=⟨_,rfl⟩
 rw [hcap];have hB2:=hb1.trans (hb2.mono hb1.size);have bG:=BoxN.new (w2.alloc (.cells #[.int .u64 0] 31)) 31 (#[.int .u64 0] ++ Builtin.zeroCells #[.int .u64 0] (cap2-1));rw [World.size_alloc] at bG;have q0:=bG.cell 0 (v:=.int .u64 0) (by rw [Array.getElem?_append_left (by simp)];rfl);have hB3:=((hB2.alloc hB2.size (.cells #[.int .u64 0] 31)).alloc (by have:=hB2.size;simp;omega) (.cells (#[.int .u64 0] ++ Builtin.zeroCells #[.int .u64 0] (cap2-1)) 31)).drew;have q1:((w2.alloc (.cells #[.int .u64 0] 31)).alloc (.cells (#[.int .u64 0] ++ Builtin.zeroCells #[.int .u64 0] (cap2-1)) 31)).drew.cell? ⟨w2.heap.size+1,0,none⟩=some (.int .u64 0):=q0;have q2:w2.heap.size+1<((w2.alloc (.cells #[.int .u64 0] 31)).alloc (.cells (#[.int .u64 0] ++ Builtin.zeroCells #[.int .u64 0] (cap2-1)) 31)).drew.heap.size:=bG.lt;generalize ((w2.alloc (.cells #[.int .u64 0] 31)).alloc (.cells (#[.int .u64 0] ++ Builtin.zeroCells #[.int .u64 0] (cap2-1)) 31)).drew=W3 at *;clear bG q0 hcap;rw [rounds_succ]
 go_wp2_with (go_at_call 211;refine(hS _ _ _).mono ?_;rintro e w4 ⟨rfl,rfl⟩)
 go_ret2
 exact⟨_,_,rfl,q1,q2,hB3⟩
def begB (c:List UInt8):Bool:=wholeB (Lib.cut (Lib.cut c [10]).2.1 [10]).1
theorem Tryz.Xj7 (c:List UInt8) (hc:c.length<4294967281) (ha:∀ b∈c,b.toNat<128) (w:World) (hE:Env w) (h9:9<=w.heap.size) (hG:Ja w) :
  Calls prog 182 #[.string ⟨c.toArray⟩] w fun e w'=>e=.returned (.bool (begB c))/\Below w.heap.size w w':=by
 obtain⟨-,a1,l0,l1⟩:=Xd2 c [10];obtain⟨a2,-,l2,l3⟩:=Xd2 (Lib.cut c [10]).2.1 [10]
 have hC1:=fun W (hb:Below w.heap.size w W)=>cut c [10] W hc (hG.below (hb.mono h9))
 have hC2:=fun W (hb:Below w.heap.size w W)=>cut (Lib.cut c [10]).2.1 [10] W (by omega) (hG.below (hb.mono h9))
 have hT:=fun W (hb:Below w.heap.size w W)=>textOf (Lib.cut (Lib.cut c [10]).2.1 [10]).1 W (by omega) (fun b hb=>ha b (a1 b (a2 b hb))) (hE.below hb (by omega)) (Nat.le_trans h9 hb.size) (hG.below (hb.mono h9))
 change ∀ W,_->Calls _ _ _ _ (fun e w'=>e=.returned (.tuple #[.string ⟨(txtL (Lib.cut (Lib.cut c [10]).2.1 [10]).1).toArray⟩,.bool (begB c)])/\_) at hT
 generalize begB c=bg at *;generalize txtL (Lib.cut (Lib.cut c [10]).2.1 [10]).1=tx at *;generalize Lib.cut c [10]=x1 at *;obtain⟨n1,r1,f1⟩:=x1;simp only at *;generalize Lib.cut r1 [10]=x2 at *;obtain⟨n2,r2,f2⟩:=x2;simp only at *;clear a1 a2 l0 l1 l2 l3 ha hc;go_enter func182,ntmps182
 go_wp2_with (first
  | (go_at_call_of 213 (Value.string ⟨c.toArray⟩);refine(hC1 _ (Below.refl _ _)).mono ?_;rintro e w1 ⟨rfl,hb1⟩)
  | (go_at_call_of 213 (Value.string ⟨r1.toArray⟩);refine(hC2 _ hb1).mono ?_;rintro e w2 ⟨rfl,hb2⟩;have hB2:=hb1.trans (hb2.mono hb1.size))
  | (go_at_call 185;refine(hT _ hB2).mono ?_;rintro e w3 ⟨rfl,hb3⟩;have hB3:=hB2.trans (hb3.mono hB2.size)))
 go_ret;exact⟨rfl,hB3⟩
theorem Xha {ls:List Ye} {s:VSt} (h:OkL ls s) (hne:ls ≠ []):begB (textL ls)=true:=by
 obtain⟨l,ls,rfl⟩:=List.exists_cons_of_ne_nil hne
 have hb:=fun r hr=>h.back l (by simp) r hr
 have hno:(10:UInt8)∉bodyL (recTxt l.recs):=by
  have h1:=Xqm (fun r hr=>(hb r hr).p);unfold bodyL;intro hm
  rcases List.mem_append.1 hm with hm | hm
  ·exact Xcy (by decide) _ hm
  rcases List.mem_cons.1 hm with hm | hm
  ·cases hm
  rcases List.mem_append.1 hm with hm | hm
  ·exact Xcy (by decide) _ hm
  rcases List.mem_cons.1 hm with hm | hm
  ·cases hm
  exact h1 hm
 have hl:(recTxt l.recs).length<18446744073709551616:=by
  have h2:=Zx l.recs (fun r hr=>(hb r hr).ok);have h3:=h.1.2.2.2
  have h4:l.recs.length=l.is.length+1:=by simp [Ye.recs]
  omega
 have e1:textL (l :: ls) = [] ++ 10 :: (bodyL (recTxt l.recs)++textL ls):=by
  unfold textL recLine;rw [List.flatMap_cons,Je];simp
 unfold begB;rw [e1,Xik (by simp)];simp only
 have e2:(Lib.cut (bodyL (recTxt l.recs)++textL ls) [10]).1=bodyL (recTxt l.recs):=by
  cases ls with
  | nil =>
   unfold Lib.cut;rw [show bodyL (recTxt l.recs)++textL []=bodyL (recTxt l.recs) by simp [textL],Xbc hno,if_neg (by decide)]
  | cons l2 ls =>
   have e3:textL (l2 :: ls)=10 :: (bodyL (recTxt l2.recs)++textL ls):=by
    unfold textL recLine;rw [List.flatMap_cons,Je];simp
   rw [e3,Xik hno]
 rw [e2];exact(Xbd _ hl).1
attribute [local go_sem] Oper.semAt_some
theorem Tryz.Xhv (g cap:Nat) (w:World):Calls prog 181 #[.slice (some ⟨g,0,none⟩) 1 cap] w fun e w'=>e=.returned (.func (.func 212) #[] #[.pointer (some ⟨w.heap.size,0,none⟩)])/\w'=w.alloc (.cells #[.slice (some ⟨g,0,none⟩) 1 cap] 272):=by
 go_enter func181,ntmps181;go_wp2;go_ret;exact⟨rfl,rfl⟩
theorem Tryz.Xf0 (n bx g cap:Nat) (hn:1<=n) (w:World) (hb:BoxN w bx 272 #[.slice (some ⟨g,0,none⟩) 1 cap]) (hg:w.cell? ⟨g,0,none⟩=some (.int .u64 0)) (hgl:g<w.heap.size) :
  Xs5 (α:=Unit) n prog 212 #[.pointer (some ⟨bx,0,none⟩)] (fun _=>#[.int .i64 0,.int .u64 0]) (fun _=>True) (fun _ _=>True) (fun xs=>xs = [()]) (fun pre=>pre = [()]) 1 w:=by
 intro l J Jx W hbW _ _ _ hY h0;have c0:=(hb.below hbW hb.lt).cell 0 (v:=.slice (some ⟨g,0,none⟩) 1 cap) rfl;have g0:W.cell? ⟨g,0,none⟩=some (.int .u64 0):=(hbW.cell (p:=⟨g,0,none⟩) hgl).trans hg;obtain⟨fn,tmps,assign,body,hy,hR⟩:=hY [] () W h0 (by simp);refine callsIn_of_wp func212 rfl trivial ?_ rfl;simp only [ntmps212,List.size_toArray,List.length_cons,List.length_nil,Nat.reduceAdd,Nat.reduceSub,Array.replicate_succ,Array.replicate_zero,List.push_toArray,List.append_toArray,List.nil_append,List.cons_append]
 gi_wp2
 gi_loopw [3] (fun i wr=>(i=.int .i64 0/\wr=W)\/(i=.int .i64 (-1)/\J [()] wr)) (fun i _=>(intOf i+1).toNat)
 case atStart=>exact .inl ⟨rfl,rfl⟩
 case round =>
  rcases hrel with⟨rfl,rfl⟩ | ⟨rfl,hJ1⟩
  ·gi_wp2
   refine hR.mono ?_;rintro e W3 (⟨rfl,hJ4,-,-⟩ | ⟨rfl,hJx3,-⟩)
   ·gi_wp2
    go_roundw
    case rel=>exact .inr ⟨rfl,hJ4⟩
    case measure=>simp [intOf]
   gi_wp2
   refine bodyPost_ret (results_none rfl _ _ _) rfl ?_;exact⟨⟨_,rfl⟩,.inr ⟨[()],rfl,hJx3⟩⟩
  gi_wp2
  go_end0
  exact⟨⟨_,rfl⟩,.inl ⟨[()],rfl,hJ1⟩⟩
theorem Vi {B b i:Nat} {V W:World} {v:Value} (h:KeepsFrom B V W) (hb:b<B):KeepsFrom B V (W.setCell ⟨b,i,none⟩ v):=
 h.trans (KeepsFrom.of_grownBy (row:=some b) ⟨rfl,rfl,rfl,by simp,fun k _ hne=>Yt _ _ _ _ _ (fun e=>hne (by rw [e]))⟩ (fun k e=>by cases e;exact hb))
theorem BytesAt.below {B g:Nat} {W W':World} {c:List UInt8} (h:BytesAt W g c) (hb:Below B W W') (hg:g<B):BytesAt W' g c:=fun j hj=>by
 have e:=cell_of_block (hb.block g hg) j;exact⟨e.1.trans (h j hj).1,e.2.trans (h j hj).2⟩
theorem Tryz.Xhe {W:World} {g cap:Nat} {c:List UInt8} (h:BytesAt W g c):(convert 267 9 (.slice (some ⟨g,0,none⟩) c.length cap)).run prog W=.ok (.string ⟨c.toArray⟩) W:=
 run_convert_bytes_back W 267 9 5 ⟨g,0,none⟩ cap c underlying267 underlying5 underlying9 (fun j hj=>by
  rw [M8]
  exact(h j hj).1)
theorem Xa6 {B:Nat} {w W:World} {b i:Nat} {t:TypeId} {cs:Array Value} {v:Value} (h:Below B w W) (hb:BoxN W b t cs) (hv:cs[i]? = some v):Below B w (W.setCell ⟨b,i,none⟩ v):=by
 have e:cs.setIfInBounds i v=cs:=by
  apply Array.ext
  ·simp
  intro j h1 h2;rw [Array.getElem_setIfInBounds (by simpa using h2)]
  split
  ·rename_i hij
   subst hij;obtain⟨h3,h4⟩:=Array.getElem?_eq_some_iff.1 hv;exact h4.symm
  rfl
 have h1:BoxN (W.setCell ⟨b,i,none⟩ v) b t cs:=by
  have:=hb.set i v
  rwa [e] at this
 exact⟨h.os,h.tape,h.output,by simpa using h.size,fun k hk=>by
  by_cases hkb:k=b
  ·subst hkb
   exact h1.trans (hb.symm.trans (h.block k hk))
  rw [Yt _ _ _ _ _ hkb]
  exact h.block k hk⟩
theorem Tryz.Xga (jb db md mn b:Nat) (c2:Value) (c:List UInt8) (fd:Option (Nat × List UInt8)) (l f:Int) (w:World) (hJ:BoxN w jb 212 #[Yg db,.int .u64 0,c2]) (hD:Xj w db md mn fd (some (b,c)) (.slice none 0 0) l f) (hc:c.length<4294967281) (ha:∀ b∈c,b.toNat<128) (hbg:begB c=true) (hE:Env w) (h9:9<=w.heap.size) (hG:Ja w) :
  CallsIn Fence.wide 9 prog 146 #[.pointer (some ⟨jb,0,none⟩)] w fun e w'=>e=.returned (.tuple #[.string ⟨c.toArray⟩,.nilIface])/\Below w.heap.size w w':=by
 have j0:=hJ.cell 0 (v:=Yg db) rfl;unfold Yg at j0;have lJ:=hJ.lt
 have hm:=fun W=>Xdi db W
 have hB0:Below w.heap.size w (((w.alloc (.cells #[.pointer (some ⟨jb,0,none⟩)] 117)).alloc (.cells #[.string ⟨#[]⟩] 9)).alloc (.cells #[.nilIface] 81)):=(((Below.refl _ w).alloc (Nat.le_refl _) _).alloc (by simp) _).alloc (by simp;omega) _;have bP:=((BoxN.new w 117 #[.pointer (some ⟨jb,0,none⟩)]).alloc (.cells #[.string ⟨#[]⟩] 9)).alloc (.cells #[.nilIface] 81);have bS:=(BoxN.new (w.alloc (.cells #[.pointer (some ⟨jb,0,none⟩)] 117)) 9 #[.string ⟨#[]⟩]).alloc (.cells #[.nilIface] 81);have bE:=BoxN.new ((w.alloc (.cells #[.pointer (some ⟨jb,0,none⟩)] 117)).alloc (.cells #[.string ⟨#[]⟩] 9)) 81 #[.nilIface];simp only [World.size_alloc] at bS bE;have hN:=Xf8 db md mn b c fd l f _ (hD.below hB0) (hE.below hB0 (Nat.le_trans (by decide) h9)) (Nat.le_trans (Nat.le_trans (by decide) h9) hB0.size);unfold Yg at hN;have j0w:=cell_later hB0 j0;have hf1:Fence.wide.fn 180:=trivial;have hf2:Fence.wide.fn 181:=trivial;have hf3:Fence.wide.fn 182:=trivial;have hf4:Fence.wide.fn 175:=trivial;have hf5:Fence.wide.fn 307:=trivial;refine callsIn_of_wp_marks func146 rfl trivial ?_ rfl;simp only [ntmps146,List.size_toArray,List.length_cons,List.length_nil,Nat.reduceAdd,Nat.reduceSub,Array.replicate_succ,Array.replicate_zero,List.push_toArray,List.append_toArray,List.nil_append,List.cons_append]
 gi_wp2_with (first
  | (gi_at_call 180;refine(callsIn_wide.2 hN).mono ?_;rintro e w1 ⟨g,cap,rfl,g0,gl,hb1⟩)
  | (gi_at_call 181;refine(callsIn_wide.2 (Xhv _ _ _)).mono ?_;rintro e w2 ⟨rfl,rfl⟩))
 have hB1:=hB0.trans (hb1.mono (by simp;omega));have bP1:=(bP.below hb1 (by simp;omega)).alloc (.cells #[.slice (some ⟨g,0,none⟩) 1 cap] 272);have bS1:=(bS.below hb1 (by simp)).alloc (.cells #[.slice (some ⟨g,0,none⟩) 1 cap] 272);have bE1:=(bE.below hb1 (by simp)).alloc (.cells #[.slice (some ⟨g,0,none⟩) 1 cap] 272);have bX1:=BoxN.new w1 272 #[.slice (some ⟨g,0,none⟩) 1 cap];have hB2:=hB1.alloc hB1.size (.cells #[.slice (some ⟨g,0,none⟩) 1 cap] 272)
 have hsz:(w1.alloc (.cells #[.slice (some ⟨g,0,none⟩) 1 cap] 272)).heap.size=w1.heap.size+1:=by simp
 have g0':(w1.alloc (.cells #[.slice (some ⟨g,0,none⟩) 1 cap] 272)).cell? ⟨g,0,none⟩=some (.int .u64 0):=cell_later ((Below.refl _ w1).alloc (Nat.le_refl _) _) g0;have hz1:=hB1.size
 obtain⟨W2,hW2⟩:∃ W2,w1.alloc (.cells #[.slice (some ⟨g,0,none⟩) 1 cap] 272)=W2:=⟨_,rfl⟩
 rw [hW2] at bP1 bS1 bE1 bX1 hB2 hsz g0' ⊢;clear hW2 bP bS bE hN j0w
 have hown:∀ sv:Value,OwnFrom W2.heap.size (fun(_:List Unit) V=>((BoxN V w.heap.size 117 #[.pointer (some ⟨jb,0,none⟩)]/\BoxN V (w.heap.size+1) 9 #[sv])/\BoxN V (w.heap.size+1+1) 81 #[.nilIface])/\Below w.heap.size w V):=fun sv =>
  OwnFrom.and (OwnFrom.and (OwnFrom.and (Own.from (Xy _ _ (fun _=>#[.pointer (some ⟨jb,0,none⟩)])) _) (Own.from (Xy _ _ (fun _=>#[sv])) _)) (Own.from (Xy _ _ (fun _=>#[.nilIface])) _)) (ownFrom_below (Nat.le_refl _) (by omega))
 refine Ve (n:=9) (by omega) (gf:=212) (lb:=#[.pointer (some ⟨w1.heap.size,0,none⟩)]) rfl (enters_of func212 (by kernel_rfl) rfl) (Xf0 8 w1.heap.size g cap (by decide) W2 bX1 g0' (by omega)) (fun _ _=>trivial) (fun _ _ _ _ _ _ _ _=>trivial) (Below.refl _ _) (fun _=>rfl)
  (fun pre V=>pre = []/\((BoxN V w.heap.size 117 #[.pointer (some ⟨jb,0,none⟩)]/\BoxN V (w.heap.size+1) 9 #[.string ⟨#[]⟩])/\BoxN V (w.heap.size+1+1) 81 #[.nilIface])/\Below w.heap.size w V)
  (fun cd pre V=>cd=Code.ret/\((BoxN V w.heap.size 117 #[.pointer (some ⟨jb,0,none⟩)]/\BoxN V (w.heap.size+1) 9 #[.string ⟨c.toArray⟩])/\BoxN V (w.heap.size+1+1) 81 #[.nilIface])/\Below w.heap.size w V)
  ?Xdz ?ownX
  (fun _ _ _=>trivial)
  ⟨rfl,⟨⟨bP1,bS1⟩,bE1⟩,hB2⟩
  (fun _ a' V=>a' = { tmps:=#[.pointer (some ⟨jb,0,none⟩),.pointer (some ⟨w.heap.size,0,none⟩),.pointer (some ⟨w.heap.size+1,0,none⟩),.pointer (some ⟨w.heap.size+1+1,0,none⟩),.slice (some ⟨g,0,none⟩) 1 cap,.nilIface,undef,.int .u64 0,undef,undef,.tuple #[.slice (some ⟨g,0,none⟩) 1 cap,.nilIface],.pointer (some ⟨jb,0,none⟩),.pointer (some ⟨jb,0,none⟩),.pointer (some ⟨jb,0,none⟩),.iface 74 (.pointer (some ⟨db,0,none⟩)),.tuple #[.slice (some ⟨g,0,none⟩) 1 cap,.nilIface],.slice (some ⟨g,0,none⟩) 1 cap,.nilIface,.nilIface,.bool false,undef,.slice (some ⟨g,0,none⟩) 1 cap,.func (.func 212) #[] #[.pointer (some ⟨w1.heap.size,0,none⟩)],.int .i64 0,.int .u64 0,undef,undef,undef,undef,undef,undef,undef,undef,undef,undef,undef,undef,undef,undef,undef,undef,undef,undef,undef,undef,undef,undef,undef,undef,undef,undef,undef,undef],defers:=[] }) ?ownA
  ?assign ?body ?done ?stop
 case Xdz=>exact fun s A B row hs hg hr=>⟨hs.1,hown (.string ⟨#[]⟩) s A B row hs.2 hg hr⟩
 case ownX=>exact fun cd s A B row hs hg hr=>⟨hs.1,hown (.string ⟨c.toArray⟩) s A B row hs.2 hg hr⟩
 case assign =>
  rintro ll pre x V K ⟨rfl,⟨⟨bPV,bSV⟩,bEV⟩,hBV⟩ hK
  gi_wp2
  exact hK _ _ (KeepsFrom.refl _ _) trivial ⟨by simp,⟨⟨bPV,bSV⟩,bEV⟩,hBV⟩ rfl
 case ownA=>exact fun _ _ _ _ _ _ hs _ _=>hs
 case body =>
  rintro ll pre x _ V hl ⟨rfl,⟨⟨bPV,bSV⟩,bEV⟩,hBV⟩ rfl hlt;have p0:=bPV.cell 0 (v:=.pointer (some ⟨jb,0,none⟩)) rfl;have p0d:V.drew.cell? ⟨w.heap.size,0,none⟩=some (.pointer (some ⟨jb,0,none⟩)):=p0;have jV:=cell_later hBV j0;have jVd:V.drew.cell? ⟨jb,0,none⟩=some (.iface 74 (.pointer (some ⟨db,0,none⟩))):=jV;have hRd:=Xo4 db md mn b c fd l f V.drew (hD.below hBV.drew)
  gi_wp2_with fail
  refine wpIn_region_any (by kernel_rfl) (X2 ll (by kernel_rfl) _ _ _ _ ?_)
  change wpAnyIn _ _ _ _ _ _ _ _ _ (World.drew _)
  refine Xv 4 (.int .u64 0) rfl ?_
  refine Xs 0 5 rfl rfl (fun K hK=>?_) fun K hK=>?_
  focus
   go_simp;refine hK _ _ ?_;clear hK K;refine Xv 1 (.pointer (some ⟨jb,0,none⟩)) rfl ?_
   refine Xv 2 (.pointer (some ⟨jb,0,none⟩)) rfl ?_
   refine Xs 3 5 rfl rfl (fun K hK=>?_) fun K hK=>?_
   focus
    go_simp;refine hK _ _ ?_;clear hK K;refine Xv 6 (.iface 74 (.pointer (some ⟨db,0,none⟩))) rfl ?_
    refine Xv 7 (.iface 74 (.pointer (some ⟨db,0,none⟩))) rfl ?_
    refine Xr 5 rfl fun K hK=>?_;go_simp;refine(callsIn_wide.2 (Xci _)).mono ?_;rintro e V2 ⟨rfl,rfl⟩;refine hK _ _ ?_;clear hK K;refine Xr 8 rfl fun K hK=>?_;go_simp;refine(callsIn_wide.2 hRd).mono ?_;rintro e V2 ⟨g,cap,rfl,hby,⟨hg1,hg2⟩,hb2⟩;refine hK _ _ ?_;clear hK K;refine Xv 9 (.tuple #[.slice (some ⟨g,0,none⟩) c.length cap,.nilIface]) rfl ?_
    refine Xv 10 (.slice (some ⟨g,0,none⟩) c.length cap) rfl ?_
    refine Xv 11 (.nilIface) rfl ?_
   rotate_left
   focus
    go_simp;refine(callsIn_wide.2 (Xci _)).mono ?_;rintro e V2 ⟨rfl,rfl⟩;refine hK _ _ ?_;clear hK K;refine Xr 3 rfl fun K hK=>?_;go_simp;refine hK _ _ ?_;clear hK K;refine Xv 6 (.iface 74 (.pointer (some ⟨db,0,none⟩))) rfl ?_
    refine Xv 7 (.iface 74 (.pointer (some ⟨db,0,none⟩))) rfl ?_
    refine Xr 8 rfl fun K hK=>?_;go_simp;refine(callsIn_wide.2 hRd).mono ?_;rintro e V2 ⟨g,cap,rfl,hby,⟨hg1,hg2⟩,hb2⟩;refine hK _ _ ?_;clear hK K;refine Xv 9 (.tuple #[.slice (some ⟨g,0,none⟩) c.length cap,.nilIface]) rfl ?_
    refine Xv 10 (.slice (some ⟨g,0,none⟩) c.length cap) rfl ?_
    refine Xv 11 (.nilIface) rfl ?_
   rotate_left
  rotate_left 2
  focus
   go_simp;refine(callsIn_wide.2 (Xci _)).mono ?_;rintro e V2 ⟨rfl,rfl⟩;refine hK _ _ ?_;clear hK K;refine Xr 0 rfl fun K hK=>?_;go_simp;refine hK _ _ ?_;clear hK K;refine Xv 1 (.pointer (some ⟨jb,0,none⟩)) rfl ?_
   refine Xv 2 (.pointer (some ⟨jb,0,none⟩)) rfl ?_
   refine Xr 3 rfl fun K hK=>?_;go_simp;refine hK _ _ ?_;clear hK K;refine Xv 6 (.iface 74 (.pointer (some ⟨db,0,none⟩))) rfl ?_
   refine Xv 7 (.iface 74 (.pointer (some ⟨db,0,none⟩))) rfl ?_
   refine Xr 8 rfl fun K hK=>?_;go_simp;refine(callsIn_wide.2 hRd).mono ?_;rintro e V2 ⟨g,cap,rfl,hby,⟨hg1,hg2⟩,hb2⟩;refine hK _ _ ?_;clear hK K;refine Xv 9 (.tuple #[.slice (some ⟨g,0,none⟩) c.length cap,.nilIface]) rfl ?_
   refine Xv 10 (.slice (some ⟨g,0,none⟩) c.length cap) rfl ?_
   refine Xv 11 (.nilIface) rfl ?_
  rotate_left
  all_goals
   refine Xr 12 rfl fun K hK=>?_;go_simp;refine hK _ _ ?_;clear hK K;refine Xr 13 rfl fun K hK=>?_;go_simp;refine hK _ _ ?_;clear hK K;refine wpAnyIn_done (by kernel_rfl) ?_ _;have hB2d:Below w.heap.size w V2:=hBV.drew.trans (hb2.mono hBV.size);have hbV2:Below V.heap.size V V2:=(Below.refl _ V).drew.trans hb2;have hcv2:=Xhe (cap:=cap) hby;have hBW:=Xj7 c hc ha V2 (hE.below hB2d (Nat.le_trans (by decide) h9)) (Nat.le_trans h9 hB2d.size) (hG.below (hB2d.mono h9));rw [hbg] at hBW;clear hRd hm
   gi_wp2_with fail
   refine(CallsIn.inRound ll (callsIn_wide.2 hBW)).mono ?_;rintro e V3 ⟨rfl,hb3⟩;have hbV3:=hbV2.trans (hb3.mono hbV2.size);have hB3:=hBV.trans (hbV3.mono hBV.size);have bP3:=bPV.below hbV3 bPV.lt;have bS3:=bSV.below hbV3 bSV.lt;have bE3:=bEV.below hbV3 bEV.lt;have bJ3:=hJ.below hB3 hJ.lt;have hby3:=hby.below hb3 hg2;have p3:=bP3.cell 0 (v:=.pointer (some ⟨jb,0,none⟩)) rfl;have j3:=bJ3.cell 1 (v:=.int .u64 0) rfl;have j3f:=bJ3.frozen 1;have hB4:=Xa6 hB3 (i:=1) (v:=.int .u64 0) bJ3 rfl;have hbJ4:=Xa6 (Below.refl V3.heap.size V3) (i:=1) (v:=.int .u64 0) bJ3 rfl;have hcv4:=Xhe (cap:=cap) (hby3.below hbJ4 (Nat.lt_of_lt_of_le hg2 hb3.size));have s3:=(bS3.below hbJ4 bS3.lt).cell 0 (v:=.string ⟨#[]⟩) rfl;have s3f:=(bS3.below hbJ4 bS3.lt).frozen 0;have e3:=(bE3.below hbJ4 bE3.lt).cell 0 (v:=.nilIface) rfl;have e3f:=(bE3.below hbJ4 bE3.lt).frozen 0
   gi_wp2
   have bP5:=((bP3.below hbJ4 bP3.lt).other (B':=w.heap.size+1) (by omega) 0 (.string ⟨c.toArray⟩)).other (B':=w.heap.size+1+1) (by omega) 0 .nilIface;have bS5:=((bS3.below hbJ4 bS3.lt).set 0 (.string ⟨c.toArray⟩)).other (B':=w.heap.size+1+1) (by omega) 0 .nilIface;have bE5:=((bE3.below hbJ4 bE3.lt).other (B':=w.heap.size+1) (by omega) 0 (.string ⟨c.toArray⟩)).set 0 .nilIface;have hB5:=(hB4.setCell (p:=⟨w.heap.size+1,0,none⟩) (by simp) (.string ⟨c.toArray⟩)).setCell (p:=⟨w.heap.size+1+1,0,none⟩) (by simp;omega) .nilIface;have hlE:=bE1.lt;exact⟨Vi (Vi (Vi (X0 _ hbV3) (by omega)) (by omega)) (by omega),rfl,⟨⟨bP5,bS5⟩,bE5⟩,hB5⟩
 case done =>
  rintro D zs V hD0 rfl ⟨h,-⟩ _;exact absurd h (by simp)
 case stop =>
  rintro D cd pre V hD0 _ ⟨rfl,⟨⟨bPV,bSV⟩,bEV⟩,hBV⟩ hK;have s0:=bSV.cell 0 (v:=.string ⟨c.toArray⟩) rfl;have e0:=bEV.cell 0 (v:=.nilIface) rfl
  gi_wp2
  refine⟨by simp,.inl ⟨_,_,rfl,run_takeDeferred hK,?_⟩⟩;have bS6:BoxN (V.putObj D (.deferred none)) (w.heap.size+1) 9 #[.string ⟨c.toArray⟩]:=(World.putObj_heap_other (by have:=bE1.lt;omega)).trans bSV;have bE6:BoxN (V.putObj D (.deferred none)) (w.heap.size+1+1) 81 #[.nilIface]:=(World.putObj_heap_other (by have:=bE1.lt;omega)).trans bEV;have q1:=bS6.cell 0 (v:=.string ⟨c.toArray⟩) rfl;have q2:=bE6.cell 0 (v:=.nilIface) rfl;exact⟨.tuple #[.string ⟨c.toArray⟩,.nilIface],by simp [results,results146,go_sem,q1,q2],rfl,hBV.trans (belowK_b (w:=w) (Nat.le_refl _) V D _ _ (by omega) hK rfl rfl)⟩
end Go.Proofs
namespace Go.Proofs
open Go.RowKit Go.Sort Go.Lib Go.Shelf Go.Maps
theorem Xku (xs:List (List UInt8)) (bs:List ByteArray) (h:bs.map (·.data.toList)=xs):bs.map Value.string=xs.map (fun x=>.string ⟨x.toArray⟩):=by
 rw [<- h,List.map_map];exact List.map_congr_left (fun b _=>rfl)
theorem Tryz.Xlf (s:List UInt8) (c:UInt8) (w:World) (hs:s.length<4294967281) (hG:Ja w) (xs:List (List UInt8)) (hx:Lib.split s [c]=xs) :
  Calls prog 184 #[.string ⟨s.toArray⟩,.string ⟨#[c]⟩] w fun e w'=>e=.returned (.slice (some ⟨w.heap.size,0,none⟩) xs.length xs.length)/\w'=w.alloc (.cells (xs.map (fun x=>.string ⟨x.toArray⟩)).toArray 9):=by
 obtain⟨-,m,hm⟩:=hG;have h:=Any.strings_Split Xgc Xna ⟨s.toArray⟩ ⟨#[c]⟩ m w (by simpa [ByteArray.size] using hs) hm (Nat.le_refl 1)
 have hd:(Lib.splitB ⟨#[c]⟩ 0 (Lib.countB ⟨s.toArray⟩ ⟨#[c]⟩) ⟨s.toArray⟩).map (·.data.toList)=xs:=by
  rw [Lib.splitB_data];exact hx
 have hl:=Lib.splitB_all ⟨#[c]⟩ (Nat.le_refl 1) 0 _ ⟨s.toArray⟩ rfl;rw [Xku xs _ hd,<- hl,show (Lib.splitB ⟨#[c]⟩ 0 (Lib.countB ⟨s.toArray⟩ ⟨#[c]⟩) ⟨s.toArray⟩).length=xs.length by rw [<- hd,List.length_map]] at h;exact h
theorem Tryz.atoi (s:List UInt8) (n:Int) (hl:s.length<=18) (h:Lib.atoi s=some n) (w:World) :
  Calls prog 237 #[.string ⟨s.toArray⟩] w fun e w'=>e=.returned (.tuple #[.int .i64 n,.nilIface])/\Below w.heap.size w w':=
 (Any.strconv_Atoi Xr2 ⟨s.toArray⟩ n (by simpa [ByteArray.size] using hl) h w).mono fun _ _ ⟨h1,t,h2⟩=>⟨h1,by rw [h2];exact Lib.bytesWorld_below _ _ _⟩
theorem Tryz.Xvb (s:List UInt8) (hl:s.length<=281474976710656) (w:World) :
  Calls prog 217 #[.string ⟨s.toArray⟩] w fun e w'=>e=.returned (.string ⟨s.toArray⟩)/\Below w.heap.size w w':=
 AnyPu.stringslite_Clone Xoi ⟨s.toArray⟩ w (by simpa [ByteArray.size] using hl)
theorem Tryz.clone (s:List UInt8) (hl:s.length<=281474976710656) (w:World) :
  Calls prog 238 #[.string ⟨s.toArray⟩] w fun e w'=>e=.returned (.string ⟨s.toArray⟩)/\Below w.heap.size w w':=by
 have hC:=fun W=>Xvb s hl W
 go_enter func238,ntmps238
 go_wp2_with (go_at_call 217;refine(hC _).mono ?_;rintro e w1 ⟨rfl,hb1⟩)
 go_ret;exact⟨rfl,hb1⟩
end Go.Proofs
namespace Go.Proofs
open Go.RowKit Go.Sort Go.Maps
theorem Xq7 {n:Nat} {w W w1:World} {o:Obj} (h:w1=W.alloc o) (hb:Below n w W) (hn:n<=W.heap.size):Below n w w1:=by rw [h];exact hb.alloc hn _
theorem Xvd {W w1:World} {o:Obj} {b:Nat} {t:TypeId} {cs:Array Value} (h:w1=W.alloc o) (hb:BoxN W b t cs):BoxN w1 b t cs:=by rw [h];exact hb.alloc _
theorem Xvx {W w1:World} {t:TypeId} {cs:Array Value} {n:Nat} (h:w1=W.alloc (.cells cs t)) (hn:W.heap.size=n):BoxN w1 n t cs:=by rw [h,<- hn];exact BoxN.new W t cs
abbrev Tryz.PoP (w0:World) (B fb:Nat) (s0 s1 s2 s3 s4 s5 s6 s7:List UInt8) (W:World):Prop:=(W.cell? ⟨fb,1,none⟩=some (.string ⟨s1.toArray⟩)/\W.cell? ⟨fb,2,none⟩=some (.string ⟨s2.toArray⟩)/\W.cell? ⟨fb,3,none⟩=some (.string ⟨s3.toArray⟩)/\W.cell? ⟨fb,7,none⟩=some (.string ⟨s7.toArray⟩))/\BoxN W fb 9 #[.string ⟨s0.toArray⟩,.string ⟨s1.toArray⟩,.string ⟨s2.toArray⟩,.string ⟨s3.toArray⟩,.string ⟨s4.toArray⟩,.string ⟨s5.toArray⟩,.string ⟨s6.toArray⟩,.string ⟨s7.toArray⟩]/\(B+1<W.heap.size/\Below B w0 W)/\BoxN W B 135 #[.int .i64 0,.int .i64 0,.int .u64 0,.int .i64 0,.int .u64 0,.bool false,.int .u64 0,.int .i64 0,.int .u64 0,.string ⟨#[]⟩]
section
variable {w0 W W':World} {B fb:Nat} {s0 s1 s2 s3 s4 s5 s6 s7:List UInt8}
theorem Tryz.PoP.of (h:BoxN W fb 9 #[.string ⟨s0.toArray⟩,.string ⟨s1.toArray⟩,.string ⟨s2.toArray⟩,.string ⟨s3.toArray⟩,.string ⟨s4.toArray⟩,.string ⟨s5.toArray⟩,.string ⟨s6.toArray⟩,.string ⟨s7.toArray⟩]) (h1:B+1<W.heap.size) (h2:Below B w0 W) (h3:BoxN W B 135 #[.int .i64 0,.int .i64 0,.int .u64 0,.int .i64 0,.int .u64 0,.bool false,.int .u64 0,.int .i64 0,.int .u64 0,.string ⟨#[]⟩]):PoP w0 B fb s0 s1 s2 s3 s4 s5 s6 s7 W:=⟨⟨h.cell 1 rfl,h.cell 2 rfl,h.cell 3 rfl,h.cell 7 rfl⟩,h,⟨h1,h2⟩,h3⟩
theorem Tryz.PoP.below (h:PoP w0 B fb s0 s1 s2 s3 s4 s5 s6 s7 W) (hb:Below W.heap.size W W'):PoP w0 B fb s0 s1 s2 s3 s4 s5 s6 s7 W':=by
 obtain⟨-,h1,⟨h2,h3⟩,h4⟩:=h;exact PoP.of (h1.below hb h1.lt) (Nat.lt_of_lt_of_le h2 hb.size) (h3.trans (hb.mono (by omega))) (h4.below hb h4.lt)
theorem Tryz.PoP.drew (h:PoP w0 B fb s0 s1 s2 s3 s4 s5 s6 s7 W):PoP w0 B fb s0 s1 s2 s3 s4 s5 s6 s7 W.drew:=h.below (Below.refl _ W).drew
theorem Tryz.PoP.alloc (h:PoP w0 B fb s0 s1 s2 s3 s4 s5 s6 s7 W) (o:Obj):PoP w0 B fb s0 s1 s2 s3 s4 s5 s6 s7 (W.alloc o):=h.below ((Below.refl _ _).alloc (Nat.le_refl _) _)
theorem Tryz.PoP.set (h:PoP w0 B fb s0 s1 s2 s3 s4 s5 s6 s7 W) {b i:Nat} (hn:b≠fb) (hB:B<b) (v:Value):PoP w0 B fb s0 s1 s2 s3 s4 s5 s6 s7 (W.setCell ⟨b,i,none⟩ v):=by
 obtain⟨-,h1,⟨h2,h3⟩,h4⟩:=h;exact PoP.of (h1.other (Ne.symm hn) i v) (by simpa using h2) (h3.setCell (Nat.le_of_lt hB) v) (h4.other (by omega) i v)
end
theorem Tryz.Xon (txt s0 s1 s2 s3 s4 s5 s6 s7 tt:List UInt8) (kind at_ tr last nk nn ak an:Int) (w:World)
  (hSp:∀ W,Below w.heap.size w W->Calls prog 184 #[.string ⟨txt.toArray⟩,.string ⟨#[32]⟩] W fun e w'=>e=.returned (.slice (some ⟨W.heap.size,0,none⟩) 8 8)/\w'=W.alloc (.cells #[.string ⟨s0.toArray⟩,.string ⟨s1.toArray⟩,.string ⟨s2.toArray⟩,.string ⟨s3.toArray⟩,.string ⟨s4.toArray⟩,.string ⟨s5.toArray⟩,.string ⟨s6.toArray⟩,.string ⟨s7.toArray⟩] 9))
  (hA0:∀ W,Calls prog 237 #[.string ⟨s0.toArray⟩] W fun e w'=>e=.returned (.tuple #[.int .i64 kind,.nilIface])/\Below W.heap.size W w')
  (hP4:∀ W,Below w.heap.size w W->Calls prog 118 #[.string ⟨s4.toArray⟩,.int .i64 10,.int .i64 64] W fun e w'=>∃ er,e=.returned (.tuple #[.int .u64 at_,er])/\Below W.heap.size W w')
  (hA5:∀ W,Calls prog 237 #[.string ⟨s5.toArray⟩] W fun e w'=>e=.returned (.tuple #[.int .i64 tr,.nilIface])/\Below W.heap.size W w')
  (hP6:∀ W,Below w.heap.size w W->Calls prog 118 #[.string ⟨s6.toArray⟩,.int .i64 10,.int .i64 64] W fun e w'=>∃ er,e=.returned (.tuple #[.int .u64 last,er])/\Below W.heap.size W w')
  (hN1:∀ W,Below w.heap.size w W->Calls prog 63 #[.string ⟨s1.toArray⟩] W fun e w'=>e=.returned (.agg #[.int .i64 nk,.int .u64 nn])/\Below W.heap.size W w')
  (hN2:∀ W,Below w.heap.size w W->Calls prog 63 #[.string ⟨s2.toArray⟩] W fun e w'=>e=.returned (.agg #[.int .i64 ak,.int .u64 an])/\Below W.heap.size W w')
  (hFB:∀ W,Calls prog 206 #[.bool true] W fun e w'=>e=.returned (.string ⟨tt.toArray⟩)/\Below W.heap.size W w')
  (hCl:∀ W,Calls prog 238 #[.string ⟨s7.toArray⟩] W fun e w'=>e=.returned (.string ⟨s7.toArray⟩)/\Below W.heap.size W w')
  (hSt:∀ W,Below w.heap.size w W->Calls prog 178 #[.agg #[.int .i64 kind,.int .i64 nk,.int .u64 nn,.int .i64 ak,.int .u64 an,.bool (s3==tt),.int .u64 at_,.int .i64 tr,.int .u64 last,.string ⟨s7.toArray⟩]] W fun e w'=>e=.returned (.string ⟨txt.toArray⟩)/\Below W.heap.size W w') :
  Calls prog 215 #[.string ⟨txt.toArray⟩] w fun e w'=>e=.returned (.tuple #[.agg #[.int .i64 kind,.int .i64 nk,.int .u64 nn,.int .i64 ak,.int .u64 an,.bool (s3==tt),.int .u64 at_,.int .i64 tr,.int .u64 last,.string ⟨s7.toArray⟩],.bool true])/\Below w.heap.size w w':=by
 have hb0:Below w.heap.size w (w.alloc (.cells #[.int .i64 0,.int .i64 0,.int .u64 0,.int .i64 0,.int .u64 0,.bool false,.int .u64 0,.int .i64 0,.int .u64 0,.string ⟨#[]⟩] 135)):=(Below.refl _ w).alloc (Nat.le_refl _) _;have bR0:=BoxN.new w 135 #[.int .i64 0,.int .i64 0,.int .u64 0,.int .i64 0,.int .u64 0,.bool false,.int .u64 0,.int .i64 0,.int .u64 0,.string ⟨#[]⟩];go_enter func215,ntmps215
 go_wp2_with (first
  | (go_at_call 184;refine(hSp _ hb0).mono ?_;rintro e w1 ⟨rfl,hw1⟩;rw [World.size_alloc];have hb1:=Xq7 hw1 hb0 (by simp);have bF1:=Xvx hw1 (World.size_alloc _ _);have bR1:=Xvd hw1 bR0;have f0:=bF1.cell 0 (v:=.string ⟨s0.toArray⟩) rfl;clear hw1)
  | (go_at_call_of 237 (Value.string ⟨s0.toArray⟩);refine(hA0 _).mono ?_;rintro e w2 ⟨rfl,hb2⟩;have hbb2:=hb1.trans (hb2.mono hb1.size);have bF2:=bF1.below hb2 bF1.lt;have bR2:=bR1.below hb2 bR1.lt;have f4:=bF2.cell 4 (v:=.string ⟨s4.toArray⟩) rfl)
  | (go_at_call_of 118 (Value.string ⟨s4.toArray⟩);refine(hP4 _ hbb2).mono ?_;rintro e w3 ⟨er,rfl,hb3⟩;have hbb3:=hbb2.trans (hb3.mono hbb2.size);have bF3:=bF2.below hb3 bF2.lt;have bR3:=bR2.below hb3 bR2.lt;have f5:=bF3.cell 5 (v:=.string ⟨s5.toArray⟩) rfl)
  | (go_at_call_of 237 (Value.string ⟨s5.toArray⟩);refine(hA5 _).mono ?_;rintro e w4 ⟨rfl,hb4⟩;have hbb4:=hbb3.trans (hb4.mono hbb3.size);have bF4:=bF3.below hb4 bF3.lt;have bR4:=bR3.below hb4 bR3.lt;have f6:=bF4.cell 6 (v:=.string ⟨s6.toArray⟩) rfl)
  | (go_at_call_of 118 (Value.string ⟨s6.toArray⟩);refine(hP6 _ hbb4).mono ?_;rintro e w5 ⟨er2,rfl,hb5⟩;have hbb5:=hbb4.trans (hb5.mono hbb4.size);have bF5:=bF4.below hb5 bF4.lt;have bR5:=bR4.below hb5 bR4.lt))
 have hS0:PoP w w.heap.size (w.heap.size+1) s0 s1 s2 s3 s4 s5 s6 s7 w5.drew:=PoP.drew (PoP.of bF5 bF5.lt hbb5 bR5)
 have hS1:∀ o,PoP w w.heap.size (w.heap.size+1) s0 s1 s2 s3 s4 s5 s6 s7 (w5.alloc o).drew:=fun o=>PoP.drew (PoP.alloc (PoP.of bF5 bF5.lt hbb5 bR5) o)
 have hgo:∀ {W:World} {o:Obj},PoP w w.heap.size (w.heap.size+1) s0 s1 s2 s3 s4 s5 s6 s7 (W.alloc o)->w.heap.size<W.heap.size:=fun h=>by have:=h.2.2.1.1;simp at this;omega
 clear bF1 bF2 bF3 bF4 bR1 bR2 bR3 bR4 f0 f4 f5 f6 hb0 bR0 hA0 hA5 hP4 hP6 hSp
 go_region_held3 (PoP w w.heap.size (w.heap.size+1) s0 s1 s2 s3 s4 s5 s6 s7) (first
  | with_reducible exact hS0
  | with_reducible exact hS1 _
  | with_reducible exact PoP.below (by assumption) (by assumption)
  | with_reducible assumption
  | with_reducible exact PoP.alloc (PoP.below (PoP.below (PoP.below (PoP.below hS0 hbS6) hbS7) hbS8) hbS9) _
  | with_reducible exact PoP.alloc (by assumption) _
  | exact(PoP.set (PoP.set (PoP.set (PoP.set (PoP.set (PoP.set (PoP.set (PoP.set (PoP.set (PoP.set (by assumption) hzn hzb _) hzn hzb _) hzn hzb _) hzn hzb _) hzn hzb _) hzn hzb _) hzn hzb _) hzn hzb _) hzn hzb _) hzn hzb _)
  | fail) (first
  | (go_at_call_of 63 (Value.string ⟨s1.toArray⟩);refine(hN1 _ (show PoP w w.heap.size (w.heap.size+1) s0 s1 s2 s3 s4 s5 s6 s7 _ from by assumption).2.2.1.2).mono ?_;rintro e w6 ⟨rfl,hbS6⟩;first | (have bZ:=BoxN.below (W:=(w5.alloc (.cells #[.int .i64 0,.int .i64 0,.int .u64 0,.int .i64 0,.int .u64 0,.bool false,.int .u64 0,.int .i64 0,.int .u64 0,.string ⟨#[]⟩] 135)).drew) (BoxN.new w5 135 #[.int .i64 0,.int .i64 0,.int .u64 0,.int .i64 0,.int .u64 0,.bool false,.int .u64 0,.int .i64 0,.int .u64 0,.string ⟨#[]⟩]) hbS6 (by simp);have hzb:w.heap.size<w5.heap.size:=Nat.lt_trans (Nat.lt_succ_self _) bF5.lt;have hzn:=BoxN.ne bZ (show PoP w w.heap.size (w.heap.size+1) s0 s1 s2 s3 s4 s5 s6 s7 _ from PoP.below (by assumption) hbS6).2.1 (by decide)) | (have bZ:=BoxN.below (BoxN.new _ 135 #[.int .i64 0,.int .i64 0,.int .u64 0,.int .i64 0,.int .u64 0,.bool false,.int .u64 0,.int .i64 0,.int .u64 0,.string ⟨#[]⟩]) hbS6 (by simp);have hzb:=hgo (by assumption);have hzn:=BoxN.ne bZ (show PoP w w.heap.size (w.heap.size+1) s0 s1 s2 s3 s4 s5 s6 s7 _ from PoP.below (by assumption) hbS6).2.1 (by decide)) | (have bZ:=BoxN.below bZ hbS6 bZ.lt) | skip)
  | (go_at_call_of 63 (Value.string ⟨s2.toArray⟩);refine(hN2 _ (show PoP w w.heap.size (w.heap.size+1) s0 s1 s2 s3 s4 s5 s6 s7 _ from by assumption).2.2.1.2).mono ?_;rintro e w7 ⟨rfl,hbS7⟩;first | (have bZ:=BoxN.below (BoxN.new _ 135 #[.int .i64 0,.int .i64 0,.int .u64 0,.int .i64 0,.int .u64 0,.bool false,.int .u64 0,.int .i64 0,.int .u64 0,.string ⟨#[]⟩]) hbS7 (by simp);have hzb:=hgo (by assumption);have hzn:=BoxN.ne bZ (show PoP w w.heap.size (w.heap.size+1) s0 s1 s2 s3 s4 s5 s6 s7 _ from PoP.below (by assumption) hbS7).2.1 (by decide)) | (have bZ:=BoxN.below bZ hbS7 bZ.lt) | skip)
  | (go_at_call 206;refine(hFB _).mono ?_;rintro e w8 ⟨rfl,hbS8⟩;first | (have bZ:=BoxN.below (BoxN.new _ 135 #[.int .i64 0,.int .i64 0,.int .u64 0,.int .i64 0,.int .u64 0,.bool false,.int .u64 0,.int .i64 0,.int .u64 0,.string ⟨#[]⟩]) hbS8 (by simp);have hzb:=hgo (by assumption);have hzn:=BoxN.ne bZ (show PoP w w.heap.size (w.heap.size+1) s0 s1 s2 s3 s4 s5 s6 s7 _ from PoP.below (by assumption) hbS8).2.1 (by decide)) | (have bZ:=BoxN.below bZ hbS8 bZ.lt) | skip)
  | (go_at_call 238;refine(hCl _).mono ?_;rintro e w9 ⟨rfl,hbS9⟩;first | (have bZ:=BoxN.below (BoxN.new _ 135 #[.int .i64 0,.int .i64 0,.int .u64 0,.int .i64 0,.int .u64 0,.bool false,.int .u64 0,.int .i64 0,.int .u64 0,.string ⟨#[]⟩]) hbS9 (by simp);have hzb:=hgo (by assumption);have hzn:=BoxN.ne bZ (show PoP w w.heap.size (w.heap.size+1) s0 s1 s2 s3 s4 s5 s6 s7 _ from PoP.below (by assumption) hbS9).2.1 (by decide);have z0:=bZ.cell 0 (v:=.int .i64 0) rfl;have y0:=bZ.frozen 0;have z1:=bZ.cell 1 (v:=.int .i64 0) rfl;have y1:=bZ.frozen 1;have z2:=bZ.cell 2 (v:=.int .u64 0) rfl;have y2:=bZ.frozen 2;have z3:=bZ.cell 3 (v:=.int .i64 0) rfl;have y3:=bZ.frozen 3;have z4:=bZ.cell 4 (v:=.int .u64 0) rfl;have y4:=bZ.frozen 4;have z5:=bZ.cell 5 (v:=.bool false) rfl;have y5:=bZ.frozen 5;have z6:=bZ.cell 6 (v:=.int .u64 0) rfl;have y6:=bZ.frozen 6;have z7:=bZ.cell 7 (v:=.int .i64 0) rfl;have y7:=bZ.frozen 7;have z8:=bZ.cell 8 (v:=.int .u64 0) rfl;have y8:=bZ.frozen 8;have z9:=bZ.cell 9 (v:=.string ⟨#[]⟩) rfl;have y9:=bZ.frozen 9) | (have bZ:=BoxN.below bZ hbS9 bZ.lt;have z0:=bZ.cell 0 (v:=.int .i64 0) rfl;have y0:=bZ.frozen 0;have z1:=bZ.cell 1 (v:=.int .i64 0) rfl;have y1:=bZ.frozen 1;have z2:=bZ.cell 2 (v:=.int .u64 0) rfl;have y2:=bZ.frozen 2;have z3:=bZ.cell 3 (v:=.int .i64 0) rfl;have y3:=bZ.frozen 3;have z4:=bZ.cell 4 (v:=.int .u64 0) rfl;have y4:=bZ.frozen 4;have z5:=bZ.cell 5 (v:=.bool false) rfl;have y5:=bZ.frozen 5;have z6:=bZ.cell 6 (v:=.int .u64 0) rfl;have y6:=bZ.frozen 6;have z7:=bZ.cell 7 (v:=.int .i64 0) rfl;have y7:=bZ.frozen 7;have z8:=bZ.cell 8 (v:=.int .u64 0) rfl;have y8:=bZ.frozen 8;have z9:=bZ.cell 9 (v:=.string ⟨#[]⟩) rfl;have y9:=bZ.frozen 9) | skip))
 clear hN1 hN2 hFB hCl hgo hS0 hS1
 focus
  have bR:=BoxN.new w9 135 #[.int .i64 kind,.int .i64 nk,.int .u64 nn,.int .i64 ak,.int .u64 an,.bool (s3==tt),.int .u64 at_,.int .i64 tr,.int .u64 last,.string ⟨s7.toArray⟩];have hzl:0<=w9.heap.size:=Nat.zero_le _
  have hPl:=(show PoP w w.heap.size (w.heap.size+1) s0 s1 s2 s3 s4 s5 s6 s7 ((w9.alloc (.cells #[.int .i64 kind,.int .i64 nk,.int .u64 nn,.int .i64 ak,.int .u64 an,.bool (s3==tt),.int .u64 at_,.int .i64 tr,.int .u64 last,.string ⟨s7.toArray⟩] 135))) from by assumption)
  have hBl:=hPl.2.2.1.2;have bOl:=hPl.2.2.2;clear hPl
  obtain⟨Wl,hWl⟩:∃ W,(w9.alloc (.cells #[.int .i64 kind,.int .i64 nk,.int .u64 nn,.int .i64 ak,.int .u64 an,.bool (s3==tt),.int .u64 at_,.int .i64 tr,.int .u64 last,.string ⟨s7.toArray⟩] 135))=W:=⟨_,rfl⟩
  obtain⟨rb,hrb⟩:∃ b,w9.heap.size=b:=⟨_,rfl⟩
 rotate_left
 focus
  have bR:BoxN ((((((((((w9.setCell ⟨w8.heap.size,0,none⟩ (.int .i64 kind)).setCell ⟨w8.heap.size,1,none⟩ (.int .i64 nk)).setCell ⟨w8.heap.size,2,none⟩ (.int .u64 nn)).setCell ⟨w8.heap.size,3,none⟩ (.int .i64 ak)).setCell ⟨w8.heap.size,4,none⟩ (.int .u64 an)).setCell ⟨w8.heap.size,5,none⟩ (.bool (s3==tt))).setCell ⟨w8.heap.size,6,none⟩ (.int .u64 at_)).setCell ⟨w8.heap.size,7,none⟩ (.int .i64 tr)).setCell ⟨w8.heap.size,8,none⟩ (.int .u64 last)).setCell ⟨w8.heap.size,9,none⟩ (.string ⟨s7.toArray⟩)) (w8.heap.size) 135 #[.int .i64 kind,.int .i64 nk,.int .u64 nn,.int .i64 ak,.int .u64 an,.bool (s3==tt),.int .u64 at_,.int .i64 tr,.int .u64 last,.string ⟨s7.toArray⟩]:=bZ.sets10 (.int .i64 kind) (.int .i64 nk) (.int .u64 nn) (.int .i64 ak) (.int .u64 an) (.bool (s3==tt)) (.int .u64 at_) (.int .i64 tr) (.int .u64 last) (.string ⟨s7.toArray⟩);have hzl:=hzb;clear bZ hzn hzb z0 y0 z1 y1 z2 y2 z3 y3 z4 y4 z5 y5 z6 y6 z7 y7 z8 y8 z9 y9
  have hPl:=(show PoP w w.heap.size (w.heap.size+1) s0 s1 s2 s3 s4 s5 s6 s7 (((((((((((w9.setCell ⟨w8.heap.size,0,none⟩ (.int .i64 kind)).setCell ⟨w8.heap.size,1,none⟩ (.int .i64 nk)).setCell ⟨w8.heap.size,2,none⟩ (.int .u64 nn)).setCell ⟨w8.heap.size,3,none⟩ (.int .i64 ak)).setCell ⟨w8.heap.size,4,none⟩ (.int .u64 an)).setCell ⟨w8.heap.size,5,none⟩ (.bool (s3==tt))).setCell ⟨w8.heap.size,6,none⟩ (.int .u64 at_)).setCell ⟨w8.heap.size,7,none⟩ (.int .i64 tr)).setCell ⟨w8.heap.size,8,none⟩ (.int .u64 last)).setCell ⟨w8.heap.size,9,none⟩ (.string ⟨s7.toArray⟩))) from by assumption)
  have hBl:=hPl.2.2.1.2;have bOl:=hPl.2.2.2;clear hPl
  obtain⟨Wl,hWl⟩:∃ W,((((((((((w9.setCell ⟨w8.heap.size,0,none⟩ (.int .i64 kind)).setCell ⟨w8.heap.size,1,none⟩ (.int .i64 nk)).setCell ⟨w8.heap.size,2,none⟩ (.int .u64 nn)).setCell ⟨w8.heap.size,3,none⟩ (.int .i64 ak)).setCell ⟨w8.heap.size,4,none⟩ (.int .u64 an)).setCell ⟨w8.heap.size,5,none⟩ (.bool (s3==tt))).setCell ⟨w8.heap.size,6,none⟩ (.int .u64 at_)).setCell ⟨w8.heap.size,7,none⟩ (.int .i64 tr)).setCell ⟨w8.heap.size,8,none⟩ (.int .u64 last)).setCell ⟨w8.heap.size,9,none⟩ (.string ⟨s7.toArray⟩))=W:=⟨_,rfl⟩
  obtain⟨rb,hrb⟩:∃ b,w8.heap.size=b:=⟨_,rfl⟩
 rotate_left
 focus
  have bR:BoxN ((((((((((w9.setCell ⟨w7.heap.size,0,none⟩ (.int .i64 kind)).setCell ⟨w7.heap.size,1,none⟩ (.int .i64 nk)).setCell ⟨w7.heap.size,2,none⟩ (.int .u64 nn)).setCell ⟨w7.heap.size,3,none⟩ (.int .i64 ak)).setCell ⟨w7.heap.size,4,none⟩ (.int .u64 an)).setCell ⟨w7.heap.size,5,none⟩ (.bool (s3==tt))).setCell ⟨w7.heap.size,6,none⟩ (.int .u64 at_)).setCell ⟨w7.heap.size,7,none⟩ (.int .i64 tr)).setCell ⟨w7.heap.size,8,none⟩ (.int .u64 last)).setCell ⟨w7.heap.size,9,none⟩ (.string ⟨s7.toArray⟩)) (w7.heap.size) 135 #[.int .i64 kind,.int .i64 nk,.int .u64 nn,.int .i64 ak,.int .u64 an,.bool (s3==tt),.int .u64 at_,.int .i64 tr,.int .u64 last,.string ⟨s7.toArray⟩]:=bZ.sets10 (.int .i64 kind) (.int .i64 nk) (.int .u64 nn) (.int .i64 ak) (.int .u64 an) (.bool (s3==tt)) (.int .u64 at_) (.int .i64 tr) (.int .u64 last) (.string ⟨s7.toArray⟩);have hzl:=hzb;clear bZ hzn hzb z0 y0 z1 y1 z2 y2 z3 y3 z4 y4 z5 y5 z6 y6 z7 y7 z8 y8 z9 y9
  have hPl:=(show PoP w w.heap.size (w.heap.size+1) s0 s1 s2 s3 s4 s5 s6 s7 (((((((((((w9.setCell ⟨w7.heap.size,0,none⟩ (.int .i64 kind)).setCell ⟨w7.heap.size,1,none⟩ (.int .i64 nk)).setCell ⟨w7.heap.size,2,none⟩ (.int .u64 nn)).setCell ⟨w7.heap.size,3,none⟩ (.int .i64 ak)).setCell ⟨w7.heap.size,4,none⟩ (.int .u64 an)).setCell ⟨w7.heap.size,5,none⟩ (.bool (s3==tt))).setCell ⟨w7.heap.size,6,none⟩ (.int .u64 at_)).setCell ⟨w7.heap.size,7,none⟩ (.int .i64 tr)).setCell ⟨w7.heap.size,8,none⟩ (.int .u64 last)).setCell ⟨w7.heap.size,9,none⟩ (.string ⟨s7.toArray⟩))) from by assumption)
  have hBl:=hPl.2.2.1.2;have bOl:=hPl.2.2.2;clear hPl
  obtain⟨Wl,hWl⟩:∃ W,((((((((((w9.setCell ⟨w7.heap.size,0,none⟩ (.int .i64 kind)).setCell ⟨w7.heap.size,1,none⟩ (.int .i64 nk)).setCell ⟨w7.heap.size,2,none⟩ (.int .u64 nn)).setCell ⟨w7.heap.size,3,none⟩ (.int .i64 ak)).setCell ⟨w7.heap.size,4,none⟩ (.int .u64 an)).setCell ⟨w7.heap.size,5,none⟩ (.bool (s3==tt))).setCell ⟨w7.heap.size,6,none⟩ (.int .u64 at_)).setCell ⟨w7.heap.size,7,none⟩ (.int .i64 tr)).setCell ⟨w7.heap.size,8,none⟩ (.int .u64 last)).setCell ⟨w7.heap.size,9,none⟩ (.string ⟨s7.toArray⟩))=W:=⟨_,rfl⟩
  obtain⟨rb,hrb⟩:∃ b,w7.heap.size=b:=⟨_,rfl⟩
 rotate_left
 focus
  have bR:BoxN ((((((((((w9.setCell ⟨w6.heap.size,0,none⟩ (.int .i64 kind)).setCell ⟨w6.heap.size,1,none⟩ (.int .i64 nk)).setCell ⟨w6.heap.size,2,none⟩ (.int .u64 nn)).setCell ⟨w6.heap.size,3,none⟩ (.int .i64 ak)).setCell ⟨w6.heap.size,4,none⟩ (.int .u64 an)).setCell ⟨w6.heap.size,5,none⟩ (.bool (s3==tt))).setCell ⟨w6.heap.size,6,none⟩ (.int .u64 at_)).setCell ⟨w6.heap.size,7,none⟩ (.int .i64 tr)).setCell ⟨w6.heap.size,8,none⟩ (.int .u64 last)).setCell ⟨w6.heap.size,9,none⟩ (.string ⟨s7.toArray⟩)) (w6.heap.size) 135 #[.int .i64 kind,.int .i64 nk,.int .u64 nn,.int .i64 ak,.int .u64 an,.bool (s3==tt),.int .u64 at_,.int .i64 tr,.int .u64 last,.string ⟨s7.toArray⟩]:=bZ.sets10 (.int .i64 kind) (.int .i64 nk) (.int .u64 nn) (.int .i64 ak) (.int .u64 an) (.bool (s3==tt)) (.int .u64 at_) (.int .i64 tr) (.int .u64 last) (.string ⟨s7.toArray⟩);have hzl:=hzb;clear bZ hzn hzb z0 y0 z1 y1 z2 y2 z3 y3 z4 y4 z5 y5 z6 y6 z7 y7 z8 y8 z9 y9
  have hPl:=(show PoP w w.heap.size (w.heap.size+1) s0 s1 s2 s3 s4 s5 s6 s7 (((((((((((w9.setCell ⟨w6.heap.size,0,none⟩ (.int .i64 kind)).setCell ⟨w6.heap.size,1,none⟩ (.int .i64 nk)).setCell ⟨w6.heap.size,2,none⟩ (.int .u64 nn)).setCell ⟨w6.heap.size,3,none⟩ (.int .i64 ak)).setCell ⟨w6.heap.size,4,none⟩ (.int .u64 an)).setCell ⟨w6.heap.size,5,none⟩ (.bool (s3==tt))).setCell ⟨w6.heap.size,6,none⟩ (.int .u64 at_)).setCell ⟨w6.heap.size,7,none⟩ (.int .i64 tr)).setCell ⟨w6.heap.size,8,none⟩ (.int .u64 last)).setCell ⟨w6.heap.size,9,none⟩ (.string ⟨s7.toArray⟩))) from by assumption)
  have hBl:=hPl.2.2.1.2;have bOl:=hPl.2.2.2;clear hPl
  obtain⟨Wl,hWl⟩:∃ W,((((((((((w9.setCell ⟨w6.heap.size,0,none⟩ (.int .i64 kind)).setCell ⟨w6.heap.size,1,none⟩ (.int .i64 nk)).setCell ⟨w6.heap.size,2,none⟩ (.int .u64 nn)).setCell ⟨w6.heap.size,3,none⟩ (.int .i64 ak)).setCell ⟨w6.heap.size,4,none⟩ (.int .u64 an)).setCell ⟨w6.heap.size,5,none⟩ (.bool (s3==tt))).setCell ⟨w6.heap.size,6,none⟩ (.int .u64 at_)).setCell ⟨w6.heap.size,7,none⟩ (.int .i64 tr)).setCell ⟨w6.heap.size,8,none⟩ (.int .u64 last)).setCell ⟨w6.heap.size,9,none⟩ (.string ⟨s7.toArray⟩))=W:=⟨_,rfl⟩
  obtain⟨rb,hrb⟩:∃ b,w6.heap.size=b:=⟨_,rfl⟩
 rotate_left
 focus
  have bR:BoxN ((((((((((w9.setCell ⟨w5.heap.size,0,none⟩ (.int .i64 kind)).setCell ⟨w5.heap.size,1,none⟩ (.int .i64 nk)).setCell ⟨w5.heap.size,2,none⟩ (.int .u64 nn)).setCell ⟨w5.heap.size,3,none⟩ (.int .i64 ak)).setCell ⟨w5.heap.size,4,none⟩ (.int .u64 an)).setCell ⟨w5.heap.size,5,none⟩ (.bool (s3==tt))).setCell ⟨w5.heap.size,6,none⟩ (.int .u64 at_)).setCell ⟨w5.heap.size,7,none⟩ (.int .i64 tr)).setCell ⟨w5.heap.size,8,none⟩ (.int .u64 last)).setCell ⟨w5.heap.size,9,none⟩ (.string ⟨s7.toArray⟩)) (w5.heap.size) 135 #[.int .i64 kind,.int .i64 nk,.int .u64 nn,.int .i64 ak,.int .u64 an,.bool (s3==tt),.int .u64 at_,.int .i64 tr,.int .u64 last,.string ⟨s7.toArray⟩]:=bZ.sets10 (.int .i64 kind) (.int .i64 nk) (.int .u64 nn) (.int .i64 ak) (.int .u64 an) (.bool (s3==tt)) (.int .u64 at_) (.int .i64 tr) (.int .u64 last) (.string ⟨s7.toArray⟩);have hzl:=hzb;clear bZ hzn hzb z0 y0 z1 y1 z2 y2 z3 y3 z4 y4 z5 y5 z6 y6 z7 y7 z8 y8 z9 y9
  have hPl:=(show PoP w w.heap.size (w.heap.size+1) s0 s1 s2 s3 s4 s5 s6 s7 (((((((((((w9.setCell ⟨w5.heap.size,0,none⟩ (.int .i64 kind)).setCell ⟨w5.heap.size,1,none⟩ (.int .i64 nk)).setCell ⟨w5.heap.size,2,none⟩ (.int .u64 nn)).setCell ⟨w5.heap.size,3,none⟩ (.int .i64 ak)).setCell ⟨w5.heap.size,4,none⟩ (.int .u64 an)).setCell ⟨w5.heap.size,5,none⟩ (.bool (s3==tt))).setCell ⟨w5.heap.size,6,none⟩ (.int .u64 at_)).setCell ⟨w5.heap.size,7,none⟩ (.int .i64 tr)).setCell ⟨w5.heap.size,8,none⟩ (.int .u64 last)).setCell ⟨w5.heap.size,9,none⟩ (.string ⟨s7.toArray⟩))) from by assumption)
  have hBl:=hPl.2.2.1.2;have bOl:=hPl.2.2.2;clear hPl
  obtain⟨Wl,hWl⟩:∃ W,((((((((((w9.setCell ⟨w5.heap.size,0,none⟩ (.int .i64 kind)).setCell ⟨w5.heap.size,1,none⟩ (.int .i64 nk)).setCell ⟨w5.heap.size,2,none⟩ (.int .u64 nn)).setCell ⟨w5.heap.size,3,none⟩ (.int .i64 ak)).setCell ⟨w5.heap.size,4,none⟩ (.int .u64 an)).setCell ⟨w5.heap.size,5,none⟩ (.bool (s3==tt))).setCell ⟨w5.heap.size,6,none⟩ (.int .u64 at_)).setCell ⟨w5.heap.size,7,none⟩ (.int .i64 tr)).setCell ⟨w5.heap.size,8,none⟩ (.int .u64 last)).setCell ⟨w5.heap.size,9,none⟩ (.string ⟨s7.toArray⟩))=W:=⟨_,rfl⟩
  obtain⟨rb,hrb⟩:∃ b,w5.heap.size=b:=⟨_,rfl⟩
 rotate_left
 all_goals
  rw [hWl] at bR hBl bOl ⊢;rw [hrb] at bR hzl ⊢;clear hWl hrb;have q0:=bR.cell 0 (v:=.int .i64 kind) rfl;have q1:=bR.cell 1 (v:=.int .i64 nk) rfl;have q2:=bR.cell 2 (v:=.int .u64 nn) rfl;have q3:=bR.cell 3 (v:=.int .i64 ak) rfl;have q4:=bR.cell 4 (v:=.int .u64 an) rfl;have q5:=bR.cell 5 (v:=.bool (s3==tt)) rfl;have q6:=bR.cell 6 (v:=.int .u64 at_) rfl;have q7:=bR.cell 7 (v:=.int .i64 tr) rfl;have q8:=bR.cell 8 (v:=.int .u64 last) rfl;have q9:=bR.cell 9 (v:=.string ⟨s7.toArray⟩) rfl
  go_wp2_with (go_at_call 178;refine(hSt _ hBl).mono ?_;rintro e w10 ⟨rfl,hb10⟩;have bR10:=bR.below hb10 bR.lt;have bO10:=bOl.below hb10 bOl.lt;clear q0 q1 q2 q3 q4 q5 q6 q7 q8 q9;have q0:=bR10.cell 0 (v:=.int .i64 kind) rfl;have q1:=bR10.cell 1 (v:=.int .i64 nk) rfl;have q2:=bR10.cell 2 (v:=.int .u64 nn) rfl;have q3:=bR10.cell 3 (v:=.int .i64 ak) rfl;have q4:=bR10.cell 4 (v:=.int .u64 an) rfl;have q5:=bR10.cell 5 (v:=.bool (s3==tt)) rfl;have q6:=bR10.cell 6 (v:=.int .u64 at_) rfl;have q7:=bR10.cell 7 (v:=.int .i64 tr) rfl;have q8:=bR10.cell 8 (v:=.int .u64 last) rfl;have q9:=bR10.cell 9 (v:=.string ⟨s7.toArray⟩) rfl;have o0:=bO10.cell 0 (v:=.int .i64 0) rfl;have u0:=bO10.frozen 0;have o1:=bO10.cell 1 (v:=.int .i64 0) rfl;have u1:=bO10.frozen 1;have o2:=bO10.cell 2 (v:=.int .u64 0) rfl;have u2:=bO10.frozen 2;have o3:=bO10.cell 3 (v:=.int .i64 0) rfl;have u3:=bO10.frozen 3;have o4:=bO10.cell 4 (v:=.int .u64 0) rfl;have u4:=bO10.frozen 4;have o5:=bO10.cell 5 (v:=.bool false) rfl;have u5:=bO10.frozen 5;have o6:=bO10.cell 6 (v:=.int .u64 0) rfl;have u6:=bO10.frozen 6;have o7:=bO10.cell 7 (v:=.int .i64 0) rfl;have u7:=bO10.frozen 7;have o8:=bO10.cell 8 (v:=.int .u64 0) rfl;have u8:=bO10.frozen 8;have o9:=bO10.cell 9 (v:=.string ⟨#[]⟩) rfl;have u9:=bO10.frozen 9)
  have bF:=bO10.sets10 (.int .i64 kind) (.int .i64 nk) (.int .u64 nn) (.int .i64 ak) (.int .u64 an) (.bool (s3==tt)) (.int .u64 at_) (.int .i64 tr) (.int .u64 last) (.string ⟨s7.toArray⟩)
  have hBf:=(Below.setCell (p:=⟨w.heap.size,9,none⟩) (Below.setCell (p:=⟨w.heap.size,8,none⟩) (Below.setCell (p:=⟨w.heap.size,7,none⟩) (Below.setCell (p:=⟨w.heap.size,6,none⟩) (Below.setCell (p:=⟨w.heap.size,5,none⟩) (Below.setCell (p:=⟨w.heap.size,4,none⟩) (Below.setCell (p:=⟨w.heap.size,3,none⟩) (Below.setCell (p:=⟨w.heap.size,2,none⟩) (Below.setCell (p:=⟨w.heap.size,1,none⟩) (Below.setCell (p:=⟨w.heap.size,0,none⟩) (hBl.trans (hb10.mono hBl.size)) (Nat.le_refl _) (.int .i64 kind)) (Nat.le_refl _) (.int .i64 nk)) (Nat.le_refl _) (.int .u64 nn)) (Nat.le_refl _) (.int .i64 ak)) (Nat.le_refl _) (.int .u64 an)) (Nat.le_refl _) (.bool (s3==tt))) (Nat.le_refl _) (.int .u64 at_)) (Nat.le_refl _) (.int .i64 tr)) (Nat.le_refl _) (.int .u64 last)) (Nat.le_refl _) (.string ⟨s7.toArray⟩))
  generalize ((((((((((w10.setCell ⟨w.heap.size,0,none⟩ (.int .i64 kind)).setCell ⟨w.heap.size,1,none⟩ (.int .i64 nk)).setCell ⟨w.heap.size,2,none⟩ (.int .u64 nn)).setCell ⟨w.heap.size,3,none⟩ (.int .i64 ak)).setCell ⟨w.heap.size,4,none⟩ (.int .u64 an)).setCell ⟨w.heap.size,5,none⟩ (.bool (s3==tt))).setCell ⟨w.heap.size,6,none⟩ (.int .u64 at_)).setCell ⟨w.heap.size,7,none⟩ (.int .i64 tr)).setCell ⟨w.heap.size,8,none⟩ (.int .u64 last)).setCell ⟨w.heap.size,9,none⟩ (.string ⟨s7.toArray⟩))=Wf at *;have p0:=bF.cell 0 (v:=.int .i64 kind) rfl;have p1:=bF.cell 1 (v:=.int .i64 nk) rfl;have p2:=bF.cell 2 (v:=.int .u64 nn) rfl;have p3:=bF.cell 3 (v:=.int .i64 ak) rfl;have p4:=bF.cell 4 (v:=.int .u64 an) rfl;have p5:=bF.cell 5 (v:=.bool (s3==tt)) rfl;have p6:=bF.cell 6 (v:=.int .u64 at_) rfl;have p7:=bF.cell 7 (v:=.int .i64 tr) rfl;have p8:=bF.cell 8 (v:=.int .u64 last) rfl;have p9:=bF.cell 9 (v:=.string ⟨s7.toArray⟩) rfl;exact bodyPost_ret (v:=.tuple #[.agg #[.int .i64 kind,.int .i64 nk,.int .u64 nn,.int .i64 ak,.int .u64 an,.bool (s3==tt),.int .u64 at_,.int .i64 tr,.int .u64 last,.string ⟨s7.toArray⟩],.bool true]) (by simp [results,results215,go_sem,p0,p1,p2,p3,p4,p5,p6,p7,p8,p9]) rfl ⟨rfl,hBf⟩
end Go.Proofs
namespace Go.Proofs
open Go.RowKit Go.Sort Go.Lib Go.Shelf Go.Maps
theorem Xi6 {u:Nat} (h:u<=1000000000):Lib.nDigits u<=10:=by
 rcases Nat.lt_or_ge u 1000000000 with h1 | h1
 ·have key:∀(k u:Nat),u<10 ^ (k+1)->Lib.nDigits u<=k+1:=fun k=>by
   induction k with
   | zero=>intro u hu;rw [Lib.nDigits_small (by simpa using hu)];exact Nat.le_refl _
   | succ k ih =>
    intro u hu
    by_cases hs:u<10
    ·rw [Lib.nDigits_small hs];omega
    rw [Lib.nDigits_big hs];have:=ih (u / 10) (by rw [Nat.pow_succ] at hu;omega);omega
  have:=key 8 u (by simpa using h1);omega
 exact Nat.le_of_eq (Lib.nDigits_unique 9 u (by simpa using h1) (by omega))
theorem Xm5 (u:Nat) (h:u<18446744073709551616):(Lib.decDigits u).length<=20:=by rw [Lib.decDigits_length];exact Lib.nDigits_le20 u h
theorem Xfb {n:Int} (h0:0<=n) (h1:n<=1000000000):(Lib.itoa n).length<=18:=by
 obtain⟨u,rfl⟩:∃ u:Nat,n=u:=⟨n.toNat,by omega⟩
 unfold Lib.itoa;rw [if_neg (by omega)]
 have:(Lib.decDigits u).length<=10:=by
  rw [Lib.decDigits_length];exact Xi6 (by omega)
 simpa using Nat.le_trans this (by decide)
theorem Tryz.Xps (r:Yf) (hr:r.Xms) (w:World) (hE:Env w) (h9:9<=w.heap.size) (hG:Ja w) :
  Calls prog 215 #[.string ⟨(recStr r).toArray⟩] w fun e w'=>e=.returned (.tuple #[.agg r.cells,.bool true])/\Below w.heap.size w w':=by
 have hok:=hr.ok;have hlen:=Xbh hok;have a0:=hok.t0;have a1:=hok.t1;have b0:=hok.l0;have b1:=hok.l1;have n1:=hok.n1;have m1:=hok.a1;have h6:6<=w.heap.size:=Nat.le_trans (by decide) h9;have d4:=Xm5 r.at_.toNat (by omega);have d6:=Xm5 r.last.toNat (by omega);have l1:=Xas r.nk r.nn n1;have l2:=Xas r.ak r.an m1;have ek:=Xfb hr.k.1 (by have:=hr.k.2;omega);have et:=Xfb hr.t.1 hr.t.2
 have v4:puV (Lib.decDigits r.at_.toNat)=r.at_:=by rw [Xd0 _ (by omega)];omega
 have v6:puV (Lib.decDigits r.last.toNat)=r.last:=by rw [Xd0 _ (by omega)];omega
 have hN:∀(k:Int) (u:Nat),NmA k u->u<18446744073709551616->(nmStr k u).length<=21->∀ W,Below w.heap.size w W->Calls prog 63 #[.string ⟨(nmStr k u).toArray⟩] W fun e w'=>e=.returned (.agg #[.int .i64 k,.int .u64 (u:Int)])/\Below W.heap.size W w':=fun k u hk hu hl W hb=>by
  have h:=parse ⟨(nmStr k u).toArray⟩ (by show (nmStr k u).toArray.size<=1000000;simp;omega) W (hE.below hb h6) (Nat.le_trans h6 hb.size);simp only at h;rw [Xpk hk hu] at h;exact h
 have hP:∀(s:List UInt8) (v:Int),s.length<=20->puV s=v->∀ W,Below w.heap.size w W->Calls prog 118 #[.string ⟨s.toArray⟩,.int .i64 10,.int .i64 64] W fun e w'=>∃ er,e=.returned (.tuple #[.int .u64 v,er])/\Below W.heap.size W w':=fun s v hl hv W hb=>by
  have h:=Xif s (by omega) W (hE.below hb h6);rw [hv] at h;exact h
 have hb:(Lib.formatBool r.pd==Lib.formatBool true)=r.pd:=Xo8 r.pd
 have hS:=fun W (hb:Below w.heap.size w W)=>Xlf (recStr r) 32 W (by omega) (hG.below (hb.mono h9)) _ (Xpd hr.p)
 have key:=Xon (recStr r) (Lib.itoa r.kind) (nmStr r.nk r.nn) (nmStr r.ak r.an) (Lib.formatBool r.pd) (Lib.decDigits r.at_.toNat) (Lib.itoa r.tr) (Lib.decDigits r.last.toNat) r.pth (Lib.formatBool true) r.kind r.at_ r.tr r.last r.nk r.nn r.ak r.an w
  hS
  (fun W=>atoi _ _ ek (Xgz hr.k.1) W)
  (hP _ _ d4 v4)
  (fun W=>atoi _ _ et (Xgz hr.t.1) W)
  (hP _ _ d6 v6)
  (hN _ _ hr.n n1 l1)
  (hN _ _ hr.a m1 l2)
  (fun W=>Xne true W)
  (fun W=>clone r.pth (by have:=hok.p1;omega) W)
  (fun W hb'=>by
   rw [hb]
   exact Xg4 r hok W (hE.below hb' h6) (Nat.le_trans h6 hb'.size))
 rw [hb] at key;exact key
theorem Xmm (rs:List Yf) (r:Yf):Yi (rs ++ [r])=Yi rs++r.cells.toList:=by simp [Yi]
theorem Xg0 {α:Type} {l:List α} {k:Nat} {x:α} (h:l[k]? = some x):l.take (k+1)=l.take k ++ [x]:=by rw [List.take_add_one,h];rfl
theorem Tryz.Xr6 (rs:List Yf) (hne:rs ≠ []) (hr:∀ r∈rs,r.Xms) (hn:rs.length<=1000) (w:World) (hE:Env w) (h9:9<=w.heap.size) (hG:Ja w) :
  Calls prog 186 #[.string ⟨(recTxt rs).toArray⟩] w fun e w'=>∃ v,e=.returned (.tuple #[v,.bool true])/\w'.ownsRow w.heap.size 135 10 v rs.length (Yi rs)/\Below w.heap.size w w':=by
 have hlen:=Zx rs (fun r h=>(hr r h).ok);have hSp:=Xlf (recTxt rs) 59 w (by omega) hG _ (Xot hne (fun r h=>(hr r h).p));rw [List.length_map] at hSp;obtain⟨i0,hi,hz0,hz1,hz2⟩:=info_parts Xbo;have bS:=BoxN.new w 9 ((rs.map recStr).map (fun x=>Value.string ⟨x.toArray⟩)).toArray;have hB0:Below w.heap.size w (w.alloc (.cells ((rs.map recStr).map (fun x=>Value.string ⟨x.toArray⟩)).toArray 9)):=(Below.refl _ w).alloc (Nat.le_refl _) _
 have hz:(w.alloc (.cells ((rs.map recStr).map (fun x=>Value.string ⟨x.toArray⟩)).toArray 9)).heap.size=w.heap.size+1:=by simp
 have hPO:=fun(r:Yf) (h:r∈rs) W (hb:Below w.heap.size w W)=>Xps r (hr r h) W (hE.below hb (by omega)) (Nat.le_trans h9 hb.size) (hG.below (hb.mono h9))
 have hcell:∀(i:Nat) (r:Yf),rs[i]? = some r->((rs.map recStr).map (fun x=>Value.string ⟨x.toArray⟩)).toArray[i]? = some (.string ⟨(recStr r).toArray⟩):=fun i r h=>by simp [h]
 generalize ((rs.map recStr).map (fun x=>Value.string ⟨x.toArray⟩)).toArray=strs at *;generalize recTxt rs=txt at *
 obtain⟨n,hnn⟩:∃ n,rs.length=n:=⟨_,rfl⟩
 rw [hnn] at hn hlen hSp ⊢;have Hn:=Xb hnn;clear hnn hlen hne
 obtain⟨w0,hw0⟩:∃ w0,w.alloc (.cells strs 9)=w0:=⟨_,rfl⟩
 rw [hw0] at hSp bS hB0 hz;have Hz:=Xb hz;clear hw0 hz;go_enter func186,ntmps186
 go_wp2_with (go_at_call 184;refine hSp.mono ?_;rintro e w1 ⟨rfl,hw1⟩;subst w1)
 go_loopw [4,12] (fun v j wq=>∃ i:Nat,i<=n/\j=.int .i64 i/\wq.ownsRow w0.heap.size 135 10 v i (Yi (rs.take i))/\Below w0.heap.size w0 wq) (fun _ j _=>n-(intOf j).toNat)
 case atStart=>exact⟨0,Nat.zero_le _,rfl,World.ownsRow_nil _ _ _ _,Below.refl _ _⟩
 case round =>
  obtain⟨i,hil,rfl,hrow,hB⟩:=hrel;have hzq:=hB.size
  by_cases hin:i<n
  ·obtain⟨r,hri⟩:∃ r,rs[i]? = some r:=⟨rs[i]'(by have:=Xa Hn;omega),by simp [Xa Hn,hin]⟩
   have hsn:=Xb (show Yi (rs.take (i+1))=Yi (rs.take i)++r.cells.toList by rw [Xg0 hri,Xmm]);have c0:=(bS.below hB bS.lt).cell i (hcell i r hri);have hP:=hPO r (List.mem_of_getElem? hri) wr (hB0.trans (hB.mono hB0.size))
   obtain⟨fl1,hfl1⟩:∃ f,Yi (rs.take (i+1))=f:=⟨_,rfl⟩
   obtain⟨fl0,hfl0⟩:∃ f,Yi (rs.take i)=f:=⟨_,rfl⟩
   rw [hfl1,hfl0] at hsn;rw [hfl0] at hrow;have Hfl1:=Xb hfl1;clear hfl1 hfl0;generalize recStr r=txr at *;obtain⟨kind,nk,nn,ak,an,pd,at_,tr,last,pth⟩:=r;unfold Yf.cells Xi at hP hsn;simp only at hP hsn;clear hPO hcell hr
   go_wp2_with (first
    | (go_at_call 215;refine hP.mono ?_;rintro e w1 ⟨rfl,hb1⟩;have hrow1:=ownsRow_below hrow hb1;have hwl1:=hb1.size)
    | (at_builtin;refine wpList_append_own _ rfl _ _ 162 rfl w0.heap.size 135 i0 _ 10 88 underlying162 hi hz0 hz1 hz2 rfl (by decide) _ _ _ rfl ((hrow1.alloc _).alloc _) ⟨w1.heap.size+1,0,none⟩ 1 1 [.int .i64 kind,.int .i64 nk,.int .u64 (nn:Int),.int .i64 ak,.int .u64 (an:Int),.bool pd,.int .u64 at_,.int .i64 tr,.int .u64 last,.string ⟨pth.toArray⟩] rfl rfl (fun j u hu=>by rw [M8];have:=(BoxN.new (w1.alloc (.cells #[.int .i64 kind,.int .i64 nk,.int .u64 (nn:Int),.int .i64 ak,.int .u64 (an:Int),.bool pd,.int .u64 at_,.int .i64 tr,.int .u64 last,.string ⟨pth.toArray⟩] 135)) 135 #[.int .i64 kind,.int .i64 nk,.int .u64 (nn:Int),.int .i64 ak,.int .u64 (an:Int),.bool pd,.int .u64 at_,.int .i64 tr,.int .u64 last,.string ⟨pth.toArray⟩]).cell j (v:=u) (by simpa using hu);rwa [World.size_alloc] at this) (by simp [Value.oneCell']) (by unfold maxLen;omega) (by omega) (by simp;omega) ?_))
   intro v' w2 hown' hgrow hn';clear hn'
   have hbk:∀ q,u4.ownBlock=some q->w0.heap.size<=q:=fun q hq=>(hrow.lt q hq).1
   have hB2:Below w0.heap.size w0 w2:=(((hB.trans (hb1.mono hzq)).alloc (by omega) _).alloc (by simp;omega) _).grown hgrow (by simp;omega) hbk;clear hgrow hrow1 hrow hB hb1 hP c0;go_wp2
   go_roundw
   case rel=>exact⟨i+1,by omega,rfl,by rw [Xa Hfl1,Xa hsn];exact hown',hB2⟩
   case measure=>simp [intOf];omega
  obtain rfl:i=n:=by omega
  rw [List.take_of_length_le (Nat.le_of_eq (Xa Hn))] at hrow;go_wp2
  go_ret2
  exact⟨_,rfl,Vn hrow hB0.size,hB0.trans (hB.mono hB0.size)⟩
end Go.Proofs
namespace Go.Proofs
open Go.RowKit Go.Sort Go.Lib Go.Shelf Go.Maps Go.WideMaps
theorem Tryz.Xow (vb mt ml:Nat) (vx:VX) (tm:Int) (tn ln:Nat) (tks:List Xd) (lks:List Xc) (w:World) (hV:Yo w vb mt ml vx tm tn ln tks lks) (at_:Int) (a0:0<=at_) (a1:at_<=18446744073709551615) :
  Calls prog 100 #[.pointer (some ⟨vb,0,none⟩),.agg (nowR at_).cells] w fun e w'=>e=.returned (.tuple #[])/\Yo w' vb mt ml vx (max tm at_) tn ln tks lks/\Spares [vb] w w':=by
 have hB0:Below w.heap.size w (w.alloc (.cells (Xi 0 0 0 0 0 false at_ 0 0 []) 135)):=(Below.refl _ w).alloc (Nat.le_refl _) _;have bR0:=BoxN.new w 135 (Xi 0 0 0 0 0 false at_ 0 0 []);have hV0:=hV.below hB0;have lV:=hV.va.v.lt;have m2:=hV0.va.v.cell 2 (v:=.int .u64 tm) rfl;have f2:=hV0.va.v.frozen 2;have t0:=hV.t0;have t1:=hV.t1;have bV3:BoxN ((w.setCell ⟨vb,2,none⟩ (.int .u64 (max tm at_))).alloc (.cells (Xi 0 0 0 0 0 false at_ 0 0 []) 135)).drew vb 126 (Y8 vx (max tm at_) mt ml tn ln):=(hV.va.v.set 2 (.int .u64 (max tm at_))).alloc _;have hS:Spares [vb] w ((w.setCell ⟨vb,2,none⟩ (.int .u64 (max tm at_))).alloc (.cells (Xi 0 0 0 0 0 false at_ 0 0 []) 135)).drew:=(((Spares.of_below (Below.refl _ w)).set (by simp) _ _).alloc _).drew
 have hF:Yo ((w.setCell ⟨vb,2,none⟩ (.int .u64 (max tm at_))).alloc (.cells (Xi 0 0 0 0 0 false at_ 0 0 []) 135)).drew vb mt ml vx (max tm at_) tn ln tks lks:=by
  obtain⟨n1,k1,m1⟩:=hV.va.held.mapT;obtain⟨n2,k2,m2⟩:=hV.va.held.mapL;have hb6:=hS.below (B:=6) hV.va.six (fun b hb=>by rw [List.mem_singleton.1 hb];have:=hV.v9;omega);exact⟨⟨bV3,⟨⟨n1,k1,hS.map m1 (by simpa using hV.nes.1)⟩,⟨n2,k2,hS.map m2 (by simpa using hV.nes.2)⟩⟩,hV.va.ok,hV.va.env.below hb6 (Nat.le_refl _),Nat.le_trans hV.va.six hS.size⟩,hV.nt,hV.nl,by omega,by omega,hV.okT,hV.okL,hV.mne,hV.v9,hV.m9,hV.l9⟩
 have HF:=Xb (And.intro hF hS);clear hF hS bV3;unfold nowR Yf.cells;unfold Xi at *;have r6:=bR0.cell 6 (v:=.int .u64 at_) rfl;go_enter func100,ntmps100;go_wp2
 go_region
 go_wp2
 go_end0
 exact⟨rfl,(Xa HF).1,(Xa HF).2⟩
theorem Tryz.Xvg (vb mt ml:Nat) (vx:VX) (tm:Int) (s:VSt) (w:World) (hV:Yo w vb mt ml vx tm s.tn s.ln s.tks s.lks) (i:Item) (hF:i.Fits s) :
  Calls prog 100 #[.pointer (some ⟨vb,0,none⟩),.agg i.rec_.cells] w fun e w'=>e=.returned (.tuple #[])/\Yo w' vb mt ml vx tm (i.app s).tn (i.app s).ln (i.app s).tks (i.app s).lks/\Spares [vb,mt,ml] w w':=by
 cases i with
 | tok t =>
  obtain⟨h1,h2,h3,h4,h5⟩:=hF;refine(Xg8 vb mt ml vx tm s.tn s.ln s.tks s.lks w hV 0 [] t h1 h2 h3 h4 h5).mono ?_;rintro e w' ⟨rfl,hV,hS⟩;exact⟨rfl,hV,hS.mono (by simp)⟩
 | lea t =>
  obtain⟨h1,h2,h3,h4,h5⟩:=hF;refine(Xgp vb mt ml vx tm s.tn s.ln s.tks s.lks w hV t h1 h2 h3 h4 h5).mono ?_;rintro e w' ⟨rfl,hV,hS⟩;exact⟨rfl,hV,hS.mono (by simp)⟩
 | gone tk n =>
  refine(Xfc vb mt ml vx tm s.tn s.ln s.tks s.lks w hV tk n hF).mono ?_;rintro e w' ⟨rfl,hV,hS⟩;exact⟨rfl,hV,hS.mono (by simp)⟩
def inS (tm:Int) (l:Ye) (s:VSt):Nat->Int × VSt
 | 0=>(tm,s)
 | q+1=>(max tm l.tm,Yq (l.is.take q) s)
abbrev Tryz.VF (W:World) (vb mt ml:Nat) (vx:VX) (p:Int × VSt):Prop:=Yo W vb mt ml vx p.1 p.2.tn p.2.ln p.2.tks p.2.lks
theorem Tryz.countL (vb mt ml:Nat) (vx:VX) (tm:Int) (l:Ye) (s:VSt) (q:Nat) (r:Yf) (w:World) (hok:l.Ok s) (hr:l.recs[q]? = some r) (hV:VF w vb mt ml vx (inS tm l s q)) :
  Calls prog 100 #[.pointer (some ⟨vb,0,none⟩),.agg r.cells] w fun e w'=>e=.returned (.tuple #[])/\VF w' vb mt ml vx (inS tm l s (q+1))/\Spares [vb,mt,ml] w w':=by
 obtain⟨⟨h0,h1⟩,hF,-,-⟩:=hok
 cases q with
 | zero =>
  obtain rfl:nowR l.tm=r:=by simpa [Ye.recs] using hr
  refine(Xow vb mt ml vx tm s.tn s.ln s.tks s.lks w hV l.tm h0 h1).mono ?_;rintro e w' ⟨rfl,hV,hS⟩;exact⟨rfl,hV,hS.mono (by simp)⟩
 | succ q =>
  obtain⟨i,hi,rfl⟩:∃ i,l.is[q]? = some i/\i.rec_=r:=by simpa [Ye.recs,List.getElem?_map] using hr
  have h:=Xvg vb mt ml vx (max tm l.tm) (Yq (l.is.take q) s) w hV i (hF.get hi);rw [<- Xdo hi] at h;exact h
end Go.Proofs
namespace Go.Proofs
open Go.RowKit Go.Sort Go.Lib Go.Shelf Go.Maps
def tmL (tm:Int) (ls:List Ye):Int:=ls.foldl (fun t l=>max t l.tm) tm
def outS (tm:Int) (ls:List Ye) (s:VSt) (i:Nat):Int × VSt:=(tmL tm (ls.take (i-1)),playL (ls.take (i-1)) s)
theorem OkL.get:∀ {ls:List Ye} {s:VSt} {k:Nat} {l:Ye},OkL ls s->ls[k]? = some l->l.Ok (playL (ls.take k) s)
 | [],_,_,_,_,h=>by simp at h
 | a :: ls,s,0,l,h,hl=>by
  obtain rfl:a=l:=by simpa using hl
  exact h.1
 | a :: ls,s,k+1,l,h,hl=>OkL.get (ls:=ls) (s:=Yq a.is s) h.2 (by simpa using hl)
theorem Xoz {tm:Int} {ls:List Ye} {s:VSt} {k:Nat} {l:Ye} (h:ls[k]? = some l):outS tm ls s (k+1+1)=inS (outS tm ls s (k+1)).1 l (outS tm ls s (k+1)).2 l.recs.length:=by
 have e:ls.take (k+1)=ls.take k ++ [l]:=Xg0 h
 have e2:l.recs.length=l.is.length+1:=by simp [Ye.recs]
 unfold outS;rw [e2];simp only [Nat.add_sub_cancel,inS,e,tmL,playL,List.foldl_append,List.foldl_cons,List.foldl_nil,List.take_length]
theorem Xa8 {t:List UInt8} (h:Ym t):Ym (bodyL t):=(Jg _).app (Ym.cons (by decide) ((Jg _).app (Ym.cons (by decide) h)))
theorem Xr4 {ls:List Ye} {l:Ye} (h:l∈ls):(bodyL (recTxt l.recs)).length<=(textL ls).length:=by
 unfold textL
 induction ls with
 | nil=>cases h
 | cons a ls ih =>
  rw [List.flatMap_cons,List.length_append]
  rcases List.mem_cons.1 h with rfl | h
  ·have:(recLine l.recs).length=(bodyL (recTxt l.recs)).length+1:=by unfold recLine;rw [Je,List.length_cons]
   omega
  have:=ih h;omega
theorem Xje (ls:List Ye):ls.length<=(textL ls).length:=by
 unfold textL
 induction ls with
 | nil=>simp
 | cons a ls ih =>
  rw [List.flatMap_cons,List.length_append,List.length_cons]
  have:(recLine a.recs).length=(bodyL (recTxt a.recs)).length+1:=by unfold recLine;rw [Je,List.length_cons]
  omega
theorem Xb9 {ls:List Ye} (h:ls ≠ []):textL ls ≠ []:=fun e=>by
 have:=Xje ls;rw [e] at this;exact h (List.eq_nil_of_length_eq_zero (by simpa using this))
theorem Tryz.Xto (vb mt ml:Nat) (vx:VX) (tm:Int) (s:VSt) (ls:List Ye) (hok:OkL ls s) (hlen:(textL ls).length<4294967281) (w:World) (hV:VF w vb mt ml vx (tm,s)) (h9:9<=w.heap.size) (hG:Ja w) :
  Calls prog 147 #[.string ⟨(textL ls).toArray⟩,.func (.func 100) #[.pointer (some ⟨vb,0,none⟩)] #[]] w fun e w'=>e=.returned (.tuple #[])/\VF w' vb mt ml vx (tmL tm ls,playL ls s)/\Spares [vb,mt,ml] w w':=by
 have hSp:=Xlf (textL ls) 10 w hlen hG _ hok.split;rw [List.length_cons,List.length_map] at hSp;have bS:=BoxN.new w 9 (([] :: ls.map (fun l=>bodyL (recTxt l.recs))).map (fun x=>Value.string ⟨x.toArray⟩)).toArray;have hB0:Below w.heap.size w (w.alloc (.cells (([] :: ls.map (fun l=>bodyL (recTxt l.recs))).map (fun x=>Value.string ⟨x.toArray⟩)).toArray 9)):=(Below.refl _ w).alloc (Nat.le_refl _) _
 have hcell0:(([] :: ls.map (fun l=>bodyL (recTxt l.recs))).map (fun x=>Value.string ⟨x.toArray⟩)).toArray[0]? = some (.string ⟨#[]⟩):=by simp
 have hcell:∀(i:Nat) (l:Ye),ls[i]? = some l->(([] :: ls.map (fun l=>bodyL (recTxt l.recs))).map (fun x=>Value.string ⟨x.toArray⟩)).toArray[i+1]? = some (.string ⟨(bodyL (recTxt l.recs)).toArray⟩):=fun i l h=>by simp [h]
 have hle:∀ l∈ls,(bodyL (recTxt l.recs)).length<4294967281:=fun l hl=>Nat.lt_of_le_of_lt (Xr4 hl) hlen
 generalize (([] :: ls.map (fun l=>bodyL (recTxt l.recs))).map (fun x=>Value.string ⟨x.toArray⟩)).toArray=strs at *;have hend:Hid (outS tm ls s (ls.length+1)=(tmL tm ls,playL ls s)):=Xb (by simp [outS])
 have hn32:ls.length<=4294967290:=by have:=Xje ls;omega
 generalize textL ls=txt at *
 obtain⟨n,hnn⟩:∃ n,ls.length=n:=⟨_,rfl⟩
 rw [hnn] at hSp hend hn32;have Hn:=Xb hnn;have lv:=hV.va.v.lt;have lh:=hV.va.held.lt;have v9:=hV.v9;have m9:=hV.m9;have l9:=hV.l9
 have hgl:∀ {W:World},Spares [vb,mt,ml] w W->Below 9 w W:=fun hS=>hS.below h9 (fun b hb=>by
  simp only [List.mem_cons,List.not_mem_nil,or_false] at hb
  omega)
 have hV0:VF (w.alloc (.cells strs 9)) vb mt ml vx (outS tm ls s 0):=by
  have:outS tm ls s 0=(tm,s):=rfl;rw [this];exact hV.below hB0
 have hz:(w.alloc (.cells strs 9)).heap.size=w.heap.size+1:=by simp
 have hS0:Spares [vb,mt,ml] w (w.alloc (.cells strs 9)):=Spares.of_below hB0
 have nS:w.heap.size ∉ [vb,mt,ml]:=by simp;omega
 clear hnn hlen
 obtain⟨w0,hw0⟩:∃ w0,w.alloc (.cells strs 9)=w0:=⟨_,rfl⟩
 rw [hw0] at hSp bS hV0 hz hS0;clear hw0 hB0;go_enter func147,ntmps147
 go_wp2_with (go_at_call 184;refine hSp.mono ?_;rintro e w1 ⟨rfl,hw1⟩;subst w1)
 go_loopw [15] (fun j wq=>∃ i:Nat,i<=n+1/\j=.int .i64 i/\VF wq vb mt ml vx (outS tm ls s i)/\BoxN wq w.heap.size 9 strs/\Spares [vb,mt,ml] w wq) (fun j _=>n+1-(intOf j).toNat)
 case atStart=>exact⟨0,Nat.zero_le _,rfl,hV0,bS,hS0⟩
 case round =>
  obtain⟨i,hil,rfl,hVq,bSq,hSq⟩:=hrel
  have hT:=fun(x:List UInt8) (hx:x.length<4294967281) (ha:∀ b∈x,b.toNat<128)=>textOf x wr hx ha hVq.va.env (Nat.le_trans h9 hSq.size) (hG.below (hgl hSq))
  by_cases hin:i<n+1
  ·cases i with
   | zero =>
    have c0:=bSq.cell 0 hcell0;have hT0:=hT [] (by decide) (by simp);rw [show wholeB []=false by decide,show txtL [] = [] by rfl] at hT0;clear hT
    go_wp2_with (go_at_call 185;refine hT0.mono ?_;rintro e w2 ⟨rfl,hb2⟩)
    go_roundw
    case rel=>exact⟨1,by omega,rfl,hVq.below hb2,bSq.below hb2 bSq.lt,hSq.trans (Spares.of_below hb2)⟩
    case measure=>simp [intOf]
   | succ k =>
    obtain⟨l,hl⟩:∃ l,ls[k]? = some l:=⟨ls[k]'(by have:=Xa Hn;omega),by simp⟩
    have hlm:=List.mem_of_getElem? hl;have c0:=bSq.cell (k+1) (hcell k l hl)
    have hlk:l.Ok (outS tm ls s (k+1)).2:=by simpa [outS] using hok.get hl
    have hstep:=Xb (Xoz (tm:=tm) (s:=s) hl);have hbk:=hlk.back;have hasc:Ym (bodyL (recTxt l.recs)):=Xa8 (Mh _ (fun r hr=>(hbk r hr).c));have hT0:=hT (bodyL (recTxt l.recs)) (hle l hlm) hasc;have htl:=Zx l.recs (fun r hr=>(hbk r hr).ok)
    have hm0:0<l.recs.length:=by simp [Ye.recs]
    have hm1:l.recs.length<=501:=by have:=hlk.2.2.2;simp [Ye.recs];omega
    rw [(Xbd _ (by omega)).1,(Xbd _ (by omega)).2] at hT0
    have hPa:=fun W (hb:Below wr.heap.size wr W)=>Xr6 l.recs (fun e=>by rw [e] at hm0;simp at hm0) hbk (by omega) W (hVq.below hb).va.env (by have:=hSq.size;have:=hb.size;omega) (hG.below ((hgl hSq).trans (hb.mono (by have:=hSq.size;omega))))
    have hC:=fun q r hr W=>countL vb mt ml vx (outS tm ls s (k+1)).1 l (outS tm ls s (k+1)).2 q r W hlk hr
    have hstart:outS tm ls s (k+1)=inS (outS tm ls s (k+1)).1 l (outS tm ls s (k+1)).2 0:=rfl;rw [hstart] at hVq;generalize outS tm ls s (k+1)=o1 at *;generalize bodyL (recTxt l.recs)=bod at *;generalize recTxt l.recs=rtx at *;generalize hrecs:l.recs=recs at *
    obtain⟨m,hmm⟩:∃ m,recs.length=m:=⟨_,rfl⟩
    rw [hmm] at hm0 hm1 hPa hstep;have Hm:=Xb hmm;clear hmm hT hle hcell hcell0 hasc hbk htl hlk hl hstart
    go_wp2_with (first
     | (go_at_call 185;refine hT0.mono ?_;rintro e w2 ⟨rfl,hb2⟩)
     | (go_at_call 186;refine(hPa _ hb2).mono ?_;rintro e w3 ⟨v,rfl,hown,hb3⟩;obtain⟨g,cap,rfl,hg1,hg2⟩:=hown.form hm0))
    have hR3:Zi w3 g recs:=Xcm (B:=w2.heap.size) (cap:=cap) (n:=m) (e:=135) hown;have hb4:Below wr.heap.size wr w3:=hb2.trans (hb3.mono hb2.size);have hV3:=hVq.below hb4;have bS3:=bSq.below hb4 bSq.lt;have hS3:=hSq.trans (Spares.of_below hb4)
    have ngb:g ∉ [vb,mt,ml]:=by have:=hVq.va.v.lt;have:=hVq.va.held.lt;have:=hb2.size;simp;omega
    clear hown hb3 hb2 hPa hT0 c0
    go_loopw [33] (fun j wq=>∃ q:Nat,q<=m/\j=.int .i64 q/\VF wq vb mt ml vx (inS o1.1 l o1.2 q)/\Zi wq g recs/\g<wq.heap.size/\BoxN wq w.heap.size 9 strs/\Spares [vb,mt,ml] w wq) (fun j _=>m-(intOf j).toNat)
    case atStart=>exact⟨0,Nat.zero_le _,rfl,hV3,hR3,hg2,bS3,hS3⟩
    case round =>
     clear hVq bSq hSq hV3 hR3 bS3 hS3 hb4;obtain⟨q,hq,rfl,hVq,hRq,hgq,bSq,hSq⟩:=hrel
     by_cases hqm:q<m
     ·obtain⟨r,hr⟩:∃ r,recs[q]? = some r:=⟨recs[q]'(by have:=Xa Hm;omega),by simp [Xa Hm,hqm]⟩
      have hrk:=hRq q r hr;have hB1:Below wr.heap.size wr (wr.alloc (.cells r.cells 135)):=(Below.refl _ _).alloc (Nat.le_refl _) _;have hC1:=hC q r hr _ (hVq.below hB1);have HB1:=Xb hB1;unfold Yf.cells Xi at hrk hC1 hB1;have x0:=hrk 0 _ rfl;have x1:=hrk 1 _ rfl;have x2:=hrk 2 _ rfl;have x3:=hrk 3 _ rfl;have x4:=hrk 4 _ rfl;have x5:=hrk 5 _ rfl;have x6:=hrk 6 _ rfl;have x7:=hrk 7 _ rfl;have x8:=hrk 8 _ rfl;have x9:=hrk 9 _ rfl;simp only [Nat.add_zero] at x0;obtain⟨kind,nk,nn,ak,an,pd,at_,tr,last,pth⟩:=r;simp only at x0 x1 x2 x3 x4 x5 x6 x7 x8 x9 hC1 hB1;clear hrk hC
      go_wp2_with (go_at_call 100;refine hC1.mono ?_;rintro e w4 ⟨rfl,hV4,hS4⟩)
      have hsp:Spares [vb,mt,ml] wr w4:=(Spares.of_below hB1).trans hS4;clear x0 x1 x2 x3 x4 x5 x6 x7 x8 x9 hC1
      go_roundw
      case rel=>exact⟨q+1,by omega,rfl,hV4,hRq.spared hsp hgq ngb,Nat.lt_of_lt_of_le hgq hsp.size,hsp.box bSq nS,hSq.trans hsp⟩
      case measure=>simp [intOf];omega
     obtain rfl:q=m:=by omega
     rw [<- Xa hstep] at hVq;go_wp2
     go_roundw
     case rel=>exact⟨k+1+1,by omega,rfl,hVq,bSq,hSq⟩
     case measure=>simp [intOf];omega
  obtain rfl:i=n+1:=by omega
  rw [Xa hend] at hVq;go_wp2
  go_end0
  exact⟨rfl,hVq,hSq⟩
end Go.Proofs
