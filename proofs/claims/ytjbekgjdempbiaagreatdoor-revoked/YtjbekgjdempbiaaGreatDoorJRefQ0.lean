import Derived.Test.YtjbekgjdempbiaaGreatDoorJRefG
import Derived.BigQuiet
set_option maxRecDepth 100000
set_option maxHeartbeats 8000000
namespace Go.Proofs
open Go.RowKit Go.Sort Go.Lib Go.Shelf
theorem Tryz.rCreate_miss (B:Nat) (vb g cap:Nat) (L:List ThingD) (tm tn ln:Int) (id:List UInt8) (w:World) (h:RVAt B w vb g cap L tm tn ln) (hli:liveI tm id true L = -1) :
  Calls prog 109 #[.pointer (some ⟨vb,0,none⟩),.string ⟨id.toArray⟩] w fun e w'=>e=.returned (.tuple #[.string ⟨#[]⟩,.int .i64 1])∧Below w.heap.size w w':=by
 have hL:=rLive B vb g cap L tm tn ln id true w h;rw [hli] at hL;go_enter func109,ntmps109
 go_wp2_with (go_at_call 154;refine hL.mono ?_;rintro e w1 ⟨rfl,hb1⟩)
 exact bodyPost_ret (v:=.tuple #[.string ⟨#[]⟩,.int .i64 1]) (by simp [results,results109,go_sem]) rfl ⟨rfl,hb1⟩
theorem Tryz.rCreate_many (B:Nat) (vb g cap:Nat) (L:List ThingD) (tm tn ln:Int) (id:List UInt8) (w:World) (h:RVAt B w vb g cap L tm tn ln) (i:Nat) (hli:liveI tm id true L=i) (hc:countI true L=10) :
  Calls prog 109 #[.pointer (some ⟨vb,0,none⟩),.string ⟨id.toArray⟩] w fun e w'=>e=.returned (.tuple #[.string ⟨#[]⟩,.int .i64 4])∧Below w.heap.size w w':=by
 have hL:=rLive B vb g cap L tm tn ln id true w h;rw [hli] at hL
 have hC:=fun W (hb:Below w.heap.size w W)=>rCount B vb g cap L tm tn ln true W (h.below hb)
 rw [hc] at hC
 have hnn:¬ (i:Int)<0:=by omega
 go_enter func109,ntmps109
 go_wp2_with (first
  | (go_at_call 154;refine hL.mono ?_;rintro e w1 ⟨rfl,hb1⟩)
  | (go_at_call 155;refine(hC _ hb1).mono ?_;rintro e w2 ⟨rfl,rfl⟩))
 exact bodyPost_ret (v:=.tuple #[.string ⟨#[]⟩,.int .i64 4]) (by simp [results,results109,go_sem]) rfl ⟨rfl,hb1⟩
def issueE (tm:Int) (id pth:List UInt8) (ttl most:Int) (L:List ThingD):Int:=
 if liveI tm id true L<0 then 1 else if pathI pth=false then 2 else if ttl=0∨most<ttl then 3 else if countI false L=14 then 4 else 0
theorem Tryz.rIssue_err (B:Nat) (vb g cap:Nat) (L:List ThingD) (tm tn ln:Int) (id pth:List UInt8) (ttl most:Int) (w:World) (h:RVAt B w vb g cap L tm tn ln) (hp:pth.length≤9223372036854775807) (he:issueE tm id pth ttl most L≠0) :
  Calls prog 111 #[.pointer (some ⟨vb,0,none⟩),.string ⟨id.toArray⟩,.string ⟨pth.toArray⟩,.int .u64 ttl,.int .u64 most] w fun e w'=>e=.returned (.tuple #[.string ⟨#[]⟩,.int .i64 (issueE tm id pth ttl most L)])∧Below w.heap.size w w':=by
 have hL:=rLive B vb g cap L tm tn ln id true w h
 have hC:=fun W (hb:Below w.heap.size w W)=>rCount B vb g cap L tm tn ln false W (h.below hb)
 have hP:=fun W=>rPathed pth hp W
 have hr:Hid (issueE tm id pth ttl most L=if liveI tm id true L<0 then 1 else if pathI pth=false then 2 else if ttl=0∨most<ttl then 3 else if countI false L=14 then 4 else 0):=hid_intro rfl;generalize issueE tm id pth ttl most L=r at *;generalize liveI tm id true L=i at *;generalize pathI pth=pb at *;generalize countI false L=n at *
 by_cases h1:i<0
 ·obtain rfl:r=1:=by rw [hid_elim hr,if_pos h1]
  clear hr he;go_enter func111,ntmps111
  go_wp2_with (first
   | (go_at_call 154;refine hL.mono ?_;rintro e w1 ⟨rfl,hb1⟩)
   | (go_at_call 156;refine(hP _).mono ?_;rintro e w2 ⟨rfl,rfl⟩)
   | (go_at_call 155;refine(hC _ hb1).mono ?_;rintro e w3 ⟨rfl,rfl⟩))
  exact bodyPost_ret (v:=.tuple #[.string ⟨#[]⟩,.int .i64 1]) (by simp [results,results111,go_sem]) rfl ⟨rfl,hb1⟩
 ·by_cases h2:pb=false
  ·obtain rfl:r=2:=by rw [hid_elim hr,if_neg h1,if_pos h2]
   subst h2;clear hr he;go_enter func111,ntmps111
   go_wp2_with (first
    | (go_at_call 154;refine hL.mono ?_;rintro e w1 ⟨rfl,hb1⟩)
    | (go_at_call 156;refine(hP _).mono ?_;rintro e w2 ⟨rfl,rfl⟩)
    | (go_at_call 155;refine(hC _ hb1).mono ?_;rintro e w3 ⟨rfl,rfl⟩))
   exact bodyPost_ret (v:=.tuple #[.string ⟨#[]⟩,.int .i64 2]) (by simp [results,results111,go_sem]) rfl ⟨rfl,hb1⟩
  ·obtain rfl:pb=true:=by simpa using h2
   by_cases h3:ttl=0∨most<ttl
   ·obtain rfl:r=3:=by rw [hid_elim hr,if_neg h1,if_neg h2,if_pos h3]
    clear hr he h2
    by_cases h0:ttl=0
    ·subst h0
     clear h3;go_enter func111,ntmps111
     go_wp2_with (first
      | (go_at_call 154;refine hL.mono ?_;rintro e w1 ⟨rfl,hb1⟩)
      | (go_at_call 156;refine(hP _).mono ?_;rintro e w2 ⟨rfl,rfl⟩)
      | (go_at_call 155;refine(hC _ hb1).mono ?_;rintro e w3 ⟨rfl,rfl⟩))
     exact bodyPost_ret (v:=.tuple #[.string ⟨#[]⟩,.int .i64 3]) (by simp [results,results111,go_sem]) rfl ⟨rfl,hb1⟩
    ·have h0':(ttl==0)=false:=by simpa using h0
     have h3':most<ttl:=h3.resolve_left h0;clear h3 h0;go_enter func111,ntmps111
     go_wp2_with (first
      | (go_at_call 154;refine hL.mono ?_;rintro e w1 ⟨rfl,hb1⟩)
      | (go_at_call 156;refine(hP _).mono ?_;rintro e w2 ⟨rfl,rfl⟩)
      | (go_at_call 155;refine(hC _ hb1).mono ?_;rintro e w3 ⟨rfl,rfl⟩))
     exact bodyPost_ret (v:=.tuple #[.string ⟨#[]⟩,.int .i64 3]) (by simp [results,results111,go_sem]) rfl ⟨rfl,hb1⟩
   ·by_cases h4:n=14
    ·obtain rfl:r=4:=by rw [hid_elim hr,if_neg h1,if_neg h2,if_neg h3,if_pos h4]
     subst h4
     have h0':(ttl==0)=false:=by simp;omega
     have h3':¬ most<ttl:=by omega
     clear hr he h2 h3;go_enter func111,ntmps111
     go_wp2_with (first
      | (go_at_call 154;refine hL.mono ?_;rintro e w1 ⟨rfl,hb1⟩)
      | (go_at_call 156;refine(hP _).mono ?_;rintro e w2 ⟨rfl,rfl⟩)
      | (go_at_call 155;refine(hC _ hb1).mono ?_;rintro e w3 ⟨rfl,rfl⟩))
     exact bodyPost_ret (v:=.tuple #[.string ⟨#[]⟩,.int .i64 4]) (by simp [results,results111,go_sem]) rfl ⟨rfl,hb1⟩
    ·exact absurd (by rw [hid_elim hr,if_neg h1,if_neg h2,if_neg h3,if_neg h4]) he
theorem flatT_setF:∀(L:List ThingD) (i j:Nat) (t t':ThingD) (v:Value),L[i]? = some t→j<8→t'.cells=t.cells.setIfInBounds j v→flatT (L.set i t')=(flatT L).set (i*8+j) v
 | [],_,_,_,_,_,h,_,_=>by simp at h
 | x :: xs,0,j,t,t',v,h,hj,hc=>by
  obtain rfl:x=t:=by simpa using h
  show t'.cells.toList++flatT xs=(x.cells.toList++flatT xs).set (0*8+j) _
  rw [List.set_append_left _ _ (by rw [ThingD.cells_size];omega),hc,Array.toList_setIfInBounds,show 0*8+j=j by omega]
 | x :: xs,i+1,j,t,t',v,h,hj,hc=>by
  show x.cells.toList++flatT (xs.set i t')=(x.cells.toList++flatT xs).set ((i+1)*8+j) _
  rw [List.set_append_right _ _ (by rw [ThingD.cells_size];omega),ThingD.cells_size,show (i+1)*8+j-8=i*8+j by omega,flatT_setF xs i j t t' v (by simpa using h) hj hc]
theorem Tryz.RVAt.setF {B:Nat} {W:World} {vb g cap:Nat} {L:List ThingD} {tm tn ln:Int} (h:RVAt B W vb g cap L tm tn ln) (hne:vb≠g) {i j:Nat} {t t':ThingD} (hi:L[i]? = some t) (hj:j<8) (v:Value) (hc:t'.cells=t.cells.setIfInBounds j v) (hn:t'.n=t.n) (ho:t'.of_=t.of_) :
  RVAt B (W.setCell ⟨g,i*8+j,none⟩ v) vb g cap (L.set i t') tm tn ln:=by
 have hlen:(L.set i t').length=L.length:=List.length_set ..
 have hmem:∀ x∈L.set i t',x∈L∨x=t':=fun x hx=>List.mem_or_eq_of_mem_set hx
 have htm:t∈L:=List.mem_of_getElem? hi;refine⟨?_,?_,?_,?_,?_⟩
 ·rw [hlen];exact h.v.other hne _ _
 ·rw [hlen]
  obtain⟨h1,⟨e1,-⟩ | ⟨g',cap',cur,e1,e2,e3,e4,e5,e6,e7⟩⟩:=h.row
  ·cases e1
  ·cases e1
   refine⟨by rw [flatT_length,hlen],.inr ⟨g,cap,cur.setIfInBounds (i*8+j) v,rfl,e2,?_,e4,e5,by simpa using e6,?_⟩⟩
   ·exact BoxN.set (W:=W) (t:=105) (cs:=cur) e3 (i*8+j) v
   ·rw [Array.toList_setIfInBounds,List.take_set,e7,flatT_setF L i j t t' v hi hj hc]
 ·rw [hlen];exact h.lim
 ·intro x hx;rcases hmem x hx with hx | rfl
  ·exact h.num x hx
  ·rw [hn];exact h.num t htm
 ·intro x hx;rcases hmem x hx with hx | rfl
  ·exact h.ofs x hx
  ·unfold ThingD.OfOk;rw [ho];exact h.ofs t htm
def doomAt (tm:Int) (t:ThingD):ThingD:=if t.state tm=1 then { t with doomed:=true,at_:=tm } else t
theorem Tryz.RVAt.doomed1 {B:Nat} {W:World} {vb g cap:Nat} {L:List ThingD} {tm tn ln:Int} (h:RVAt B W vb g cap L tm tn ln) (hne:vb≠g) {i:Nat} {t:ThingD} (hi:L[i]? = some t) :
  RVAt B (W.setCell ⟨g,i*8+6,none⟩ (.bool true)) vb g cap (L.set i { t with doomed:=true }) tm tn ln:=
 h.setF hne hi (j:=6) (t':={ t with doomed:=true }) (by omega) (.bool true) rfl rfl rfl
theorem Tryz.RVAt.doomed2 {B:Nat} {W:World} {vb g cap:Nat} {L:List ThingD} {tm tn ln:Int} {i:Nat} {t:ThingD} (h:RVAt B W vb g cap (L.set i { t with doomed:=true }) tm tn ln) (hne:vb≠g) (hi:L[i]? = some t) (hs:t.state tm=1) :
  RVAt B (W.setCell ⟨g,i*8+4,none⟩ (.int .u64 tm)) vb g cap (L.set i (doomAt tm t)) tm tn ln:=by
 have hil:i<L.length:=(List.getElem?_eq_some_iff.1 hi).1;have h2:=h.setF hne (i:=i) (j:=4) (t:={ t with doomed:=true }) (t':={ t with doomed:=true,at_:=tm }) (by simp [hil]) (by omega) (.int .u64 tm) rfl rfl rfl;rw [List.set_set] at h2;rw [doomAt,if_pos hs];exact h2
abbrev DoomP (g vb i:Nat) (s:Value) (tm:Int) (W:World):Prop:=W.cell? ⟨vb,0,none⟩=some s∧W.cell? ⟨vb,1,none⟩=some (.int .u64 tm)∧W.cell? ⟨g,i*8+4,none⟩=some (cellOr W ⟨g,i*8+4,none⟩)∧W.frozen? ⟨g,i*8+4,none⟩=false
theorem Tryz.RVAt.doomP {B:Nat} {W:World} {vb g cap len:Nat} {L:List ThingD} {tm tn ln:Int} (h:RVAt B W vb g cap L tm tn ln) (hl:L.length=len) {i:Nat} (hi:i<L.length):DoomP g vb i (.slice (some ⟨g,0,none⟩) len cap) tm W.drew:=by
 subst hl
 obtain⟨t,ht⟩:∃ t,L[i]? = some t:=⟨L[i],by simp [hi]⟩
 exact⟨h.v.cell 0 rfl,h.v.cell 1 rfl,cellOr_some (by show (W.cell? _).isSome;rw [(h.cells ht).2.2.2.2.1];rfl),h.frozenG _⟩
theorem Tryz.rDoom (B:Nat) (vb g cap:Nat) (L:List ThingD) (tm tn ln:Int) (w:World) (h:RVAt B w vb g cap L tm tn ln) (hB:B≤w.heap.size) (hne:vb≠g) (i:Nat) (t:ThingD) (ht:L[i]? = some t) :
  Calls prog 158 #[.pointer (some ⟨vb,0,none⟩),.int .i64 i] w fun e w'=>e=.returned (.tuple #[])∧RVAt B w' vb g cap (L.set i (doomAt tm t)) tm tn ln∧Below B w w'∧Spares [vb,g] w w':=by
 have hS:=fun W (hb:Below w.heap.size w W)=>rState t vb tm W ((h.below hb).v.cell 1 (v:=.int .u64 tm) rfl)
 simp only [ThingD.cells] at hS;have hlim:=h.lim;have hil:i<L.length:=(List.getElem?_eq_some_iff.1 ht).1;have hgB:B≤g:=(h.row.lt g rfl).1
 have hc:=fun W (hb:Below w.heap.size w W)=>(h.below hb).cells ht
 have hv:=fun W (hb:Below w.heap.size w W)=>(h.below hb).v.cell 0 (v:=.slice (some ⟨g,0,none⟩) L.length cap) rfl
 have hv1:=fun W (hb:Below w.heap.size w W)=>(h.below hb).v.cell 1 (v:=.int .u64 tm) rfl
 have hfz:=fun W (hb:Below w.heap.size w W)=>(h.below hb).frozenG (i*8+4)
 have hfz6:=fun W (hb:Below w.heap.size w W)=>(h.below hb).frozenG (i*8+6)
 have hset1:=hid_intro (fun W (hb:Below w.heap.size w W)=>(h.below hb).doomed1 hne ht);have hset2:=hid_intro (fun W (h':RVAt B W vb g cap (L.set i { t with doomed:=true }) tm tn ln) (hs:t.state tm=1)=>h'.doomed2 hne ht hs);have hsame:=hid_intro (fun W (hb:Below w.heap.size w W) (hs:¬ t.state tm=1)=>(show RVAt B W vb g cap (L.set i (doomAt tm t)) tm tn ln from by rw [doomAt,if_neg hs,set_same ht];exact h.below hb));obtain⟨x0,x1,x2,x3,x4,x5,x6,x7⟩:=hc w (Below.refl _ _);have v0:=hv w (Below.refl _ _);have v1:=hv1 w (Below.refl _ _)
 obtain⟨len,hlen⟩:∃ len,L.length=len:=⟨_,rfl⟩
 rw [hlen] at hil hlim v0;simp only [hlen] at hv;have Hlen:=hid_intro hlen;clear hlen
 by_cases hs:t.state tm=1
 ·have hs':=hid_intro hs
  simp only [hs] at hS;clear hs;go_enter func158,ntmps158
  go_wp2_with (go_at_call 150;refine(hS _ (by first | exact Below.refl _ _ | exact((Below.refl _ _).drew))).mono ?_;rintro e w1 ⟨rfl,hb1⟩;have y0:=hv w1 hb1;have fz6:=hfz6 w1 hb1)
  clear hS;have r1:=hid_elim hset1 w1 hb1;have r2:=hid_elim hset2 _ r1 (hid_elim hs');have p1:=r1.doomP (len:=len) (i:=i) (by rw [List.length_set];exact hid_elim Hlen) (by rw [List.length_set,hid_elim Hlen];exact hil);have p2:=r2.doomP (len:=len) (i:=i) (by rw [List.length_set];exact hid_elim Hlen) (by rw [List.length_set,hid_elim Hlen];exact hil);have R2:=hid_intro r2;clear r1 r2
  go_region_held3 (DoomP g vb i (.slice (some ⟨g,0,none⟩) len cap) tm) (first
   | with_reducible exact p1
   | with_reducible exact p2
   | with_reducible assumption) (fail)
  all_goals
   go_wp2
   go_end0
   exact⟨rfl,(hid_elim R2).below (Grew.below (Grew.refl _).drew),(((hb1.mono hB).setCell (p:=⟨g,i*8+6,none⟩) hgB _).setCell (p:=⟨g,i*8+4,none⟩) hgB _).drew,(((Spares.of_below hb1).set (by simp) _ _).set (by simp) _ _).drew⟩
 ·have hs':=hid_intro hs
  have h2:(t.state tm==1)=false:=by simpa using hs
  clear hs;generalize t.state tm=st at *;go_enter func158,ntmps158
  go_wp2_with (go_at_call 150;refine(hS _ (by first | exact Below.refl _ _ | exact((Below.refl _ _).drew))).mono ?_;rintro e w1 ⟨rfl,hb1⟩)
  go_end0
  exact⟨rfl,hid_elim hsame _ hb1 (hid_elim hs'),hb1.mono hB,Spares.of_below hb1⟩
theorem Tryz.rTell (B:Nat) (vb g cap:Nat) (L:List ThingD) (tm tn ln:Int) (now:Int) (w:World) (h:RVAt B w vb g cap L tm tn ln) (hvB:B≤vb) (hne:vb≠g) :
  Calls prog 102 #[.pointer (some ⟨vb,0,none⟩),.int .u64 now] w fun e w'=>e=.returned (.tuple #[])∧RVAt B w' vb g cap L (max tm now) tn ln∧Below B w w'∧Spares [vb,g] w w':=by
 have v1:=h.v.cell 1 (v:=.int .u64 tm) rfl;have fz:=h.v.frozen 1;have hset:Hid (RVAt B (w.setCell ⟨vb,1,none⟩ (.int .u64 now)) vb g cap L now tn ln):=hid_intro ⟨h.v.set 1 (.int .u64 now),(Spares.set (bs:=[vb]) (Spares.of_below (Below.refl _ w)) (by simp) _ _).row h.row (by simpa using Ne.symm hne),h.lim,h.num,h.ofs⟩
 by_cases hl:tm<now
 ·have hm:Hid (max tm now=now):=hid_intro (by omega)
  go_enter func102,ntmps102;go_wp2
  go_end0
  exact⟨rfl,by rw [hid_elim hm];exact hid_elim hset,(Below.refl _ _).setCell (p:=⟨vb,1,none⟩) hvB _,(Spares.of_below (Below.refl _ _)).set (by simp) _ _⟩
 ·have hm:Hid (max tm now=tm):=hid_intro (by omega)
  go_enter func102,ntmps102;go_wp2
  go_end0
  exact⟨rfl,by rw [hid_elim hm];exact h,Below.refl _ _,Spares.of_below (Below.refl _ _)⟩
def freeI (n:Int) (L:List ThingD):Bool:=L.all (fun t=>!(t.of_==n))
theorem Tryz.rFree (B:Nat) (vb g cap:Nat) (L:List ThingD) (tm tn ln:Int) (n:Int) (w:World) (h:RVAt B w vb g cap L tm tn ln) :
  Calls prog 152 #[.pointer (some ⟨vb,0,none⟩),.int .i64 n] w fun e w'=>e=.returned (.bool (freeI n L))∧w'=w:=by
 have c0:=h.v.cell 0 (v:=.slice (some ⟨g,0,none⟩) L.length cap) rfl;have hlim:=h.lim
 obtain⟨len,hlen⟩:∃ len,L.length=len:=⟨_,rfl⟩
 rw [hlen] at c0 hlim;have Hlen:=hid_intro hlen;clear hlen;go_enter func152,ntmps152;go_wp2
 go_loopw [5] (fun i wr=>∃ k:Nat,k≤len∧i=.int .i64 k∧Hid (∀ x∈L.take k,x.of_≠n)∧wr=w) (fun i _=>len-(intOf i).toNat)
 case atStart=>exact⟨0,Nat.zero_le _,rfl,hid_intro (by simp),rfl⟩
 case round =>
  obtain⟨k,hk,rfl,hno,rfl⟩:=hrel
  by_cases hkl:k<len
  ·obtain⟨t,ht⟩:∃ t,L[k]? = some t:=⟨L[k]'(by have:=hid_elim Hlen;omega),by simp [hid_elim Hlen,hkl]⟩
   obtain⟨-,-,hc,-⟩:=h.cells ht;have htk:=hid_intro (take_get ht);have hmem:=hid_intro (List.mem_of_getElem? ht)
   by_cases ho:t.of_=n
   ·have hres:Hid (freeI n L=false):=hid_intro (by
     rw [freeI,List.all_eq_false];exact⟨t,hid_elim hmem,by simp [ho]⟩)
    rw [ho] at hc;clear ho;go_wp2;go_ret;exact⟨by rw [hid_elim hres];rfl,rfl⟩
   ·have hno':Hid (∀ x∈L.take k ++ [t],x.of_≠n):=hid_intro (fun x hx=>by
     rcases List.mem_append.1 hx with hx | hx
     ·exact hid_elim hno x hx
     ·rw [List.mem_singleton.1 hx];exact ho)
    have hne:(t.of_==n)=false:=by simpa using ho
    clear ho;generalize t.of_=o at *;go_wp2
    go_roundw
    case rel=>exact⟨k+1,by omega,rfl,by rw [hid_elim htk];exact hno',by first | rfl | trivial⟩
    case measure=>simp [intOf];omega
  ·obtain rfl:k=len:=by omega
   have htk:=hid_intro (take_all (Nat.le_of_eq (hid_elim Hlen)))
   have hres:Hid (freeI n L=true):=hid_intro (by
    have hh:=hid_elim hno;rw [hid_elim htk] at hh
    rw [freeI,List.all_eq_true];intro x hx;simpa using hh x hx)
   go_wp2;go_ret;exact⟨by rw [hid_elim hres];rfl,rfl⟩
def StrRow (W:World) (v:Value) (xs:List (List UInt8)):Prop:=
 ∃ p cap,v=.slice p xs.length cap∧∀(k:Nat) (x:List UInt8),xs[k]? = some x→∃ q,p=some ⟨q,0,none⟩∧q<W.heap.size∧W.cell? ⟨q,k,none⟩=some (.string ⟨x.toArray⟩)
def hasB (xs:List (List UInt8)) (id:List UInt8):Bool:=xs.any (fun x=>x==id)
theorem hasB_snoc (xs:List (List UInt8)) (x id:List UInt8):hasB (xs ++ [x]) id=(hasB xs id||(x==id)):=by simp [hasB]
def dueB (tm:Int) (L:List ThingD) (xs:List (List UInt8)) (t:ThingD):Bool:=
 t.state tm==2&&(decide (t.at_≤tm)&&((!t.token||freeI t.n L) && !hasB xs t.id))
def firstB (t u:ThingD):Bool:=decide (t.at_<u.at_)||(t.at_==u.at_&&((!t.token&&u.token)||(t.token==u.token&&decide ((t.n:Int)<u.n))))
theorem firstB_eq (t u:ThingD):firstB t u=(decide (t.at_<u.at_)||(t.at_==u.at_&&((!t.token&&u.token)||(t.token==u.token&&decide ((t.n:Int)<u.n))))):=rfl
def dueK (p:ThingD→Bool) (L:List ThingD):Nat→Option Nat
 | 0=>none
 | k+1=>match L[k]? with
  | none=>dueK p L k
  | some t=>if p t then (match dueK p L k with
    | none=>some k
    | some b=>match L[b]? with
     | none=>some k
     | some u=>if firstB t u then some k else some b) else dueK p L k
def dueV:Option Nat→Int
 | none=>-1
 | some k=>k
theorem dueK_lt (p:ThingD→Bool) (L:List ThingD):∀(k:Nat) {b:Nat},dueK p L k=some b→b<k∧b<L.length
 | 0,b,h=>by simp [dueK] at h
 | k+1,b,h=>by
  have ih:=fun {b:Nat}=>dueK_lt p L k (b:=b)
  unfold dueK at h
  cases hk:L[k]? with
  | none=>rw [hk] at h;have:=ih h;omega
  | some t =>
   have hkl:=(List.getElem?_eq_some_iff.1 hk).1;rw [hk] at h;simp only at h
   split at h
   ·cases hd:dueK p L k with
    | none=>rw [hd] at h;simp at h;omega
    | some c =>
     have:=ih hd;rw [hd] at h;simp only at h
     cases hc:L[c]? with
     | none=>rw [hc] at h;simp at h;omega
     | some u =>
      rw [hc] at h;simp only at h
      split at h
      ·simp at h;omega
      ·simp at h;omega
   ·have:=ih h;omega
theorem dueK_skip {p:ThingD→Bool} {L:List ThingD} {k:Nat} {t:ThingD} (ht:L[k]? = some t) (hp:p t=false):dueK p L (k+1)=dueK p L k:=by
 simp [dueK,ht,hp]
theorem dueK_new {p:ThingD→Bool} {L:List ThingD} {k:Nat} {t:ThingD} (ht:L[k]? = some t) (hp:p t=true) (hn:dueK p L k=none):dueK p L (k+1)=some k:=by
 simp [dueK,ht,hp,hn]
theorem dueK_old {p:ThingD→Bool} {L:List ThingD} {k b:Nat} {t u:ThingD} (ht:L[k]? = some t) (hp:p t=true) (hn:dueK p L k=some b) (hu:L[b]? = some u):dueK p L (k+1)=if firstB t u then some k else some b:=by
 simp [dueK,ht,hp,hn,hu]
def dueI (tm:Int) (L:List ThingD) (xs:List (List UInt8)):Option Nat:=dueK (dueB tm L xs) L L.length
end Go.Proofs
