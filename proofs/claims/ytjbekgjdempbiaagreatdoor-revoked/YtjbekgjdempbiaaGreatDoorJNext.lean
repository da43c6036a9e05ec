import Derived.Test.YtjbekgjdempbiaaGreatDoorJSpare
import Derived.Deep.RegionHeldLaw
import Derived.Deep.RegionLaw
import Derived.Deep.AppendLies
import Derived.Deep.RegionHeld3
set_option maxRecDepth 100000
set_option maxHeartbeats 8000000
namespace Go.Proofs
open Go.RowKit Go.Sort Go.Lib Go.Shelf
theorem flatT_set:∀(L:List ThingD) (i:Nat) (t:ThingD) (a:Int),L[i]? = some t→flatT (L.set i { t with at_:=a })=(flatT L).set (i*8+4) (.int .u64 a)
 | [],_,_,_,h=>by simp at h
 | x :: xs,0,t,a,h=>by
  obtain rfl:x=t:=by simpa using h
  show ({ x with at_:=a }:ThingD).cells.toList++flatT xs=(x.cells.toList++flatT xs).set (0*8+4) _
  rw [List.set_append_left _ _ (by rw [ThingD.cells_size];omega)];rfl
 | x :: xs,i+1,t,a,h=>by
  show x.cells.toList++flatT (xs.set i { t with at_:=a })=(x.cells.toList++flatT xs).set ((i+1)*8+4) _
  rw [List.set_append_right _ _ (by rw [ThingD.cells_size];omega),ThingD.cells_size,show (i+1)*8+4-8=i*8+4 by omega,flatT_set xs i t a (by simpa using h)]
theorem Tryz.RVAt.setAt {B:Nat} {W:World} {vb g cap:Nat} {L:List ThingD} {tm tn ln:Int} (h:RVAt B W vb g cap L tm tn ln) (hne:vb≠g) {i:Nat} {t:ThingD} (hi:L[i]? = some t) (a:Int) :
  RVAt B (W.setCell ⟨g,i*8+4,none⟩ (.int .u64 a)) vb g cap (L.set i { t with at_:=a }) tm tn ln:=by
 have hlen:(L.set i { t with at_:=a }).length=L.length:=List.length_set ..
 have hmem:∀ x∈L.set i { t with at_:=a },x∈L∨x = { t with at_:=a }:=fun x hx=>List.mem_or_eq_of_mem_set hx
 have htm:t∈L:=List.mem_of_getElem? hi;refine⟨?_,?_,?_,?_,?_⟩
 ·rw [hlen];exact h.v.other hne _ _
 ·rw [hlen]
  obtain⟨h1,⟨e1,-⟩ | ⟨g',cap',cur,e1,e2,e3,e4,e5,e6,e7⟩⟩:=h.row
  ·cases e1
  ·cases e1
   refine⟨by rw [flatT_length,hlen],.inr ⟨g,cap,cur.setIfInBounds (i*8+4) (.int .u64 a),rfl,e2,?_,e4,e5,by simpa using e6,?_⟩⟩
   ·exact BoxN.set (W:=W) (t:=105) (cs:=cur) e3 (i*8+4) (.int .u64 a)
   ·rw [Array.toList_setIfInBounds,List.take_set,e7,flatT_set L i t a hi]
 ·rw [hlen];exact h.lim
 ·intro x hx;rcases hmem x hx with hx | rfl
  ·exact h.num x hx
  ·exact h.num t htm
 ·intro x hx;rcases hmem x hx with hx | rfl
  ·exact h.ofs x hx
  ·exact h.ofs t htm
def renewAt (tm ttl:Int) (t:ThingD):Int:=max t.at_ (min (plusI tm ttl) t.last)
theorem set_same {α:Type} {L:List α} {i:Nat} {t:α} (h:L[i]? = some t):L.set i t=L:=by
 obtain⟨hlt,he⟩:=List.getElem?_eq_some_iff.1 h;rw [← he];exact List.set_getElem_self hlt
theorem Tryz.RVAt.frozenG {B:Nat} {W:World} {vb g cap:Nat} {L:List ThingD} {tm tn ln:Int} (h:RVAt B W vb g cap L tm tn ln) (j:Nat):W.frozen? ⟨g,j,none⟩=false:=by
 obtain⟨h1,⟨e1,-⟩ | ⟨g',cap',cur,e1,e2,e3,-⟩⟩:=h.row
 ·cases e1
 ·cases e1
  exact BoxN.frozen (W:=W) (t:=105) (cs:=cur) e3 j
theorem Tryz.rRenew_hit (B:Nat) (vb g cap:Nat) (L:List ThingD) (tm tn ln:Int) (id:List UInt8) (ttl:Int) (w:World) (h:RVAt B w vb g cap L tm tn ln) (hB:B≤w.heap.size) (hne:vb≠g) (htm:0≤tm) (h0:0≤ttl) (h1:ttl≤18446744073709551615)
  (i:Nat) (t:ThingD) (ht:L[i]? = some t) (hli:liveI tm id false L=i) :
  Calls prog 112 #[.pointer (some ⟨vb,0,none⟩),.string ⟨id.toArray⟩,.int .u64 ttl] w fun e w'=>e=.returned (.tuple #[.int .u64 (renewAt tm ttl t),.int .i64 0])∧RVAt B w' vb g cap (L.set i { t with at_:=renewAt tm ttl t }) tm tn ln∧Below B w w'∧Spares [vb,g] w w':=by
 have hL:=rLive B vb g cap L tm tn ln id false w h;rw [hli] at hL
 have hP:=fun W=>rPlus tm ttl htm h0 h1 W
 have hlim:=h.lim;have hil:i<L.length:=(List.getElem?_eq_some_iff.1 ht).1;have hgB:B≤g:=(h.row.lt g rfl).1
 have hc:=fun W (hb:Below w.heap.size w W)=>(h.below hb).cells ht
 have hv:=fun W (hb:Below w.heap.size w W)=>(h.below hb).v.cell 0 (v:=.slice (some ⟨g,0,none⟩) L.length cap) rfl
 have hv1:=fun W (hb:Below w.heap.size w W)=>(h.below hb).v.cell 1 (v:=.int .u64 tm) rfl
 have hfz:=fun W (hb:Below w.heap.size w W)=>(h.below hb).frozenG (i*8+4)
 have hset:=hid_intro (fun W (hb:Below w.heap.size w W)=>(h.below hb).setAt hne ht (renewAt tm ttl t));have hsame:=hid_intro (fun W (hb:Below w.heap.size w W) (e:renewAt tm ttl t=t.at_)=>(show RVAt B W vb g cap (L.set i { t with at_:=renewAt tm ttl t }) tm tn ln from by rw [e,set_same (show L[i]? = some { t with at_:=t.at_ } from ht)];exact h.below hb));have hr:Hid (renewAt tm ttl t=max t.at_ (min (plusI tm ttl) t.last)):=hid_intro rfl;generalize hra:renewAt tm ttl t=ra at *;clear hra;generalize plusI tm ttl=p at *
 obtain⟨len,hlen⟩:∃ len,L.length=len:=⟨_,rfl⟩
 rw [hlen] at hil hlim;simp only [hlen] at hv;clear hlen
 have hnn:¬ (i:Int)<0:=by omega
 by_cases hpl:t.last<p <;> by_cases hat:t.at_<(min p t.last)
 ·have hat':t.at_<t.last:=by omega
  obtain rfl:ra=t.last:=by have:=hid_elim hr;omega
  clear hr hat;go_enter func112,ntmps112
  go_wp2_with (first
   | (go_at_call 154;refine hL.mono ?_;rintro e w1 ⟨rfl,hb1⟩;obtain⟨x0,x1,x2,x3,x4,x5,x6,x7⟩:=hc w1 hb1;have v0:=hv w1 hb1;have v1:=hv1 w1 hb1;have fz:=hfz w1 hb1)
   | (go_at_call 153;refine(hP _).mono ?_;rintro e w2 ⟨rfl,rfl⟩))
  exact bodyPost_ret (v:=.tuple #[.int .u64 t.last,.int .i64 0]) (by simp [results,results112,go_sem]) rfl ⟨rfl,hid_elim hset _ hb1,(hb1.mono hB).setCell (p:=⟨g,i*8+4,none⟩) hgB _,(Spares.of_below hb1).set (by simp) _ _⟩
 ·have hat':¬ t.at_<t.last:=by omega
  obtain rfl:ra=t.at_:=by have:=hid_elim hr;omega
  clear hr hat;go_enter func112,ntmps112
  go_wp2_with (first
   | (go_at_call 154;refine hL.mono ?_;rintro e w1 ⟨rfl,hb1⟩;obtain⟨x0,x1,x2,x3,x4,x5,x6,x7⟩:=hc w1 hb1;have v0:=hv w1 hb1;have v1:=hv1 w1 hb1;have fz:=hfz w1 hb1)
   | (go_at_call 153;refine(hP _).mono ?_;rintro e w2 ⟨rfl,rfl⟩))
  exact bodyPost_ret (v:=.tuple #[.int .u64 t.at_,.int .i64 0]) (by simp [results,results112,go_sem]) rfl ⟨rfl,hid_elim hsame _ hb1 (by first | rfl | trivial),hb1.mono hB,Spares.of_below hb1⟩
 ·have hat':t.at_<p:=by omega
  obtain rfl:ra=p:=by have:=hid_elim hr;omega
  clear hr hat;go_enter func112,ntmps112
  go_wp2_with (first
   | (go_at_call 154;refine hL.mono ?_;rintro e w1 ⟨rfl,hb1⟩;obtain⟨x0,x1,x2,x3,x4,x5,x6,x7⟩:=hc w1 hb1;have v0:=hv w1 hb1;have v1:=hv1 w1 hb1;have fz:=hfz w1 hb1)
   | (go_at_call 153;refine(hP _).mono ?_;rintro e w2 ⟨rfl,rfl⟩))
  exact bodyPost_ret (v:=.tuple #[.int .u64 ra,.int .i64 0]) (by simp [results,results112,go_sem]) rfl ⟨rfl,hid_elim hset _ hb1,(hb1.mono hB).setCell (p:=⟨g,i*8+4,none⟩) hgB _,(Spares.of_below hb1).set (by simp) _ _⟩
 ·have hat':¬ t.at_<p:=by omega
  obtain rfl:ra=t.at_:=by have:=hid_elim hr;omega
  clear hr hat;go_enter func112,ntmps112
  go_wp2_with (first
   | (go_at_call 154;refine hL.mono ?_;rintro e w1 ⟨rfl,hb1⟩;obtain⟨x0,x1,x2,x3,x4,x5,x6,x7⟩:=hc w1 hb1;have v0:=hv w1 hb1;have v1:=hv1 w1 hb1;have fz:=hfz w1 hb1)
   | (go_at_call 153;refine(hP _).mono ?_;rintro e w2 ⟨rfl,rfl⟩))
  exact bodyPost_ret (v:=.tuple #[.int .u64 t.at_,.int .i64 0]) (by simp [results,results112,go_sem]) rfl ⟨rfl,hid_elim hsame _ hb1 (by first | rfl | trivial),hb1.mono hB,Spares.of_below hb1⟩
theorem Tryz.rRenew_miss (B:Nat) (vb g cap:Nat) (L:List ThingD) (tm tn ln:Int) (id:List UInt8) (ttl:Int) (w:World) (h:RVAt B w vb g cap L tm tn ln) (hli:liveI tm id false L = -1) :
  Calls prog 112 #[.pointer (some ⟨vb,0,none⟩),.string ⟨id.toArray⟩,.int .u64 ttl] w fun e w'=>e=.returned (.tuple #[.int .u64 0,.int .i64 5])∧Below w.heap.size w w':=by
 have hL:=rLive B vb g cap L tm tn ln id false w h;rw [hli] at hL;go_enter func112,ntmps112
 go_wp2_with (go_at_call 154;refine hL.mono ?_;rintro e w1 ⟨rfl,hb1⟩)
 exact bodyPost_ret (v:=.tuple #[.int .u64 0,.int .i64 5]) (by simp [results,results112,go_sem]) rfl ⟨rfl,hb1⟩
theorem Tryz.rCreate_miss (B:Nat) (vb g cap:Nat) (L:List ThingD) (tm tn ln:Int) (id:List UInt8) (w:World) (h:RVAt B w vb g cap L tm tn ln) (hli:liveI tm id true L = -1) :
  Calls prog 109 #[.pointer (some ⟨vb,0,none⟩),.string ⟨id.toArray⟩] w fun e w'=>e=.returned (.tuple #[.string ⟨#[]⟩,.int .i64 1])∧Below w.heap.size w w':=by
 have hL:=rLive B vb g cap L tm tn ln id true w h;rw [hli] at hL;go_enter func109,ntmps109
 go_wp2_with (go_at_call 154;refine hL.mono ?_;rintro e w1 ⟨rfl,hb1⟩)
 exact bodyPost_ret (v:=.tuple #[.string ⟨#[]⟩,.int .i64 1]) (by simp [results,results109,go_sem]) rfl ⟨rfl,hb1⟩
theorem Tryz.rCreate_many (B:Nat) (vb g cap:Nat) (L:List ThingD) (tm tn ln:Int) (id:List UInt8) (w:World) (h:RVAt B w vb g cap L tm tn ln) (i:Nat) (hli:liveI tm id true L=i) (hc:countI true L=10) :
  Calls prog 109 #[.pointer (some ⟨vb,0,none⟩),.string ⟨id.toArray⟩] w fun e w'=>e=.returned (.tuple #[.string ⟨#[]⟩,.int .i64 4])∧Below w.heap.size w w':=by
 have hL:=rLive B vb g cap L tm tn ln id true w h;rw [hli] at hL
 have hC:=fun W (hb:Below w.heap.size w W)=>rCount B vb g cap L tm tn ln true W (h.below hb)
 rw [hc] at hC
 have hnn:¬ (i:Int)<0:=by omega
 go_enter func109,ntmps109
 go_wp2_with (first
  | (go_at_call 154;refine hL.mono ?_;rintro e w1 ⟨rfl,hb1⟩)
  | (go_at_call 155;refine(hC _ hb1).mono ?_;rintro e w2 ⟨rfl,rfl⟩))
 exact bodyPost_ret (v:=.tuple #[.string ⟨#[]⟩,.int .i64 4]) (by simp [results,results109,go_sem]) rfl ⟨rfl,hb1⟩
def issueE (tm:Int) (id pth:List UInt8) (ttl most:Int) (L:List ThingD):Int:=
 if liveI tm id true L<0 then 1 else if pathI pth=false then 2 else if ttl=0∨most<ttl then 3 else if countI false L=14 then 4 else 0
theorem Tryz.rIssue_err (B:Nat) (vb g cap:Nat) (L:List ThingD) (tm tn ln:Int) (id pth:List UInt8) (ttl most:Int) (w:World) (h:RVAt B w vb g cap L tm tn ln) (hp:pth.length≤9223372036854775807) (he:issueE tm id pth ttl most L≠0) :
  Calls prog 111 #[.pointer (some ⟨vb,0,none⟩),.string ⟨id.toArray⟩,.string ⟨pth.toArray⟩,.int .u64 ttl,.int .u64 most] w fun e w'=>e=.returned (.tuple #[.string ⟨#[]⟩,.int .i64 (issueE tm id pth ttl most L)])∧Below w.heap.size w w':=by
 have hL:=rLive B vb g cap L tm tn ln id true w h
 have hC:=fun W (hb:Below w.heap.size w W)=>rCount B vb g cap L tm tn ln false W (h.below hb)
 have hP:=fun W=>rPathed pth hp W
 have hr:Hid (issueE tm id pth ttl most L=if liveI tm id true L<0 then 1 else if pathI pth=false then 2 else if ttl=0∨most<ttl then 3 else if countI false L=14 then 4 else 0):=hid_intro rfl;generalize issueE tm id pth ttl most L=r at *;generalize liveI tm id true L=i at *;generalize pathI pth=pb at *;generalize countI false L=n at *
 by_cases h1:i<0
 ·obtain rfl:r=1:=by rw [hid_elim hr,if_pos h1]
  clear hr he;go_enter func111,ntmps111
  go_wp2_with (first
   | (go_at_call 154;refine hL.mono ?_;rintro e w1 ⟨rfl,hb1⟩)
   | (go_at_call 156;refine(hP _).mono ?_;rintro e w2 ⟨rfl,rfl⟩)
   | (go_at_call 155;refine(hC _ hb1).mono ?_;rintro e w3 ⟨rfl,rfl⟩))
  exact bodyPost_ret (v:=.tuple #[.string ⟨#[]⟩,.int .i64 1]) (by simp [results,results111,go_sem]) rfl ⟨rfl,hb1⟩
 ·by_cases h2:pb=false
  ·obtain rfl:r=2:=by rw [hid_elim hr,if_neg h1,if_pos h2]
   subst h2;clear hr he;go_enter func111,ntmps111
   go_wp2_with (first
    | (go_at_call 154;refine hL.mono ?_;rintro e w1 ⟨rfl,hb1⟩)
    | (go_at_call 156;refine(hP _).mono ?_;rintro e w2 ⟨rfl,rfl⟩)
    | (go_at_call 155;refine(hC _ hb1).mono ?_;rintro e w3 ⟨rfl,rfl⟩))
   exact bodyPost_ret (v:=.tuple #[.string ⟨#[]⟩,.int .i64 2]) (by simp [results,results111,go_sem]) rfl ⟨rfl,hb1⟩
  ·obtain rfl:pb=true:=by simpa using h2
   by_cases h3:ttl=0∨most<ttl
   ·obtain rfl:r=3:=by rw [hid_elim hr,if_neg h1,if_neg h2,if_pos h3]
    clear hr he h2
    by_cases h0:ttl=0
    ·subst h0
     clear h3;go_enter func111,ntmps111
     go_wp2_with (first
      | (go_at_call 154;refine hL.mono ?_;rintro e w1 ⟨rfl,hb1⟩)
      | (go_at_call 156;refine(hP _).mono ?_;rintro e w2 ⟨rfl,rfl⟩)
      | (go_at_call 155;refine(hC _ hb1).mono ?_;rintro e w3 ⟨rfl,rfl⟩))
     exact bodyPost_ret (v:=.tuple #[.string ⟨#[]⟩,.int .i64 3]) (by simp [results,results111,go_sem]) rfl ⟨rfl,hb1⟩
    ·have h0':(ttl==0)=false:=by simpa using h0
     have h3':most<ttl:=h3.resolve_left h0;clear h3 h0;go_enter func111,ntmps111
     go_wp2_with (first
      | (go_at_call 154;refine hL.mono ?_;rintro e w1 ⟨rfl,hb1⟩)
      | (go_at_call 156;refine(hP _).mono ?_;rintro e w2 ⟨rfl,rfl⟩)
      | (go_at_call 155;refine(hC _ hb1).mono ?_;rintro e w3 ⟨rfl,rfl⟩))
     exact bodyPost_ret (v:=.tuple #[.string ⟨#[]⟩,.int .i64 3]) (by simp [results,results111,go_sem]) rfl ⟨rfl,hb1⟩
   ·by_cases h4:n=14
    ·obtain rfl:r=4:=by rw [hid_elim hr,if_neg h1,if_neg h2,if_neg h3,if_pos h4]
     subst h4
     have h0':(ttl==0)=false:=by simp;omega
     have h3':¬ most<ttl:=by omega
     clear hr he h2 h3;go_enter func111,ntmps111
     go_wp2_with (first
      | (go_at_call 154;refine hL.mono ?_;rintro e w1 ⟨rfl,hb1⟩)
      | (go_at_call 156;refine(hP _).mono ?_;rintro e w2 ⟨rfl,rfl⟩)
      | (go_at_call 155;refine(hC _ hb1).mono ?_;rintro e w3 ⟨rfl,rfl⟩))
     exact bodyPost_ret (v:=.tuple #[.string ⟨#[]⟩,.int .i64 4]) (by simp [results,results111,go_sem]) rfl ⟨rfl,hb1⟩
    ·exact absurd (by rw [hid_elim hr,if_neg h1,if_neg h2,if_neg h3,if_neg h4]) he
def newTok (k m:Nat):ThingD:=⟨true,k,(m:Int),[],18446744073709551615,0,false,0⟩
abbrev cells3 (g vb i:Nat) (sl:Value) (k m:Nat) (W:World):Prop:=
 W.cell? ⟨vb,0,none⟩=some sl∧W.cell? ⟨vb,2,none⟩=some (.int .i64 k)∧W.cell? ⟨g,i*8+1,none⟩=some (.int .i64 m)
theorem cells3.below {g vb i:Nat} {sl:Value} {k m:Nat} {W W':World} (h:cells3 g vb i sl k m W) (hb:Below W.heap.size W W'):cells3 g vb i sl k m W':=
 ⟨cell_later hb h.1,cell_later hb h.2.1,cell_later hb h.2.2⟩
theorem Tryz.RVAt.made {B:Nat} {W:World} {vb g cap:Nat} {L:List ThingD} {tm ln:Int} {k:Nat} (h:RVAt B W vb g cap L tm k ln) (hne:vb≠g) (cs:Array Value) :
  BoxN (((W.setCell ⟨vb,2,none⟩ (.int .i64 (k+1))).alloc (.cells cs 105)).drew) vb 108 #[.slice (some ⟨g,0,none⟩) L.length cap,.int .u64 tm,.int .i64 (k+1),.int .i64 ln] ∧
  (((W.setCell ⟨vb,2,none⟩ (.int .i64 (k+1))).alloc (.cells cs 105)).drew).ownsRow B 105 8 (.slice (some ⟨g,0,none⟩) L.length cap) L.length (flatT L) ∧
  BoxN (((W.setCell ⟨vb,2,none⟩ (.int .i64 (k+1))).alloc (.cells cs 105)).drew) W.heap.size 105 cs:=by
 have lv:=h.v.lt;refine⟨?_,?_,?_⟩
 ·exact(h.v.set 2 _).alloc _
 ·have hr:(W.setCell ⟨vb,2,none⟩ (.int .i64 (k+1))).ownsRow B 105 8 (.slice (some ⟨g,0,none⟩) L.length cap) L.length (flatT L):=by
   obtain⟨h2,⟨e1,-⟩ | ⟨g',cap',cur,e1,e2,e3,e4⟩⟩:=h.row
   ·cases e1
   ·cases e1
    exact⟨h2,.inr ⟨g,cap,cur,rfl,e2,BoxN.other (W:=W) (t:=105) (cs:=cur) e3 (Ne.symm hne) 2 _,e4⟩⟩
  exact hr.alloc _
 ·have:=BoxN.new (W.setCell ⟨vb,2,none⟩ (.int .i64 (k+1))) 105 cs
  rw [World.size_setCell] at this;exact this
theorem Tryz.rCreate_ok (B:Nat) (vb g cap:Nat) (L:List ThingD) (tm ln:Int) (k:Nat) (id:List UInt8) (w:World) (h:RVAt B w vb g cap L tm k ln) (hvB:B≤vb) (hne:vb≠g) (hB:B≤w.heap.size) (hk:k<9223372036854775807) (hl:L.length<100)
  (i:Nat) (t:ThingD) (ht:L[i]? = some t) (hli:liveI tm id true L=i) (hc:countI true L≠10) :
  Calls prog 109 #[.pointer (some ⟨vb,0,none⟩),.string ⟨id.toArray⟩] w fun e w'=>∃ g' cap',e=.returned (.tuple #[.string ⟨(newTok k t.n).id.toArray⟩,.int .i64 0])∧RVAt B w' vb g' cap' (L ++ [newTok k t.n]) tm (k+1) ln∧vb≠g'∧Below B w w'∧Spares [vb,g] w w':=by
 obtain⟨i0,hi,hz0,hz1,hz2⟩:=info_parts thingInfo;have hL:=rLive B vb g cap L tm k ln id true w h;rw [hli] at hL
 have hC:=fun W (hb:Below w.heap.size w W)=>rCount B vb g cap L tm k ln true W (h.below hb)
 have hc':((countI true L:Int)==10)=false:=by rw [beq_eq_false_iff_ne];omega
 have hil:i<L.length:=(List.getElem?_eq_some_iff.1 ht).1
 have hS:=fun W (hb:Below w.heap.size w W)=>(show cells3 g vb i (.slice (some ⟨g,0,none⟩) L.length cap) k t.n W from ⟨(h.below hb).v.cell 0 rfl,(h.below hb).v.cell 2 rfl,((h.below hb).cells ht).2.1⟩)
 generalize countI true L=n at *
 have hnn:¬ (i:Int)<0:=by omega
 have lv:=h.v.lt;have lg:=h.glt;go_enter func109,ntmps109
 go_wp2_with (first
  | (go_at_call 154;refine hL.mono ?_;rintro e w1 ⟨rfl,hb1⟩)
  | (go_at_call 155;refine(hC _ hb1).mono ?_;rintro e w2 ⟨rfl,rfl⟩))
 rename_i w1 _
 have hsz:=hb1.size;have fv:=(h.below hb1).v.frozen 2;have lv2:=(h.below hb1).v.lt;have hM:=hid_intro ((h.below hb1).made hne #[.bool true,.int .i64 k,.int .i64 t.n,.string ⟨#[]⟩,.int .u64 18446744073709551615,.int .u64 0,.bool false,.int .i64 0])
 go_region_held3 (cells3 g vb i (.slice (some ⟨g,0,none⟩) L.length cap) k t.n) (first
   | with_reducible exact(hS _ hb1).below (Grew.below (Grew.refl _).drew)
   | with_reducible exact(hS _ hb1).below (Grew.below ((Grew.refl _).alloc _).drew)
   | with_reducible exact cells3.below (by assumption) (by assumption)
   | with_reducible exact cells3.below (by assumption) (Grew.below ((Grew.refl _).alloc _))) (fail)
 go_wp2;obtain⟨bV,hrow,bT⟩:=hid_elim hM;clear hM fv hS
 have hB9:Below B w (((w2.setCell ⟨vb,2,none⟩ (.int .i64 (k+1))).alloc (.cells #[.bool true,.int .i64 k,.int .i64 t.n,.string ⟨#[]⟩,.int .u64 18446744073709551615,.int .u64 0,.bool false,.int .i64 0] 105)).drew):=((((hb1.mono hB).setCell (p:=⟨vb,2,none⟩) hvB _).alloc (by simp;omega) _).drew)
 have hP9:Spares [vb,g] w (((w2.setCell ⟨vb,2,none⟩ (.int .i64 (k+1))).alloc (.cells #[.bool true,.int .i64 k,.int .i64 t.n,.string ⟨#[]⟩,.int .u64 18446744073709551615,.int .u64 0,.bool false,.int .i64 0] 105)).drew):=(((Spares.of_below hb1).set (by simp) _ _).alloc _).drew
 have hs9:(((w2.setCell ⟨vb,2,none⟩ (.int .i64 (k+1))).alloc (.cells #[.bool true,.int .i64 k,.int .i64 t.n,.string ⟨#[]⟩,.int .u64 18446744073709551615,.int .u64 0,.bool false,.int .i64 0] 105)).drew).heap.size=w2.heap.size+1:=by simp
 obtain⟨W9,hW9⟩:∃ W9,((w2.setCell ⟨vb,2,none⟩ (.int .i64 (k+1))).alloc (.cells #[.bool true,.int .i64 k,.int .i64 t.n,.string ⟨#[]⟩,.int .u64 18446744073709551615,.int .u64 0,.bool false,.int .i64 0] 105)).drew=W9:=⟨_,rfl⟩
 rw [hW9] at bV hrow bT hB9 hs9 hP9;rw [hW9];clear hW9;have Hs9:=hid_intro hs9
 have hB9s:B≤W9.heap.size:=by omega
 clear hs9;have lv9:=bV.lt;have lt9:=bT.lt;have v0:=bV.cell 0 (v:=.slice (some ⟨g,0,none⟩) L.length cap) rfl;have fv0:=bV.frozen 0;obtain⟨y0,y1,y2,y3,y4,y5,y6,y7⟩:=bT.c8;have hll:L.length<100:=hl
 go_region_law ((refine step_append_lies _ (by rfl) _ _ _ (by rfl) B 105 i0 _ 8 72 underlying106 hi hz0 hz1 hz2 rfl (by decide) _ _ _ (by rfl) (ownsRow_below hrow (by first | exact Grew.below ((Grew.refl _).alloc _) | exact Grew.below (((Grew.refl _).drewN _).alloc _))) ⟨W9.heap.size,0,none⟩ 1 1 [.bool true,.int .i64 k,.int .i64 t.n,.string ⟨#[]⟩,.int .u64 18446744073709551615,.int .u64 0,.bool false,.int .i64 0] (by rfl) rfl (World.news_of_block (heap_alloc_new _ _)) (by simp [Value.oneCell']) (by omega) (by unfold maxLen;omega) (by omega) (by simp;omega) _ rfl ?_;intro g' cap' w3 hown' hgrow hat hlt;have bV3:=(bV.below (B:=vb) (n₀:=W9.heap.size) (by first | exact Grew.below ((Grew.refl W9).alloc _) | exact Grew.below (((Grew.refl W9).drew).alloc _)) bV.lt).kept hgrow (by simp [Value.ownBlock,hne]);have d0:=bV3.cell 0 (v:=.slice (some ⟨g,0,none⟩) L.length cap) rfl;have d1:=bV3.frozen 0))
 all_goals
  have hvg:vb≠g':=by
   rcases hat with e | e
   ·have:g=g':=by simpa [Value.ownBlock] using e
    omega
   ·have:g'=W9.heap.size+1:=by simpa using e
    omega
  have lg2:g<w2.heap.size:=by omega
  have bT4:=((bT.below (B:=w2.heap.size) (n₀:=W9.heap.size) (Grew.below (((Grew.refl W9).alloc _).drew)) bT.lt).kept hgrow (by simp [Value.ownBlock];omega)).other (B':=vb) (by omega) 0 (.slice (some ⟨g',0,none⟩) (L.length+1) cap')
  have hbk:∀ q,(Value.slice (some ⟨g,0,none⟩) L.length cap).ownBlock=some q→B≤q:=by
   intro q hq
   have h1:g=q:=by simpa [Value.ownBlock] using hq
   have h2:=(h.row.lt g rfl).1;omega
  have hB3:Below B w w3:=((hB9.alloc hB9s _).drew).grown hgrow (by simp;omega) hbk;have hP3:Spares [vb,g] w w3:=((hP9.alloc _).drew).trans (Spares.of_grown (b:=g) hgrow (by simp))
  have hF:Hid (RVAt B (w3.setCell ⟨vb,0,none⟩ (.slice (some ⟨g',0,none⟩) (L.length+1) cap')) vb g' cap' (L ++ [newTok k t.n]) tm (k+1) ln∧Below B w (w3.setCell ⟨vb,0,none⟩ (.slice (some ⟨g',0,none⟩) (L.length+1) cap'))∧Spares [vb,g] w (w3.setCell ⟨vb,0,none⟩ (.slice (some ⟨g',0,none⟩) (L.length+1) cap'))):=hid_intro ⟨⟨by
    rw [List.length_append];exact bV3.set 0 _,by
    rw [List.length_append,flatT_snoc];exact hown'.kept (grownBy_setCell' w3 vb _) (.inr (by simp [Value.ownBlock];omega)),by
    rw [List.length_append];show L.length+1≤100;omega,fun x hx=>by
    rcases List.mem_append.1 hx with hx | hx
    ·exact h.num x hx
    ·rw [List.mem_singleton.1 hx];show k<_;omega,fun x hx=>by
    rcases List.mem_append.1 hx with hx | hx
    ·exact h.ofs x hx
    ·rw [List.mem_singleton.1 hx];exact .inr ⟨t.n,rfl,h.num t (List.mem_of_getElem? ht)⟩⟩,hB3.setCell (p:=⟨vb,0,none⟩) hvB _,hP3.set (by simp) _ _⟩
  have hs4:B≤(w3.setCell ⟨vb,0,none⟩ (.slice (some ⟨g',0,none⟩) (L.length+1) cap')).heap.size:=by have:=hB3.size;simp;omega
  have hID:=fun W=>rId (newTok k t.n) (show k<_ by omega) W
  obtain⟨nid,hnid⟩:∃ nid,(newTok k t.n).id=nid:=⟨_,rfl⟩
  rw [hnid] at hID;have Hn:=hid_intro hnid;clear hnid;simp only [newTok,ThingD.cells] at hID;clear hown' hgrow hat hlt bV3 d0 d1 hB3 hP3 hP9 bV hrow bT v0 fv0 y0 y1 y2 y3 y4 y5 y6 y7 hB9 hL hC;generalize w3.setCell ⟨vb,0,none⟩ (.slice (some ⟨g',0,none⟩) (L.length+1) cap')=W4 at *;obtain⟨y0,y1,y2,y3,y4,y5,y6,y7⟩:=bT4.c8
  go_wp2_with (go_at_call 105;refine(hID _).mono ?_;rintro e w5 ⟨rfl,hb5⟩)
  exact bodyPost_ret (v:=.tuple #[.string ⟨nid.toArray⟩,.int .i64 0]) (by simp [results,results109,go_sem]) rfl ⟨g',cap',by rw [hid_elim Hn],(hid_elim hF).1.below hb5,hvg,(hid_elim hF).2.1.trans (hb5.mono hs4),(hid_elim hF).2.2.trans (Spares.of_below hb5)⟩
def newLea (k m:Nat) (pth:List UInt8) (a l:Int):ThingD:=⟨false,k,(m:Int),pth,a,l,false,0⟩
abbrev cells4 (g vb i:Nat) (sl:Value) (tm:Int) (k m:Nat) (W:World):Prop:=
 W.cell? ⟨vb,0,none⟩=some sl∧W.cell? ⟨vb,1,none⟩=some (.int .u64 tm)∧W.cell? ⟨vb,3,none⟩=some (.int .i64 k)∧W.cell? ⟨g,i*8+1,none⟩=some (.int .i64 m)
theorem cells4.below {g vb i:Nat} {sl:Value} {tm:Int} {k m:Nat} {W W':World} (h:cells4 g vb i sl tm k m W) (hb:Below W.heap.size W W'):cells4 g vb i sl tm k m W':=
 ⟨cell_later hb h.1,cell_later hb h.2.1,cell_later hb h.2.2.1,cell_later hb h.2.2.2⟩
theorem Tryz.RVAt.made3 {B:Nat} {W:World} {vb g cap:Nat} {L:List ThingD} {tm tn:Int} {k:Nat} (h:RVAt B W vb g cap L tm tn k) (hne:vb≠g) (cs:Array Value) (q:Nat) :
  BoxN (((W.alloc (.cells cs 105)).drewN q).setCell ⟨vb,3,none⟩ (.int .i64 (k+1))) vb 108 #[.slice (some ⟨g,0,none⟩) L.length cap,.int .u64 tm,.int .i64 tn,.int .i64 (k+1)] ∧
  (((W.alloc (.cells cs 105)).drewN q).setCell ⟨vb,3,none⟩ (.int .i64 (k+1))).ownsRow B 105 8 (.slice (some ⟨g,0,none⟩) L.length cap) L.length (flatT L) ∧
  BoxN (((W.alloc (.cells cs 105)).drewN q).setCell ⟨vb,3,none⟩ (.int .i64 (k+1))) W.heap.size 105 cs:=by
 have lv:=h.v.lt;have hb:Below W.heap.size W ((W.alloc (.cells cs 105)).drewN q):=below_drewN ((Below.refl _ W).alloc (Nat.le_refl _) _) q;refine⟨?_,?_,?_⟩
 ·exact(h.v.below hb h.v.lt).set 3 _
 ·obtain⟨h2,⟨e1,-⟩ | ⟨g',cap',cur,e1,e2,e3,e4⟩⟩:=ownsRow_below h.row hb
  ·cases e1
  ·cases e1
   exact⟨h2,.inr ⟨g,cap,cur,rfl,e2,BoxN.other (W:=(W.alloc (.cells cs 105)).drewN q) (t:=105) (cs:=cur) e3 (Ne.symm hne) 3 _,e4⟩⟩
 ·exact BoxN.other (W:=(W.alloc (.cells cs 105)).drewN q) (BoxN.new W 105 cs) (by omega) 3 _
theorem Tryz.rIssue_ok (B:Nat) (vb g cap:Nat) (L:List ThingD) (tm tn:Int) (k:Nat) (id pth:List UInt8) (ttl most:Int) (w:World) (h:RVAt B w vb g cap L tm tn k) (hvB:B≤vb) (hne:vb≠g) (hB:B≤w.heap.size) (hk:k<9223372036854775807) (hl:L.length<100) (hp:pth.length≤9223372036854775807)
  (htm:0≤tm) (ht1:0≤ttl) (ht2:ttl≤18446744073709551615) (hm2:most≤18446744073709551615)
  (i:Nat) (t:ThingD) (ht:L[i]? = some t) (hli:liveI tm id true L=i) (he:issueE tm id pth ttl most L=0) (hat:tm<plusI tm ttl) :
  Calls prog 111 #[.pointer (some ⟨vb,0,none⟩),.string ⟨id.toArray⟩,.string ⟨pth.toArray⟩,.int .u64 ttl,.int .u64 most] w fun e w'=>∃ g' cap',e=.returned (.tuple #[.string ⟨(newLea k t.n pth (plusI tm ttl) (plusI tm most)).id.toArray⟩,.int .i64 0])∧RVAt B w' vb g' cap' (L ++ [newLea k t.n pth (plusI tm ttl) (plusI tm most)]) tm tn (k+1)∧vb≠g'∧Below B w w'∧Spares [vb,g] w w':=by
 obtain⟨i0,hi,hz0,hz1,hz2⟩:=info_parts thingInfo;have hL:=rLive B vb g cap L tm tn k id true w h;rw [hli] at hL
 have hC:=fun W (hb:Below w.heap.size w W)=>rCount B vb g cap L tm tn k false W (h.below hb)
 have hP:=fun W=>rPathed pth hp W
 unfold issueE at he
 have h1:¬ (i:Int)<0:=by omega
 rw [hli,if_neg h1] at he
 have h2:¬ pathI pth=false:=by intro e;rw [if_pos e] at he;omega
 rw [if_neg h2] at he
 have h3:¬ (ttl=0∨most<ttl):=by intro e;rw [if_pos e] at he;omega
 rw [if_neg h3] at he
 have h4:¬ countI false L=14:=by intro e;rw [if_pos e] at he;omega
 clear he
 have hm1:0≤most:=by omega
 have hA:=fun W=>rPlus tm ttl htm ht1 ht2 W
 have hA2:=fun W=>rPlus tm most htm hm1 hm2 W
 have hpt:pathI pth=true:=by simpa using h2
 rw [hpt] at hP
 have hc':((countI false L:Int)==14)=false:=by rw [beq_eq_false_iff_ne];omega
 have h0':(ttl==0)=false:=by simp;omega
 have h3':¬ most<ttl:=by omega
 have hil:i<L.length:=(List.getElem?_eq_some_iff.1 ht).1
 have hS:=fun W (hb:Below w.heap.size w W)=>(show cells4 g vb i (.slice (some ⟨g,0,none⟩) L.length cap) tm k t.n W from ⟨(h.below hb).v.cell 0 rfl,(h.below hb).v.cell 1 rfl,(h.below hb).v.cell 3 rfl,((h.below hb).cells ht).2.1⟩)
 clear h2 h3 h4 hpt;generalize countI false L=n at *;generalize plusI tm ttl=at0 at *;generalize plusI tm most=la0 at *;have lv:=h.v.lt;have lg:=h.glt;go_enter func111,ntmps111
 go_wp2_with (first
  | (go_at_call 154;refine hL.mono ?_;rintro e w1 ⟨rfl,hb1⟩)
  | (go_at_call 156;refine(hP _).mono ?_;rintro e w2 ⟨rfl,rfl⟩)
  | (go_at_call 155;refine(hC _ hb1).mono ?_;rintro e w3 ⟨rfl,rfl⟩;obtain⟨q0,q1,q2,q3⟩:=hS _ hb1)
  | (go_at_call_of 153 (Value.int .u64 ttl);refine(hA _).mono ?_;rintro e w4 ⟨rfl,rfl⟩)
  | (go_at_call_of 153 (Value.int .u64 most);refine(hA2 _).mono ?_;rintro e w5 ⟨rfl,rfl⟩))
 have hsz:=hb1.size;have fv:=(h.below hb1).v.frozen 3;have lv2:=(h.below hb1).v.lt
 go_region_held3 (cells4 g vb i (.slice (some ⟨g,0,none⟩) L.length cap) tm k t.n) (first
   | with_reducible exact(hS _ hb1).below (Grew.below (Grew.refl _).drew)
   | with_reducible exact(hS _ hb1).below (Grew.below ((Grew.refl _).alloc _).drew)
   | with_reducible exact cells4.below (by assumption) (by assumption)
   | with_reducible exact cells4.below (by assumption) (Grew.below ((Grew.refl _).alloc _))) (fail)
 go_wp2_with fail
 go_quiet (fail);go_wp2;obtain⟨bV,hrow,bT⟩:=(h.below hb1).made3 hne #[.bool false,.int .i64 k,.int .i64 t.n,.string ⟨pth.toArray⟩,.int .u64 at0,.int .u64 la0,.bool false,.int .i64 0] (1+nq);clear fv hS;have hB9:Below B w (((w5.alloc (.cells #[.bool false,.int .i64 k,.int .i64 t.n,.string ⟨pth.toArray⟩,.int .u64 at0,.int .u64 la0,.bool false,.int .i64 0] 105)).drewN (1+nq)).setCell ⟨vb,3,none⟩ (.int .i64 (k+1))):=(below_drewN ((hb1.mono hB).alloc (by omega) _) _).setCell (p:=⟨vb,3,none⟩) hvB _;have hP9:Spares [vb,g] w (((w5.alloc (.cells #[.bool false,.int .i64 k,.int .i64 t.n,.string ⟨pth.toArray⟩,.int .u64 at0,.int .u64 la0,.bool false,.int .i64 0] 105)).drewN (1+nq)).setCell ⟨vb,3,none⟩ (.int .i64 (k+1))):=(((Spares.of_below hb1).alloc _).trans (Spares.of_below (below_drewN (Below.refl _ _) (1+nq)))).set (by simp) _ _
 have hs9:(((w5.alloc (.cells #[.bool false,.int .i64 k,.int .i64 t.n,.string ⟨pth.toArray⟩,.int .u64 at0,.int .u64 la0,.bool false,.int .i64 0] 105)).drewN (1+nq)).setCell ⟨vb,3,none⟩ (.int .i64 (k+1))).heap.size=w5.heap.size+1:=by simp
 obtain⟨W9,hW9⟩:∃ W9,((w5.alloc (.cells #[.bool false,.int .i64 k,.int .i64 t.n,.string ⟨pth.toArray⟩,.int .u64 at0,.int .u64 la0,.bool false,.int .i64 0] 105)).drewN (1+nq)).setCell ⟨vb,3,none⟩ (.int .i64 (k+1))=W9:=⟨_,rfl⟩
 rw [hW9] at bV hrow bT hB9 hs9 hP9;rw [hW9];clear hW9;have Hs9:=hid_intro hs9
 have hB9s:B≤W9.heap.size:=by omega
 clear hs9;have lv9:=bV.lt;have lt9:=bT.lt;have v0:=bV.cell 0 (v:=.slice (some ⟨g,0,none⟩) L.length cap) rfl;have fv0:=bV.frozen 0;obtain⟨y0,y1,y2,y3,y4,y5,y6,y7⟩:=bT.c8;have hll:L.length<100:=hl
 go_region_law ((refine step_append_lies _ (by rfl) _ _ _ (by rfl) B 105 i0 _ 8 72 underlying106 hi hz0 hz1 hz2 rfl (by decide) _ _ _ (by rfl) (ownsRow_below hrow (by first | exact Grew.below ((Grew.refl _).alloc _) | exact Grew.below (((Grew.refl _).drewN _).alloc _))) ⟨W9.heap.size,0,none⟩ 1 1 [.bool false,.int .i64 k,.int .i64 t.n,.string ⟨pth.toArray⟩,.int .u64 at0,.int .u64 la0,.bool false,.int .i64 0] (by rfl) rfl (World.news_of_block (heap_alloc_new _ _)) (by simp [Value.oneCell']) (by omega) (by unfold maxLen;omega) (by omega) (by simp;omega) _ rfl ?_;intro g' cap' w6 hown' hgrow hat6 hlt;have bV3:=(bV.below (B:=vb) (n₀:=W9.heap.size) (by first | exact Grew.below ((Grew.refl W9).alloc _) | exact Grew.below (((Grew.refl W9).drew).alloc _)) bV.lt).kept hgrow (by simp [Value.ownBlock,hne]);have d0:=bV3.cell 0 (v:=.slice (some ⟨g,0,none⟩) L.length cap) rfl;have d1:=bV3.frozen 0))
 all_goals
  have hvg:vb≠g':=by
   rcases hat6 with e | e
   ·have:g=g':=by simpa [Value.ownBlock] using e
    omega
   ·have:g'=W9.heap.size+1:=by simpa using e
    omega
  have lg2:g<w5.heap.size:=by omega
  have bT4:=((bT.below (B:=w5.heap.size) (n₀:=W9.heap.size) (Grew.below (((Grew.refl W9).alloc _).drew)) bT.lt).kept hgrow (by simp [Value.ownBlock];omega)).other (B':=vb) (by omega) 0 (.slice (some ⟨g',0,none⟩) (L.length+1) cap')
  have hbk:∀ q,(Value.slice (some ⟨g,0,none⟩) L.length cap).ownBlock=some q→B≤q:=by
   intro q hq
   have h1:g=q:=by simpa [Value.ownBlock] using hq
   have h2:=(h.row.lt g rfl).1;omega
  have hB3:Below B w w6:=((hB9.alloc hB9s _).drew).grown hgrow (by simp;omega) hbk;have hP3:Spares [vb,g] w w6:=((hP9.alloc _).drew).trans (Spares.of_grown (b:=g) hgrow (by simp))
  have hF:Hid (RVAt B (w6.setCell ⟨vb,0,none⟩ (.slice (some ⟨g',0,none⟩) (L.length+1) cap')) vb g' cap' (L ++ [newLea k t.n pth at0 la0]) tm tn (k+1)∧Below B w (w6.setCell ⟨vb,0,none⟩ (.slice (some ⟨g',0,none⟩) (L.length+1) cap'))∧Spares [vb,g] w (w6.setCell ⟨vb,0,none⟩ (.slice (some ⟨g',0,none⟩) (L.length+1) cap'))):=hid_intro ⟨⟨by
    rw [List.length_append];exact bV3.set 0 _,by
    rw [List.length_append,flatT_snoc];exact hown'.kept (grownBy_setCell' w6 vb _) (.inr (by simp [Value.ownBlock];omega)),by
    rw [List.length_append];show L.length+1≤100;omega,fun x hx=>by
    rcases List.mem_append.1 hx with hx | hx
    ·exact h.num x hx
    ·rw [List.mem_singleton.1 hx];show k<_;omega,fun x hx=>by
    rcases List.mem_append.1 hx with hx | hx
    ·exact h.ofs x hx
    ·rw [List.mem_singleton.1 hx];exact .inr ⟨t.n,rfl,h.num t (List.mem_of_getElem? ht)⟩⟩,hB3.setCell (p:=⟨vb,0,none⟩) hvB _,hP3.set (by simp) _ _⟩
  have hs4:B≤(w6.setCell ⟨vb,0,none⟩ (.slice (some ⟨g',0,none⟩) (L.length+1) cap')).heap.size:=by have:=hB3.size;simp;omega
  have hID:=fun W=>rId (newLea k t.n pth at0 la0) (show k<_ by omega) W
  obtain⟨nid,hnid⟩:∃ nid,(newLea k t.n pth at0 la0).id=nid:=⟨_,rfl⟩
  rw [hnid] at hID;have Hn:=hid_intro hnid;clear hnid;simp only [newLea,ThingD.cells] at hID;clear hown' hgrow hat6 hlt bV3 d0 d1 hB3 hP3 hP9 bV hrow bT v0 fv0 y0 y1 y2 y3 y4 y5 y6 y7 hB9 hL hC hP hA hA2;generalize w6.setCell ⟨vb,0,none⟩ (.slice (some ⟨g',0,none⟩) (L.length+1) cap')=W4 at *;obtain⟨y0,y1,y2,y3,y4,y5,y6,y7⟩:=bT4.c8
  go_wp2_with (go_at_call 105;refine(hID _).mono ?_;rintro e w8 ⟨rfl,hb5⟩)
  exact bodyPost_ret (v:=.tuple #[.string ⟨nid.toArray⟩,.int .i64 0]) (by simp [results,results111,go_sem]) rfl ⟨g',cap',by rw [hid_elim Hn],(hid_elim hF).1.below hb5,hvg,(hid_elim hF).2.1.trans (hb5.mono hs4),(hid_elim hF).2.2.trans (Spares.of_below hb5)⟩
theorem Tryz.rIssue_late (B:Nat) (vb g cap:Nat) (L:List ThingD) (tm tn:Int) (k:Nat) (id pth:List UInt8) (ttl most:Int) (w:World) (h:RVAt B w vb g cap L tm tn k) (hp:pth.length≤9223372036854775807)
  (htm:0≤tm) (ht1:0≤ttl) (ht2:ttl≤18446744073709551615) (hm2:most≤18446744073709551615)
  (i:Nat) (t:ThingD) (ht:L[i]? = some t) (hli:liveI tm id true L=i) (he:issueE tm id pth ttl most L=0) (hat:¬ tm<plusI tm ttl) :
  Calls prog 111 #[.pointer (some ⟨vb,0,none⟩),.string ⟨id.toArray⟩,.string ⟨pth.toArray⟩,.int .u64 ttl,.int .u64 most] w fun e w'=>e=.returned (.tuple #[.string ⟨#[]⟩,.int .i64 3])∧Below w.heap.size w w':=by
 have hL:=rLive B vb g cap L tm tn k id true w h;rw [hli] at hL
 have hC:=fun W (hb:Below w.heap.size w W)=>rCount B vb g cap L tm tn k false W (h.below hb)
 have hP:=fun W=>rPathed pth hp W
 unfold issueE at he
 have h1:¬ (i:Int)<0:=by omega
 rw [hli,if_neg h1] at he
 have h2:¬ pathI pth=false:=by intro e;rw [if_pos e] at he;omega
 rw [if_neg h2] at he
 have h3:¬ (ttl=0∨most<ttl):=by intro e;rw [if_pos e] at he;omega
 rw [if_neg h3] at he
 have h4:¬ countI false L=14:=by intro e;rw [if_pos e] at he;omega
 clear he
 have hm1:0≤most:=by omega
 have hA:=fun W=>rPlus tm ttl htm ht1 ht2 W
 have hA2:=fun W=>rPlus tm most htm hm1 hm2 W
 have hpt:pathI pth=true:=by simpa using h2
 rw [hpt] at hP
 have hc':((countI false L:Int)==14)=false:=by rw [beq_eq_false_iff_ne];omega
 have h0':(ttl==0)=false:=by simp;omega
 have h3':¬ most<ttl:=by omega
 have hil:i<L.length:=(List.getElem?_eq_some_iff.1 ht).1
 have hS:=fun W (hb:Below w.heap.size w W)=>(show cells4 g vb i (.slice (some ⟨g,0,none⟩) L.length cap) tm k t.n W from ⟨(h.below hb).v.cell 0 rfl,(h.below hb).v.cell 1 rfl,(h.below hb).v.cell 3 rfl,((h.below hb).cells ht).2.1⟩)
 clear h2 h3 h4 hpt;generalize countI false L=n at *;generalize plusI tm ttl=at0 at *;generalize plusI tm most=la0 at *;have lv:=h.v.lt;have lg:=h.glt;go_enter func111,ntmps111
 go_wp2_with (first
  | (go_at_call 154;refine hL.mono ?_;rintro e w1 ⟨rfl,hb1⟩)
  | (go_at_call 156;refine(hP _).mono ?_;rintro e w2 ⟨rfl,rfl⟩)
  | (go_at_call 155;refine(hC _ hb1).mono ?_;rintro e w3 ⟨rfl,rfl⟩;obtain⟨q0,q1,q2,q3⟩:=hS _ hb1)
  | (go_at_call_of 153 (Value.int .u64 ttl);refine(hA _).mono ?_;rintro e w4 ⟨rfl,rfl⟩)
  | (go_at_call_of 153 (Value.int .u64 most);refine(hA2 _).mono ?_;rintro e w5 ⟨rfl,rfl⟩))
 have hsz:=hb1.size;have fv:=(h.below hb1).v.frozen 3;have lv2:=(h.below hb1).v.lt
 go_region_held3 (cells4 g vb i (.slice (some ⟨g,0,none⟩) L.length cap) tm k t.n) (first
   | with_reducible exact(hS _ hb1).below (Grew.below (Grew.refl _).drew)
   | with_reducible exact(hS _ hb1).below (Grew.below ((Grew.refl _).alloc _).drew)
   | with_reducible exact cells4.below (by assumption) (by assumption)
   | with_reducible exact cells4.below (by assumption) (Grew.below ((Grew.refl _).alloc _))) (fail)
 go_wp2_with fail
 go_quiet (fail);go_wp2;exact bodyPost_ret (v:=.tuple #[.string ⟨#[]⟩,.int .i64 3]) (by simp [results,results111,go_sem]) rfl ⟨rfl,by first | exact below_drewN (hb1.alloc hsz _) _ | exact below_drewN ((hb1.alloc hsz _).drew) _ | exact(hb1.alloc hsz _).drew⟩
end Go.Proofs
namespace Go.Proofs
open Go.RowKit Go.Sort Go.Lib Go.Shelf Go.Maps
attribute [local go_sem] Oper.semAt_some
def neverI:Int:=18446744073709551615
def minAt (xs:List InfoD):Int:=xs.foldl (fun m x=>min m x.at_) neverI
theorem minAt_snoc (xs:List InfoD) (x:InfoD):minAt (xs ++ [x])=min (minAt xs) x.at_:=by simp [minAt]
theorem Tryz.vNext (vb mt ml:Nat) (vx:VX) (tm tn ln:Int) (tks:List TokE) (lks:List LeaE) (w:World) (hV:VaultAt w vb mt ml vx tm tn ln tks lks) :
  CallsIn Fence.wide 9 prog 45 #[.pointer (some ⟨vb,0,none⟩)] w fun e w'=>e=.returned (.int .u64 (minAt (infosOf tm tks lks)))∧Below w.heap.size w w':=by
 have hfa:Fence.wide.fn 48:=trivial;refine callsIn_of_wp_marks func45 rfl trivial ?_ rfl;simp only [ntmps45,List.size_toArray,List.length_cons,List.length_nil,Nat.reduceAdd,Nat.reduceSub,Array.replicate_succ,Array.replicate_zero,List.push_toArray,List.append_toArray,List.nil_append,List.cons_append]
 gi_wp2_with (gi_at_call 48;refine(callsIn_wide.2 (vAll vb _)).mono ?_;rintro e w' ⟨rfl,rfl⟩)
 have bL:=(Boxed.new w 31 (.int .u64 neverI)).alloc (.cells #[.pointer (some ⟨vb,0,none⟩)] 76);have bV:=BoxN.new (w.alloc (.cells #[.int .u64 neverI] 31)) 76 #[.pointer (some ⟨vb,0,none⟩)];have hB0:Below w.heap.size w ((w.alloc (.cells #[.int .u64 neverI] 31)).alloc (.cells #[.pointer (some ⟨vb,0,none⟩)] 76)):=((Below.refl _ w).alloc (Nat.le_refl _) _).alloc (by simp) _
 have hsz:((w.alloc (.cells #[.int .u64 neverI] 31)).alloc (.cells #[.pointer (some ⟨vb,0,none⟩)] 76)).heap.size=w.heap.size+2:=by simp
 simp only [World.size_alloc] at bV;have hV0:=hV.below hB0
 obtain⟨W0,hW0⟩:∃ W0,(w.alloc (.cells #[.int .u64 neverI] 31)).alloc (.cells #[.pointer (some ⟨vb,0,none⟩)] 76)=W0:=⟨_,rfl⟩
 rw [hW0] at bV bL hB0 hsz hV0
 change Code.wpIn _ _ _ _ _ _ ((w.alloc (.cells #[.int .u64 neverI] 31)).alloc (.cells #[.pointer (some ⟨vb,0,none⟩)] 76))
 rw [hW0];clear hW0
 refine wpIn_rangeO (n:=9) (by omega) (gf:=78) (lb:=#[.pointer (some ⟨w.heap.size+1,0,none⟩)]) rfl enters78
  (vAll_seq 8 (by omega) badNext goodNext (w.heap.size+1) vb mt ml vx tm tn ln tks lks hV.ok W0 bV hV0.v hV0.held) keepsT_t keepsT_b (Below.refl _ _) (fun _=>rfl)
  (fun pre V=>Boxed V w.heap.size 31 (.int .u64 (minAt pre))∧Below w.heap.size w V)
  (fun _ _ _=>False)
  (OwnFrom.and (Own.from (boxed_own _ _ (fun pre:List InfoD=>.int .u64 (minAt pre))) _) (ownFrom_below (Nat.le_refl _) (by omega)))
  (fun _ _ _ _ _ hs _ _=>hs)
  (fun s V hs=>⟨hV.env.below hs.2 hV.six,Nat.le_trans hV.six hs.2.size⟩)
  ⟨bL,hB0⟩
  (fun x a' V=>∃ Bx,w.heap.size<Bx∧BoxN V Bx 49 x.cells∧a' = { tmps:=#[.pointer (some ⟨vb,0,none⟩),undef,.int .u64 0,.pointer (some ⟨w.heap.size,0,none⟩),.pointer (some ⟨Bx,0,none⟩),.pointer (some ⟨vb,0,none⟩),.func (.func 78) #[] #[.pointer (some ⟨w.heap.size+1,0,none⟩)],.agg x.cells,undef,undef,undef,undef,undef],defers:=[] })
  (fun x a' _ X Y row hs hg hr=>by obtain⟨Bx,h1,h2,h3⟩:=hs;exact⟨Bx,h1,boxN_own Bx 49 (fun(_:Unit)=>x.cells) () X Y row h2 hg (fun r e=>(hr r e).2),h3⟩)
  ?assign ?body ?done ?stop
 case assign =>
  rintro l pre x V K ⟨b1,hB1⟩ hK;obtain⟨id,st,at_,tr,tok,pth⟩:=x;simp only [InfoD.cells,infoCells]
  gi_wp2
  exact hK _ _ ((KeepsOthers.alloc _ _).from _) (KeepsT.alloc _ _) ⟨b1.alloc _,hB1.alloc hB1.size _⟩ ⟨V.heap.size,b1.lt,BoxN.new V 49 _,rfl⟩
 case body =>
  rintro l pre x a' V hl ⟨b1,hB1⟩ ⟨Bx,hBx,bX,rfl⟩ hlt;have hms:=minAt_snoc pre x;obtain⟨id,st,at_,tr,tok,pth⟩:=x;simp only [InfoD.cells,infoCells] at bX hms ⊢;have HM:=hid_intro hms;clear hms;generalize minAt pre=m at *;have c1:=b1.cell;have f1:=b1.frozen;have x2:=bX.cell 2 (v:=.int .u64 at_) rfl
  gi_wp2
  exact⟨(KeepsOthers.setCell _ _ _).from _,KeepsT.boxed_set b1 (by decide) _,by rw [show minAt _=_ from hid_elim HM];exact b1.set _,hB1.setCell (p:=⟨w.heap.size,0,none⟩) (Nat.le_refl _) _⟩
 case done =>
  rintro D zs V hD rfl ⟨b1,hB1⟩ hK;have cS:=b1.cell
  gi_wp2
  refine⟨by simp,.inl ⟨_,_,rfl,run_takeDeferred hK,?_⟩⟩;exact⟨_,results_tmp rfl _ _ _,rfl,hB1.trans (belowK_b (w:=w) (Nat.le_refl _) V D _ _ (by omega) hK rfl rfl)⟩
 case stop =>
  rintro D c pre V _ _ h _;exact h.elim
theorem Tryz.hNext (hb vb mt ml:Nat) (vx:VX) (tm tn ln:Int) (tks:List TokE) (lks:List LeaE) (w:World) (dv rv:Value) (hH:BoxN w hb 78 #[dv,rv,.pointer (some ⟨vb,0,none⟩)]) (hV:VaultAt w vb mt ml vx tm tn ln tks lks) :
  Calls prog 21 #[.pointer (some ⟨hb,0,none⟩)] w fun e w'=>e=.returned (.int .u64 (minAt (infosOf tm tks lks)))∧Below w.heap.size w w':=by
 have hN:=callsIn_wide.1 (vNext vb mt ml vx tm tn ln tks lks w hV);generalize minAt (infosOf tm tks lks)=m at *;have c2:=hH.cell 2 (v:=.pointer (some ⟨vb,0,none⟩)) rfl;go_enter func21,ntmps21
 go_wp2_with (go_at_call 45;refine hN.mono ?_;rintro e w' ⟨rfl,hb⟩)
 go_ret;exact⟨rfl,hb⟩
end Go.Proofs
