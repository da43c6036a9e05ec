import Derived.Test.YtjbekgjdempbiaaGreatDoorJRvC
import Derived.Test.YtjbekgjdempbiaaGreatDoorJRefN
import Derived.Test.YtjbekgjdempbiaaGreatDoorJInvC
import Derived.Test.YtjbekgjdempbiaaGreatDoorJAskTree
set_option maxRecDepth 100000
set_option maxHeartbeats 8000000
namespace Go.Proofs
open Go.RowKit Go.Sort Go.Lib Go.Shelf
def ThingD.kin (t:ThingD):Bool × Nat × Int:=(t.token,t.n,t.of_)
theorem upI_kin (n:Int) (L:List ThingD):upI n L=(L.map ThingD.kin).foldl (fun u x=>if x.1&&(x.2.1:Int)==n then x.2.2 else u) (-1):=by
 rw [List.foldl_map];rfl
theorem belowB_kin {L L':List ThingD} (h:L.map ThingD.kin=L'.map ThingD.kin) (top:Int):∀(f:Nat) (n:Int),belowB L top f n=belowB L' top f n
 | 0,_=>rfl
 | f+1,n=>by rw [belowB,belowB,upI_kin n L,upI_kin n L',h,belowB_kin h top f]
theorem belowI_kin {L L':List ThingD} (h:L.map ThingD.kin=L'.map ThingD.kin) (top n:Int):belowI L top n=belowI L' top n:=belowB_kin h top _ n
theorem Older.kin {L L':List ThingD} (h:L.map ThingD.kin=L'.map ThingD.kin) (ho:Older L):Older L':=by
 intro t ht h1
 have hm:t.kin∈L.map ThingD.kin:=by rw [h];exact List.mem_map_of_mem ht
 obtain⟨s,hs,he⟩:=List.mem_map.1 hm;have e1:s.token=t.token:=congrArg (·.1) he;have e2:s.n=t.n:=congrArg (·.2.1) he;have e3:s.of_=t.of_:=congrArg (·.2.2) he;have:=ho s hs (by rw [e1];exact h1);rw [← e2,← e3];exact this
theorem doomAt_kin (tm:Int) (t:ThingD):(doomAt tm t).kin=t.kin:=by unfold doomAt;split <;> rfl
theorem mixI_kin {f:ThingD→ThingD} (hf:∀ t,(f t).kin=t.kin) (k:Nat) (L:List ThingD):(mixI f k L).map ThingD.kin=L.map ThingD.kin:=by
 have hc:ThingD.kin ∘ f=ThingD.kin:=funext hf;rw [mixI,List.map_append,List.map_map,hc,← List.map_append,List.take_append_drop]
def ThingD.ownI (t:ThingD):Int:=if t.token then (t.n:Int) else t.of_
def tokF (L:List ThingD) (top tm:Int) (t:ThingD):ThingD:=if belowI L top t.ownI then doomAt tm t else t
theorem tokF_kin (L:List ThingD) (top tm:Int) (t:ThingD):(tokF L top tm t).kin=t.kin:=by
 unfold tokF;split
 ·exact doomAt_kin tm t
 ·rfl
theorem Tryz.rRevTok_miss (B:Nat) (vb g cap:Nat) (L:List ThingD) (tm tn ln:Int) (id:List UInt8) (w:World) (h:RVAt B w vb g cap L tm tn ln) (hm:findI id L = -1∨∃(i:Nat) (t:ThingD),L[i]? = some t∧findI id L=i∧(t.token=false∨t.n=0)) :
  Calls prog 116 #[.pointer (some ⟨vb,0,none⟩),.string ⟨id.toArray⟩] w fun e w'=>e=.returned (.int .i64 1)∧Below w.heap.size w w':=by
 have hF:=rFind B vb g cap L tm tn ln id w h
 rcases hm with hm | ⟨i,t,ht,hfi,htk⟩
 ·rw [hm] at hF
  clear hm;go_enter func116,ntmps116
  go_wp2_with (go_at_call 157;refine hF.mono ?_;rintro e w1 ⟨rfl,hb1⟩)
  exact bodyPost_ret (v:=.int .i64 1) (by simp [results,results116,go_sem]) rfl ⟨rfl,hb1⟩
 ·rw [hfi] at hF
  have hlim:=h.lim;have hil:i<L.length:=(List.getElem?_eq_some_iff.1 ht).1
  have hc:=fun W (hb:Below w.heap.size w W)=>((h.below hb).cells ht).1
  have hc1:=fun W (hb:Below w.heap.size w W)=>((h.below hb).cells ht).2.1
  have hv:=fun W (hb:Below w.heap.size w W)=>(h.below hb).v.cell 0 (v:=.slice (some ⟨g,0,none⟩) L.length cap) rfl
  obtain⟨len,hlen⟩:∃ len,L.length=len:=⟨_,rfl⟩
  rw [hlen] at hil hlim;simp only [hlen] at hv;clear hlen hfi
  have hnn:¬ (i:Int)<0:=by omega
  obtain⟨tk,n,o,p,a,l,dm,tr⟩:=t;clear ht;simp only at *;cases tk
  ·clear htk
   go_enter func116,ntmps116
   go_wp2_with (go_at_call 157;refine hF.mono ?_;rintro e w1 ⟨rfl,hb1⟩;have x0:=hc w1 hb1;have v0:=hv w1 hb1)
   exact bodyPost_ret (v:=.int .i64 1) (by simp [results,results116,go_sem]) rfl ⟨rfl,hb1⟩
  ·obtain rfl:n=0:=by simpa using htk
   clear htk;go_enter func116,ntmps116
   go_wp2_with (go_at_call 157;refine hF.mono ?_;rintro e w1 ⟨rfl,hb1⟩;have x0:=hc w1 hb1;have x1:=hc1 w1 hb1;have v0:=hv w1 hb1)
   exact bodyPost_ret (v:=.int .i64 1) (by simp [results,results116,go_sem]) rfl ⟨rfl,hb1⟩
theorem Tryz.rRevTok_hit (B:Nat) (vb g cap:Nat) (L:List ThingD) (tm tn ln:Int) (id:List UInt8) (w:World) (h:RVAt B w vb g cap L tm tn ln) (hB:B≤w.heap.size) (hne:vb≠g) (hup:Older L) (i:Nat) (t:ThingD) (ht:L[i]? = some t) (hfi:findI id L=i) (htk:t.token=true) (hn0:t.n≠0) :
  Calls prog 116 #[.pointer (some ⟨vb,0,none⟩),.string ⟨id.toArray⟩] w fun e w'=>e=.returned (.int .i64 0)∧RVAt B w' vb g cap (L.map (tokF L t.n tm)) tm tn ln∧Below B w w'∧Spares [vb,g] w w':=by
 have hF:=rFind B vb g cap L tm tn ln id w h;rw [hfi] at hF;have hlim:=h.lim;have hil:i<L.length:=(List.getElem?_eq_some_iff.1 ht).1
 have hc:=fun W (hb:Below w.heap.size w W)=>((h.below hb).cells ht).1
 have hc1:=fun W (hb:Below w.heap.size w W)=>((h.below hb).cells ht).2.1
 rw [htk] at hc
 have hv:=fun W (hb:Below w.heap.size w W)=>(h.below hb).v.cell 0 (v:=.slice (some ⟨g,0,none⟩) L.length cap) rfl
 have Hnum:=hid_intro h.num;have Hofs:=hid_intro h.ofs
 obtain⟨len,hlen⟩:∃ len,L.length=len:=⟨_,rfl⟩
 rw [hlen] at hil hlim;simp only [hlen] at hv;have Hlen:=hid_intro hlen;have hR0:=hid_intro (fun W (hb:Below w.heap.size w W)=>h.below hb);clear hlen hfi htk h ht
 have hnn:¬ (i:Int)<0:=by omega
 have hn0':((t.n:Int)==0)=false:=by rw [beq_eq_false_iff_ne];omega
 clear hn0
 obtain⟨top,htop⟩:∃ top:Int,(t.n:Int)=top:=⟨_,rfl⟩
 rw [htop] at hn0' ⊢;simp only [htop] at hc1;clear htop;have Hup:=hid_intro hup;clear hup;go_enter func116,ntmps116
 go_wp2_with (go_at_call 157;refine hF.mono ?_;rintro e w1 ⟨rfl,hb1⟩;have x0:=hc w1 hb1;have x1:=hc1 w1 hb1;have v0:=hv w1 hb1)
 have hB1:=hb1.mono hB;have hS1:Spares [vb,g] w w1:=Spares.of_below hb1;have hR1:=hid_elim hR0 w1 hb1;have hBw1:B≤w1.heap.size:=Nat.le_trans hB hb1.size;clear hF hc hc1 hv hR0 hb1
 go_loopw [7] (fun i wr=>∃ k:Nat,k≤len∧i=.int .i64 k∧RVAt B wr vb g cap (mixI (tokF L top tm) k L) tm tn ln∧Below B w wr∧Spares [vb,g] w wr∧B≤wr.heap.size) (fun i _=>len-(intOf i).toNat)
 case atStart=>exact⟨0,Nat.zero_le _,rfl,by rw [mixI_zero];exact hR1,hB1,hS1,hBw1⟩
 case round =>
  obtain⟨k,hk,rfl,hR,hBw,hSp,hBs⟩:=hrel
  rename_i wr
  have c0:=hR.v.cell 0 (v:=.slice (some ⟨g,0,none⟩) (mixI (tokF L top tm) k L).length cap) rfl;rw [mixI_length,hid_elim Hlen] at c0
  by_cases hkl:k<len
  ·obtain⟨s,hs⟩:∃ s,L[k]? = some s:=⟨L[k]'(by have:=hid_elim Hlen;omega),by simp [hid_elim Hlen,hkl]⟩
   have hsm:=mixI_get (tokF L top tm) hs;have hms:=hid_intro (mixI_succ (tokF L top tm) hs);have hkeep:=hid_intro (fun(e:tokF L top tm s=s)=>(show (mixI (tokF L top tm) k L).set k (tokF L top tm s)=mixI (tokF L top tm) k L by rw [e];exact set_same hsm));have hkin:=mixI_kin (tokF_kin L top tm) k L;have hpf:Hid (tokF L top tm s=if belowI L top s.ownI then doomAt tm s else s):=hid_intro rfl;have hown:Hid (s.ownI=if s.token then (s.n:Int) else s.of_):=hid_intro rfl;have hnum:=hid_elim Hnum s (List.mem_of_getElem? hs);have hofs:=hid_elim Hofs s (List.mem_of_getElem? hs)
   have hownB : -1≤s.ownI∧s.ownI<9223372036854775808:=by
    rw [hid_elim hown]
    split
    ·omega
    ·rcases hofs with e | ⟨m,e,hm⟩ <;> rw [e] <;> omega
   have hBl:=fun W (hb:Below wr.heap.size wr W)=>rBelow B vb g cap _ tm tn ln s.ownI top hownB.1 hownB.2 (Older.kin hkin.symm (hid_elim Hup)) W (hR.below hb)
   simp only [belowI_kin hkin] at hBl;have hD:=hid_intro (fun W (hb:Below wr.heap.size wr W)=>rDoom B vb g cap _ tm tn ln W (hR.below hb) (Nat.le_trans hBs hb.size) hne k s hsm);obtain⟨y0,y1,y2,y3,y4,y5,y6,y7⟩:=hR.cells hsm;have HR:=hid_intro hR;generalize tokF L top tm s=ff at *;generalize hbb:belowI L top s.ownI=bb at *;generalize hoo:s.ownI=oo at *;obtain⟨tk,n,o,p,a,l,dm,tr⟩:=s;clear hR hs hsm hkin hnum hofs hownB hbb hoo;simp only at *;cases tk
   case' false =>
    have ho:oo=o:=hid_elim hown;rw [← ho] at y2
   case' true =>
    have ho:oo=(n:Int):=hid_elim hown;rw [← ho] at y1
   all_goals
    clear ho hown;cases bb
   all_goals
    go_wp2_with (first
     | (go_at_call 160;refine(hBl _ (by first | exact(Below.refl _ _).alloc (Nat.le_refl _) _ | exact((Below.refl _ _).alloc (Nat.le_refl _) _).drew)).mono ?_;rintro e w3 ⟨rfl,rfl⟩)
     | (go_at_call 158;refine(hid_elim hD _ (by first | exact(Below.refl _ _).alloc (Nat.le_refl _) _ | exact((Below.refl _ _).alloc (Nat.le_refl _) _).drew)).mono ?_;rintro e w5 ⟨rfl,hr5,hb5,hs5⟩))
    go_roundw
    case rel=>first
     | exact⟨k+1,by omega,rfl,by rw [hid_elim hms,hid_elim hpf];exact hr5,(hBw.alloc hBs _).trans hb5,(hSp.alloc _).trans hs5,Nat.le_trans hBs (Nat.le_trans (by simp) hb5.size)⟩
     | exact⟨k+1,by omega,rfl,by rw [hid_elim hms,hid_elim hkeep (hid_elim hpf)];exact(hid_elim HR).below ((Below.refl _ _).alloc (Nat.le_refl _) _),hBw.alloc hBs _,hSp.alloc _,by simp;omega⟩
    case measure=>simp [intOf];omega
  ·obtain rfl:k=len:=by omega
   have hmx:=hid_intro (mixI_all (tokF L top tm) L (Nat.le_of_eq (hid_elim Hlen)));have HR:=hid_intro hR;clear hR;go_wp2;exact bodyPost_ret (v:=.int .i64 0) (by simp [results,results116,go_sem]) rfl ⟨rfl,by rw [← hid_elim hmx];exact hid_elim HR,hBw,hSp⟩
def goPre (pre:List UInt8) (tm:Int) (t:ThingD):Bool:=!t.token&&beginsB t.pth pre&&decide (t.state tm=1)
def preF (pre:List UInt8) (tm:Int) (t:ThingD):ThingD:=if goPre pre tm t then doomAt tm t else t
def preN (pre:List UInt8) (tm:Int) (L:List ThingD):Nat:=(L.filter (goPre pre tm)).length
theorem preN_snoc (pre:List UInt8) (tm:Int) (L:List ThingD) (t:ThingD):preN pre tm (L ++ [t])=preN pre tm L+(if goPre pre tm t then 1 else 0):=by
 unfold preN
 by_cases h:goPre pre tm t=true <;> simp [h]
theorem preN_le (pre:List UInt8) (tm:Int) (L:List ThingD):preN pre tm L≤L.length:=List.length_filter_le _ _
theorem Tryz.rRevPre_err (vb:Nat) (pre:List UInt8) (hq:pre.length≤1000000) (h0:pre ≠ []) (hp:pathI pre=false) (w:World) :
  Calls prog 115 #[.pointer (some ⟨vb,0,none⟩),.string ⟨pre.toArray⟩] w fun e w'=>e=.returned (.tuple #[.int .i64 0,.int .i64 2])∧w'=w:=by
 have hP:=fun W=>rPathed pre (by omega) W
 rw [hp] at hP
 have hne:(pre == [])=false:=by simpa using h0
 clear h0;go_enter func115,ntmps115
 go_wp2_with (go_at_call 156;refine(hP _).mono ?_;rintro e w1 ⟨rfl,rfl⟩)
 exact bodyPost_ret (v:=.tuple #[.int .i64 0,.int .i64 2]) (by simp [results,results115,go_sem]) rfl ⟨rfl,rfl⟩
theorem Tryz.rRevPre_ok (B:Nat) (vb g cap:Nat) (L:List ThingD) (tm tn ln:Int) (pre:List UInt8) (hq:pre.length≤1000000) (w:World) (h:RVAt B w vb g cap L tm tn ln) (hB:B≤w.heap.size) (hne:vb≠g) (hok:pre = []∨pathI pre=true) :
  Calls prog 115 #[.pointer (some ⟨vb,0,none⟩),.string ⟨pre.toArray⟩] w fun e w'=>e=.returned (.tuple #[.int .i64 (preN pre tm L),.int .i64 0])∧RVAt B w' vb g cap (L.map (preF pre tm)) tm tn ln∧Below B w w'∧Spares [vb,g] w w':=by
 have hP:=fun W=>rPathed pre (by omega) W
 have hlim:=h.lim
 obtain⟨len,hlen⟩:∃ len,L.length=len:=⟨_,rfl⟩
 rw [hlen] at hlim;have Hlen:=hid_intro hlen;clear hlen;have H:=hid_intro h;clear h
 have hok':(pre == [])=true∨((pre == [])=false∧pathI pre=true):=by
  rcases hok with h1 | h1
  ·exact .inl (by simpa using h1)
  ·by_cases h2:(pre == [])=true
   ·exact .inl h2
   ·exact .inr ⟨by simpa using h2,h1⟩
 clear hok
 rcases hok' with hz | ⟨hz,hb⟩
 case' inr=>rw [hb] at hP
 case' inl=>generalize pathI pre=b at hP
 all_goals
  go_enter func115,ntmps115
  go_wp2_with (go_at_call 156;refine(hP _).mono ?_;rintro e w1 ⟨rfl,rfl⟩)
  go_loopw [7,8] (fun n i wr=>∃ k:Nat,k≤len∧i=.int .i64 k∧n=.int .i64 (preN pre tm (L.take k))∧RVAt B wr vb g cap (mixI (preF pre tm) k L) tm tn ln∧Below B w1 wr∧Spares [vb,g] w1 wr) (fun _ i _=>len-(intOf i).toNat)
  case atStart=>exact⟨0,Nat.zero_le _,rfl,rfl,by rw [mixI_zero];exact hid_elim H,Below.refl _ _,Spares.of_below (Below.refl _ _)⟩
  case round =>
   obtain⟨k,hk,rfl,rfl,hR,hBw,hSp⟩:=hrel
   rename_i wr
   have c0:=hR.v.cell 0 (v:=.slice (some ⟨g,0,none⟩) (mixI (preF pre tm) k L).length cap) rfl;rw [mixI_length,hid_elim Hlen] at c0
   by_cases hkl:k<len
   ·obtain⟨t,ht⟩:∃ t,L[k]? = some t:=⟨L[k]'(by have:=hid_elim Hlen;omega),by simp [hid_elim Hlen,hkl]⟩
    have htm:=mixI_get (preF pre tm) ht;have hms:=hid_intro (mixI_succ (preF pre tm) ht);have hkeep:=hid_intro (fun(e:preF pre tm t=t)=>(show (mixI (preF pre tm) k L).set k (preF pre tm t)=mixI (preF pre tm) k L by rw [e];exact set_same htm));have hsn:=hid_intro (preN_snoc pre tm (L.take k) t);have htk:=hid_intro (take_get ht);have hcl:=preN_le pre tm (L.take k)
    have hcl':(L.take k).length≤k:=by simp;omega
    have hgo:Hid (goPre pre tm t=(!t.token&&beginsB t.pth pre&&decide (t.state tm=1))):=hid_intro rfl;have hpf:Hid (preF pre tm t=if goPre pre tm t then doomAt tm t else t):=hid_intro rfl
    have hBg:=fun W=>rBegins t.pth pre hq W
    have hS:=fun W (hb:Below wr.heap.size wr W)=>rState t vb tm W ((hR.below hb).v.cell 1 (v:=.int .u64 tm) rfl)
    have hD:=hid_intro (fun W (hb:Below wr.heap.size wr W)=>rDoom B vb g cap _ tm tn ln W (hR.below hb) (Nat.le_trans hBw.size hb.size |> Nat.le_trans hB) hne k t htm)
    have hc:=fun W (hb:Below wr.heap.size wr W)=>(hR.below hb).cells htm
    have hv:=fun W (hb:Below wr.heap.size wr W)=>(hR.below hb).v.cell 0 (v:=.slice (some ⟨g,0,none⟩) (mixI (preF pre tm) k L).length cap) rfl
    simp only [mixI_length,hid_elim Hlen] at hv;obtain⟨x0,x1,x2,x3,x4,x5,x6,x7⟩:=hc wr (Below.refl _ _);simp only [ThingD.cells] at hS;have HR:=hid_intro hR;clear hR ht htm;generalize hgg:goPre pre tm t=gg at *;generalize hff:preF pre tm t=ff at *;generalize hbb:beginsB t.pth pre=bb at *;generalize preN pre tm (L.take k)=c at *;generalize hst:t.state tm=st at *;obtain⟨tk,n,o,p,a,l,dm,tr⟩:=t;clear hgg hff hbb hst;simp only at *
    by_cases hs1:st=1
    ·subst hs1
     cases tk <;> cases bb
     case false.true =>
      have hgt:Hid (gg=true):=hid_intro (by rw [hid_elim hgo];rfl)
      go_wp2_with (first
       | (go_at_call 159;refine(hBg _).mono ?_;rintro e w3 ⟨rfl,rfl⟩)
       | (go_at_call 150;refine(hS _ (by first | exact Below.refl _ _ | exact((Below.refl _ _).drew))).mono ?_;rintro e w4 ⟨rfl,hb4⟩;obtain⟨y0,y1,y2,y3,y4,y5,y6,y7⟩:=hc w4 hb4;have v4:=hv w4 hb4)
       | (go_at_call 158;refine(hid_elim hD _ hb4).mono ?_;rintro e w5 ⟨rfl,hr5,hb5,hs5⟩))
      go_roundw
      case rel=>exact⟨k+1,by omega,rfl,by rw [hid_elim htk,hid_elim hsn,hid_elim hgt];rfl,by rw [hid_elim hms,hid_elim hpf,hid_elim hgt];exact hr5,(hBw.trans (hb4.mono (Nat.le_trans hB hBw.size))).trans hb5,(hSp.trans (Spares.of_below hb4)).trans hs5⟩
      case measure=>simp [intOf];omega
     all_goals
      have hgt:Hid (gg=false):=hid_intro (by rw [hid_elim hgo];rfl)
      go_wp2_with (first
       | (go_at_call 159;refine(hBg _).mono ?_;rintro e w3 ⟨rfl,rfl⟩)
       | (go_at_call 150;refine(hS _ (by first | exact Below.refl _ _ | exact((Below.refl _ _).drew))).mono ?_;rintro e w4 ⟨rfl,hb4⟩;obtain⟨y0,y1,y2,y3,y4,y5,y6,y7⟩:=hc w4 hb4;have v4:=hv w4 hb4))
      go_roundw
      case rel=>exact⟨k+1,by omega,rfl,by rw [hid_elim htk,hid_elim hsn,hid_elim hgt];rfl,by rw [hid_elim hms,hid_elim hkeep (by rw [hid_elim hpf,hid_elim hgt];rfl)];exact(hid_elim HR).below hb4,hBw.trans (hb4.mono (Nat.le_trans hB hBw.size)),hSp.trans (Spares.of_below hb4)⟩
      case measure=>simp [intOf];omega
    ·have hs1':(st==1)=false:=by simpa using hs1
     have hgt:Hid (gg=false):=hid_intro (by rw [hid_elim hgo];simp [hs1]);clear hs1
     cases tk <;> cases bb
     all_goals
      go_wp2_with (first
       | (go_at_call 159;refine(hBg _).mono ?_;rintro e w3 ⟨rfl,rfl⟩)
       | (go_at_call 150;refine(hS _ (by first | exact Below.refl _ _ | exact((Below.refl _ _).drew))).mono ?_;rintro e w4 ⟨rfl,hb4⟩;obtain⟨y0,y1,y2,y3,y4,y5,y6,y7⟩:=hc w4 hb4;have v4:=hv w4 hb4))
      go_roundw
      case rel=>exact⟨k+1,by omega,rfl,by rw [hid_elim htk,hid_elim hsn,hid_elim hgt];rfl,by rw [hid_elim hms,hid_elim hkeep (by rw [hid_elim hpf,hid_elim hgt];rfl)];exact(hid_elim HR).below hb4,hBw.trans (hb4.mono (Nat.le_trans hB hBw.size)),hSp.trans (Spares.of_below hb4)⟩
      case measure=>simp [intOf];omega
   ·obtain rfl:k=len:=by omega
    have htk:=hid_intro (take_all (Nat.le_of_eq (hid_elim Hlen)));have hmx:=hid_intro (mixI_all (preF pre tm) L (Nat.le_of_eq (hid_elim Hlen)));generalize hcc:preN pre tm (L.take k)=c at *;have HR:=hid_intro hR;clear hR;go_wp2;exact bodyPost_ret (v:=.tuple #[.int .i64 (c:Int),.int .i64 0]) (by simp [results,results115,go_sem]) rfl ⟨by rw [← hcc,hid_elim htk],by rw [← hid_elim hmx];exact hid_elim HR,hBw,hSp⟩
end Go.Proofs
namespace Go.Proofs
open Go.RowKit Go.Sort Go.Lib Go.Shelf Go.Maps Go.WideMaps
theorem find_hit {id:List UInt8} {L:List ThingD} {i:Nat} {t:ThingD} (h:L.findIdx? (fun t=>t.id==id)=some i) (ht:L[i]? = some t):t.id=id:=by
 obtain⟨hl,hp,-⟩:=List.findIdx?_eq_some_iff_getElem.1 h;obtain⟨h1,h2⟩:=List.getElem?_eq_some_iff.1 ht;rw [h2] at hp
 simpa using hp
theorem find_no {id:List UInt8} {L:List ThingD} (h:L.findIdx? (fun t=>t.id==id)=none):∀ x∈L,x.id≠id:=fun x hx e=>by
 have:=List.findIdx?_eq_none_iff.1 h x hx;simp [e] at this
theorem parse_of_id {t:ThingD} {id:List UInt8} (h:t.id=id) (hn:t.n<u64lim):parseN id=(kd t.token,(t.n:Int)):=by
 rw [← h,ThingD.id_nm];exact parseN_nm t.token hn
section
variable {tks:List TokE} {lks:List LeaE} {L:List ThingD}
theorem no_lea (h:Rel tks lks L) {id:List UInt8} (hno:∀ x∈L,x.id=id→x.token=true):∀ l∈lks,parseN id≠(2,(l.n:Int)):=fun l hl e=>by
 have e2:id=nmStr (kd false) l.n:=nm_of_parse e;have:=hno (thL l) (h.mem_lea hl) (by rw [ThingD.id_nm,e2];rfl);cases this
theorem no_tok (h:Rel tks lks L) {id:List UInt8} (hno:∀ x∈L,x.id=id→x.token=false):∀ t∈tks,parseN id≠(1,(t.n:Int)):=fun l hl e=>by
 have e2:id=nmStr (kd true) l.n:=nm_of_parse e;have:=hno (thT l) (h.mem_tok hl) (by rw [ThingD.id_nm,e2];rfl);cases this
theorem id_same (h:Rel tks lks L) (ok:ListsOk tks lks) {x y:ThingD} (hx:x∈L) (hy:y∈L) (e:x.id=y.id):x=y:=by
 rw [ThingD.id_nm,ThingD.id_nm] at e;obtain⟨e1,e2⟩:=nmStr_inj (h.num ok hx) (h.num ok hy) e;exact h.uniq ok hx hy e1 e2
theorem Rel.older {N:Nat} {s:VSt} (h:Rel s.tks s.lks L) (ha:Alive N s):Older L:=fun t ht htk=>by
 obtain⟨z,hz,rfl⟩:=h.tok_mem ht htk;unfold thT
 rcases ha.old z hz with⟨-,h2,-⟩ | ⟨h1,h2⟩
 ·simp [h2];omega
 ·simp [h1];omega
end
theorem upI_all {n v:Int}:∀ {L:List ThingD},(∀ t∈L,t.token=true→(t.n:Int)=n→t.of_=v)→(∃ t∈L,t.token=true∧(t.n:Int)=n)→upI n L=v:=by
 intro L;unfold upI
 suffices ∀ u,(u=v∨∃ t∈L,t.token=true∧(t.n:Int)=n)→(∀ t∈L,t.token=true→(t.n:Int)=n→t.of_=v)→L.foldl (fun u t=>if t.token&&(t.n:Int)==n then t.of_ else u) u=v from fun h1 h2=>this _ (.inr h2) h1
 induction L with
 | nil =>
  rintro u (h | ⟨t,ht,-⟩) _
  ·exact h
  ·cases ht
 | cons a L ih =>
  intro u hu h;rw [List.foldl_cons];refine ih _ ?_ (fun x hx=>h x (List.mem_cons_of_mem _ hx))
  by_cases hc:(a.token&&(a.n:Int)==n)=true
  ·rw [if_pos hc]
   simp only [Bool.and_eq_true,beq_iff_eq] at hc;exact .inl (h a (by simp) hc.1 hc.2)
  ·rw [if_neg hc]
   rcases hu with hu | ⟨t,ht,h1,h2⟩
   ·exact .inl hu
   ·rcases List.mem_cons.1 ht with rfl | ht
    ·exact absurd (by simp [h1,h2]) hc
    ·exact .inr ⟨t,ht,h1,h2⟩
theorem climb {N:Nat} {s:VSt} {L:List ThingD} (h:Rel s.tks s.lks L) (ok:ListsOk s.tks s.lks) (ha:Alive N s) (top:Nat):∀ n:Nat,n<u64lim→∃ m,ClimbN s.tks (1,(top:Int)) (belowI L top n) m (1,(n:Int)):=by
 intro n
 induction n using Nat.strongRecOn with
 | ind n ih =>
  intro hn
  by_cases ht:n=top
  ·subst ht
   exact⟨0,.here (belowI_top L (by omega)) rfl⟩
  ·have hne:((1:Int),(n:Int))≠(1,(top:Int)):=fun e=>ht (by have:=(Prod.mk.inj e).2;omega)
   rw [belowI_up (h.older ha) (by omega) (by omega)]
   by_cases hex:∃ t∈s.tks,t.n=n
   ·obtain⟨t,htm,rfl⟩:=hex
    have hu:upI (t.n:Int) L=(thT t).of_:=upI_all (fun x hx hk hxn=>by
     have:x=thT t:=h.uniq ok hx (h.mem_tok htm) hk (by have:(thT t).n=t.n:=rfl;omega)
     rw [this]) ⟨thT t,h.mem_tok htm,rfl,rfl⟩
    rw [hu];unfold thT
    rcases ha.old t htm with⟨h1,h2,h3⟩ | ⟨h1,h2⟩
    ·have hf:belowI L (top:Int) (-1)=false:=belowI_neg L _ (by omega)
     simp only [h2,show ((0:Int)=1)=False from by simp,if_false,hf];exact⟨1,.up t htm hne rfl (.off rfl (by rw [h2];intro e;have:=(Prod.mk.inj e).1;omega) (by rw [h2,h3];exact⟨by decide,by decide⟩) (fun z _ e=>by rw [h2] at e;have:=(Prod.mk.inj e).1;omega))⟩
    ·obtain⟨m,hm⟩:=ih t.au h2 (ok.limT t htm).2
     simp only [h1,if_true];exact⟨m+1,.up t htm hne rfl (by rw [h1];exact hm)⟩
   ·have hu:upI (n:Int) L = -1:=upI_ind (p:=fun u=>u = -1) _ rfl L (fun x hx hk hxn=>by
     obtain⟨z,hz,rfl⟩:=h.tok_mem hx hk
     exact absurd ⟨z,hz,by have:(thT z).n=z.n:=rfl;omega⟩ hex)
    rw [hu,belowI_neg L _ (by omega)];exact⟨0,.off rfl hne (wfNm (.inl rfl) hn) (fun z hz e=>hex ⟨z,hz,by have:=(Prod.mk.inj e).2;omega⟩)⟩
theorem goPre_goL {tm:Int} {pre:List UInt8} {l:LeaE}:goPre pre tm (thL l)=goL tm (fun l=>beginsB l.pth pre) l:=by
 unfold goPre goL
 have:decide ((thL l).state tm=1)=(!l.pd&&decide (tm<l.at_)):=by
  rw [Bool.eq_iff_iff,decide_eq_true_iff];exact state_lea
 rw [this];simp [thL,Bool.and_comm]
theorem doom_lea {tm:Int} {l:LeaE} (h:(!l.pd&&decide (tm<l.at_))=true):doomAt tm (thL l)=thL (revL tm l):=by
 unfold doomAt;rw [if_pos (state_lea.2 h)];rfl
theorem doom_lea_no {tm:Int} {l:LeaE} (h:(!l.pd&&decide (tm<l.at_))=false):doomAt tm (thL l)=thL l:=by
 unfold doomAt;rw [if_neg (fun e=>by rw [state_lea.1 e] at h;cases h)]
theorem doomAt_token (tm:Int) (t:ThingD):(doomAt tm t).token=t.token:=by unfold doomAt;split <;> rfl
theorem Rel.pre {s:VSt} {L:List ThingD} (h:Rel s.tks s.lks L) (pre:List UInt8) (tm:Int):Rel s.tks (s.lks.map fun z=>if goL tm (fun l=>beginsB l.pth pre) z then revL tm z else z) (L.map (preF pre tm)):=by
 have:=h.mapped (preF pre tm) id (fun z=>if goL tm (fun l=>beginsB l.pth pre) z then revL tm z else z) (fun z=>by unfold preF;split;exact doomAt_token _ _;rfl) (fun t _=>by simp [preF,goPre,thT]) (fun l _=>?_) (fun _ _=>rfl) (fun l _=>by split <;> rfl)
 ·simpa using this
 ·unfold preF
  rw [goPre_goL]
  by_cases hg:goL tm (fun l=>beginsB l.pth pre) l=true
  ·rw [if_pos hg,if_pos hg]
   exact doom_lea (by unfold goL at hg;simp only [Bool.and_eq_true] at hg ⊢;exact hg.1)
  ·rw [if_neg hg,if_neg hg]
theorem Rel.preN {s:VSt} {L:List ThingD} (h:Rel s.tks s.lks L) (pre:List UInt8) (tm:Int):preN pre tm L=(revI tm (fun l=>beginsB l.pth pre) s.lks).length:=by
 have e1:L.filter (goPre pre tm)=(L.filter (fun t=>t.token==false)).filter (goPre pre tm):=by
  rw [List.filter_filter];refine List.filter_congr (fun x _=>?_);unfold goPre
  cases x.token <;> simp
 unfold Proofs.preN;rw [e1,h.leas,List.filter_map,List.length_map,show (goPre pre tm ∘ thL)=goL tm (fun l=>beginsB l.pth pre) from by funext l;exact goPre_goL];unfold revI;rw [List.length_map];rfl
theorem Rel.tree {s:VSt} {L:List ThingD} (h:Rel s.tks s.lks L) (top tm:Int):Rel (s.tks.map fun z=>if !z.pd&&belowI L top z.n then revT tm z else z) (s.lks.map fun z=>if goL tm (fun l=>belowI L top l.au) z then revL tm z else z) (L.map (tokF L top tm)):=by
 refine h.mapped (tokF L top tm) _ _ (fun z=>by unfold tokF;split;exact doomAt_token _ _;rfl) (fun t _=>?_) (fun l _=>?_) (fun l _=>by split <;> rfl) (fun l _=>by split <;> rfl)
 ·unfold tokF
  rw [show (thT t).ownI=(t.n:Int) from rfl];cases hb:belowI L top (t.n:Int)
  ·simp
  ·cases hp:t.pd
   ·simp [doomAt,ThingD.state,thT,revT,hp]
   ·simp [doomAt,ThingD.state,thT,hp]
 ·unfold tokF
  rw [show (thL l).ownI=(l.au:Int) from rfl];cases hb:belowI L top (l.au:Int)
  ·simp [goL,hb]
  ·by_cases hlv:(!l.pd&&decide (tm<l.at_))=true
   ·have hg:goL tm (fun l=>belowI L top l.au) l=true:=by unfold goL;rw [hlv];exact hb
    rw [if_pos rfl,if_pos hg];exact doom_lea hlv
   ·have hlv':(!l.pd&&decide (tm<l.at_))=false:=by simpa using hlv
    have hg:goL tm (fun l=>belowI L top l.au) l=false:=by unfold goL;rw [hlv'];rfl
    rw [if_pos rfl,if_neg (by simp [hg])];exact doom_lea_no hlv'
theorem set_back {α:Type} {l:List α} {i:Nat} {x:α} (h:l[i]? = some x):l.set i x=l:=by
 apply List.ext_getElem?;intro j
 by_cases e:i=j
 ·subst e
  rw [List.getElem?_set_self (List.getElem?_eq_some_iff.1 h).1,h]
 ·rw [List.getElem?_set_ne e]
theorem Tryz.okRevoke {w0:World} {B N wb hb:Nat} (w:World) (hI:Inv w0 B N wb hb w) (hN:N<20000) (ss tt:List UInt8) (hss:ss.length≤1000000) (aa bb ff ke pa:Int) :
  Calls prog 62 #[.pointer (some ⟨wb,0,none⟩),.agg (StepD.cells ⟨5,ss,tt,aa,bb,ff,-1,-1,ke,pa⟩)] w fun e w'=>e=.returned (.bool true)∧Inv w0 B (N+1) wb hb w':=by
 obtain⟨rb,σ,ra,g,cap,L,hS,hR,hl,hW,hn,hra⟩:=hI.ex;have hok:=hS.wh.v.va.ok
 have hpos:0<L.length:=by rw [hl.len];have:=hn.pos;omega
 have b9:=hS.b9;have hcs:=hn.small hN;have hnm:=hn.more (Nat.le_succ N)
 have same:∀(k:Int) (hk:k=0∨ErrK k),(∀ W,Whole W σ.k σ.vx σ.tm σ.s σ.c (-1) (-1)→Calls prog 51 #[.pointer (some ⟨σ.k.vb,0,none⟩),.string ⟨ss.toArray⟩] W fun e w'=>e=.returned (errV k)∧Below W.heap.size W w')→(∀ B' W nb g' cap',B'≤W.heap.size→B'≤nb→RVAt B' W nb g' cap' L σ.tm ((σ.s.tn+1:Nat):Int) ((σ.s.ln+1:Nat):Int)→Calls prog 114 #[.pointer (some ⟨nb,0,none⟩),.string ⟨ss.toArray⟩] W fun e w'=>e=.returned (.int .i64 k)∧RVAt B' w' nb g' cap' L σ.tm ((σ.s.tn+1:Nat):Int) ((σ.s.ln+1:Nat):Int)∧Spares [nb,g'] W w') →
   Calls prog 62 #[.pointer (some ⟨wb,0,none⟩),.agg (StepD.cells ⟨5,ss,tt,aa,bb,ff,-1,-1,ke,pa⟩)] w fun e w'=>e=.returned (.bool true)∧Inv w0 B (N+1) wb hb w':=fun k hk hc hd=>by
  have hA:=askRevoke B wb hb ra g cap σ.tm L _ _ w _ _ (loneSys B hb rb σ) (loneEx B hb rb (fun σ'=>σ'=σ)) hS hR hpos hW hI.hB b9 hI.bw hra ss tt aa bb ff (-1) (-1) ke pa k (fun a b c=>a=L∧b=((σ.s.tn+1:Nat):Int)∧c=((σ.s.ln+1:Nat):Int))
   (fun W _ hS'=>(hRevoke B hb rb σ W hS' ss ke pa (errV k) k (toldK k hk) _ (fun W' _ hV=>(hc W' hV).mono (fun _ _ h=>vSame hV h))).mono (fun _ _ h=>hostSame hS' h))
   (fun B' W nb g' cap' h1 h2 hR'=>(hd B' W nb g' cap' h1 h2 hR').mono (by rintro e w' ⟨rfl,hR2,hs2⟩;exact⟨g',cap',L,_,_,⟨rfl,rfl,rfl⟩,rfl,hR2,hs2⟩))
  refine hA.mono ?_;rintro e w' ⟨rfl,hA'⟩;exact⟨rfl,hA'.inv hI (by rintro _ _ _ _ rfl ⟨rfl,rfl,rfl⟩;exact⟨rfl,hl,rfl,rfl,hnm⟩)⟩
 have miss:(∀ l∈σ.s.lks,parseN ss≠(2,(l.n:Int)))→∀ W,Whole W σ.k σ.vx σ.tm σ.s σ.c (-1) (-1)→Calls prog 51 #[.pointer (some ⟨σ.k.vb,0,none⟩),.string ⟨ss.toArray⟩] W fun e w'=>e=.returned (errV 5)∧Below W.heap.size W w':=fun hno W hV=>vRevoke_miss σ.k σ.vx σ.tm σ.s σ.c (-1) (-1) W hV ss hss _ rfl 0 0 0 0 false [] 0 (fun W' hb'=>(hV.v.va.below hb').lookL_no (parseN_wf ss) hno)
 rcases findI_cases ss L with⟨i,t,hfi,ht,hf⟩ | ⟨hfi,hf⟩
 ·have hid:=find_hit hfi ht
  have hm:=List.mem_of_getElem? ht
  cases htk:t.token with
  | true =>
   exact same 5 (.inr (by simp [ErrK])) (miss (no_lea hl (fun x hx e=>by rw [id_same hl hok hx hm (e.trans hid.symm)];exact htk)))
    (fun B' W nb g' cap' _ _ hR'=>(rRevoke_miss B' nb g' cap' L σ.tm _ _ ss W hR' (.inr ⟨i,t,ht,hf,htk⟩)).mono (by rintro e w' ⟨rfl,hb'⟩;exact⟨rfl,hR'.below hb',Spares.of_below hb'⟩))
  | false =>
   obtain⟨k,l,hk,rfl,hrel⟩:=hl.lea_at ht htk;have hlm:=List.mem_of_getElem? hk;have hp:parseN ss=(2,(l.n:Int)):=parse_of_id hid (hl.num hok hm)
   by_cases hlv:(!l.pd&&decide (σ.tm<l.at_))=true
   ·have hkl:(keepLine σ.tm [.lea (revL σ.tm l)]).length≤1300000:=by
     have hokt:=hS.wh.v.okL l hlm;exact keepLine_len hS.wh.v.t0 hS.wh.v.t1 (s:=σ.s) ⟨⟨⟨hS.wh.v.t0,hS.wh.v.t1,hokt.r0,hokt.r1,hokt.l0,hokt.l1,hokt.p1,hokt.pa⟩,.inl ⟨l,hlm,rfl⟩,by have:=hn.nl;omega,(hok.limL l hlm).1,(hok.limL l hlm).2⟩,trivial⟩ (by simp)
    have hA:=askRevoke B wb hb ra g cap σ.tm L _ _ w _ _ (loneSys B hb rb σ) (loneEx B hb rb (fun σ'=>σ'=⟨σ.k,σ.vx,σ.tm,⟨σ.s.tn,σ.s.ln,σ.s.tks,σ.s.lks.set k (revL σ.tm l)⟩,σ.c++keepLine σ.tm [.lea (revL σ.tm l)]⟩)) hS hR hpos hW hI.hB b9 hI.bw hra ss tt aa bb ff (-1) (-1) ke pa 0 (fun a b c=>a=L.set i (thL (revL σ.tm l))∧b=((σ.s.tn+1:Nat):Int)∧c=((σ.s.ln+1:Nat):Int))
     (fun W _ hS'=>(hRevoke B hb rb σ W hS' ss ke pa (errV 0) 0 (toldK 0 (.inl rfl)) _ (fun W' _ hV=>by
      obtain⟨n,ak,au,at_,tr,pd,pth,la⟩:=l
      exact(vRevoke_ok σ.k σ.vx σ.tm σ.s σ.c (-1) (-1) W' hV (by decide) (by decide) (by decide) (by decide) hcs ss hss ak n au at_ tr pd pth la k hk hp hlv (by have:=hn.nl;omega) _ rfl _ rfl).mono (by rintro e w' ⟨rfl,hV',hs'⟩;exact⟨rfl,⟨_,_,_,⟨rfl,rfl,rfl⟩,hV'⟩,hs'⟩))).mono (fun _ _ h=>hostSame hS' h))
     (fun B' W nb g' cap' hBW _ hR'=>(rRevoke_hit B' nb g' cap' L σ.tm _ _ ss W hR' hBW hR'.ne i _ ht hf htk).mono (by
      rintro e w' ⟨rfl,hR2,-,hs2⟩;rw [doom_lea hlv] at hR2
      exact⟨g',cap',_,_,_,⟨rfl,rfl,rfl⟩,rfl,hR2,hs2⟩))
    refine hA.mono ?_;rintro e w' ⟨rfl,hA'⟩;refine⟨rfl,hA'.inv hI ?_⟩;rintro _ _ _ _ rfl ⟨rfl,rfl,rfl⟩;refine⟨rfl,?_,rfl,rfl,⟨hn.nt,?_,hn.pos,?_,?_,?_,?_,hn.hd.set ht rfl rfl⟩⟩
    ·have huq:∀ j u,L[j]? = some u→u.token=(thL l).token→u.n=(thL l).n→j=i:=fun j u hj e1 e2=>hl.idx hok ht hj e1 e2
     rw [set_map hok.incL hk,set_eq_map ht huq]
     have:=hl.mapped (fun z=>if keyB (thL l) z then thL (revL σ.tm l) else z) id (fun z=>if z.n=l.n then revL σ.tm l else z) (fun z=>by
       split
       ·rename_i e;exact(keyB_iff.1 e).1.symm
       ·rfl) (fun z hz=>by simp [keyB,thT,thL]) (fun z hz=>?_) (fun z hz=>rfl) (fun z hz=>?_)
     ·simpa using this
     ·by_cases e:z.n=l.n
      ·have:keyB (thL l) (thL z)=true:=keyB_iff.2 ⟨rfl,e⟩
       rw [if_pos this,if_pos e]
      ·have:keyB (thL l) (thL z)=false:=by rw [Bool.eq_false_iff,Ne,keyB_iff];exact fun h=>e h.2
       rw [if_neg (by simp [this]),if_neg e]
     ·split
      ·rename_i e
       have:z=l:=inc_inj (f:=LeaE.n) hok.incL hz hlm e;rw [this];rfl
      ·rfl
    ·simpa using hn.nl
    ·have:=hn.tn;show σ.s.tn≤N+1;omega
    ·have:=hn.ln;show σ.s.ln≤N+1;omega
    ·have:=hn.c;simp only [List.length_append];omega
    ·exact(hn.al.more (Nat.le_succ N)).setL hk rfl rfl rfl rfl
   ·have hlv':(!l.pd&&decide (σ.tm<l.at_))=false:=by simpa using hlv
    exact same 0 (.inl rfl) (fun W hV=>vRevoke_old σ.k σ.vx σ.tm σ.s σ.c (-1) (-1) W hV ss hss _ hp l.ak l.au l.at_ l.tr l.pd l.pth l.last hlv' (fun W' hb'=>(hV.v.va.below hb').lookL hlm))
     (fun B' W nb g' cap' hBW _ hR'=>(rRevoke_hit B' nb g' cap' L σ.tm _ _ ss W hR' hBW hR'.ne i _ ht hf htk).mono (by
      rintro e w' ⟨rfl,hR2,-,hs2⟩;rw [doom_lea_no hlv',set_back ht] at hR2
      exact⟨rfl,hR2,hs2⟩))
 ·exact same 5 (.inr (by simp [ErrK])) (miss (no_lea hl (fun x hx e=>absurd e (find_no hfi x hx))))
   (fun B' W nb g' cap' _ _ hR'=>(rRevoke_miss B' nb g' cap' L σ.tm _ _ ss W hR' (.inl hf)).mono (by rintro e w' ⟨rfl,hb'⟩;exact⟨rfl,hR'.below hb',Spares.of_below hb'⟩))
theorem Tryz.okPrefix {w0:World} {B N wb hb:Nat} (w:World) (hI:Inv w0 B N wb hb w) (hN:N<20000) (ss tt:List UInt8) (htt:tt.length≤1000000) (aa bb ff ke pa:Int) :
  Calls prog 62 #[.pointer (some ⟨wb,0,none⟩),.agg (StepD.cells ⟨6,ss,tt,aa,bb,ff,-1,-1,ke,pa⟩)] w fun e w'=>e=.returned (.bool true)∧Inv w0 B (N+1) wb hb w':=by
 obtain⟨rb,σ,ra,g,cap,L,hS,hR,hl,hW,hn,hra⟩:=hI.ex;have hok:=hS.wh.v.va.ok
 have hpos:0<L.length:=by rw [hl.len];have:=hn.pos;omega
 have b9:=hS.b9;have hcs:=hn.small hN;have hnm:=hn.more (Nat.le_succ N)
 by_cases hgo:tt = []∨pathI tt=true
 ·have hA:=askPrefix B wb hb ra g cap σ.tm L _ _ w _ _ (loneSys B hb rb σ) (loneEx B hb rb (fun σ'=>σ'.tm=σ.tm∧σ'.s=⟨σ.s.tn,σ.s.ln,σ.s.tks,σ.s.lks.map fun z=>if goL σ.tm (fun l=>beginsB l.pth tt) z then revL σ.tm z else z⟩∧σ'.c.length≤σ.c.length+1300000)) hS hR hpos hW hI.hB b9 hI.bw hra ss tt aa bb ff (-1) (-1) ke pa 0 ((revI σ.tm (fun l=>beginsB l.pth tt) σ.s.lks).length:Nat) (fun h=>absurd rfl h) (fun a b c=>a=L.map (preF tt σ.tm)∧b=((σ.s.tn+1:Nat):Int)∧c=((σ.s.ln+1:Nat):Int))
   (fun W _ hS'=>(hRevPre B hb rb σ W hS' tt ke pa (.int .i64 ((revI σ.tm (fun l=>beginsB l.pth tt) σ.s.lks).length:Nat)) (errV 0) 0 (toldK 0 (.inl rfl)) (fun σ'=>σ'.tm=σ.tm∧σ'.s=⟨σ.s.tn,σ.s.ln,σ.s.tks,σ.s.lks.map fun z=>if goL σ.tm (fun l=>beginsB l.pth tt) z then revL σ.tm z else z⟩∧σ'.c.length≤σ.c.length+1300000) (fun W' _ hV=>(vRevPre_ok σ.k σ.vx σ.tm σ.s σ.c (-1) (-1) W' hV (by decide) (by decide) (by decide) (by decide) hcs tt htt hgo (by have:=hn.nt;omega) (by have:=hn.nl;omega)).mono (by rintro e w' ⟨rfl,⟨c',l',f',hc',hV'⟩,hs'⟩;exact⟨rfl,⟨⟨σ.k,σ.vx,σ.tm,_,c'⟩,l',f',⟨⟨rfl,rfl,hc'⟩,rfl,rfl⟩,hV'⟩,hs'⟩))).mono (fun _ _ h=>hostSame hS' h))
   (fun B' W nb g' cap' hBW _ hR'=>(rRevPre_ok B' nb g' cap' L σ.tm _ _ tt htt W hR' hBW hR'.ne hgo).mono (by
    rintro e w' ⟨rfl,hR2,-,hs2⟩;rw [hl.preN]
    exact⟨g',cap',_,_,_,⟨rfl,rfl,rfl⟩,rfl,hR2,hs2⟩))
  refine hA.mono ?_;rintro e w' ⟨rfl,hA'⟩;refine⟨rfl,hA'.inv hI ?_⟩;rintro σ' _ _ _ ⟨h1,h2,h3⟩ ⟨rfl,rfl,rfl⟩;obtain⟨k',vx',tm',s',c'⟩:=σ';simp only at h1 h2 h3;subst h1 h2;refine⟨rfl,hl.pre tt σ.tm,rfl,rfl,⟨hn.nt,?_,hn.pos,?_,?_,?_,?_,hn.hd.map _ (fun x=>by unfold preF doomAt;split <;> (try split) <;> exact⟨rfl,rfl⟩)⟩⟩
  ·simpa using hn.nl
  ·have:=hn.tn;show σ.s.tn≤N+1;omega
  ·have:=hn.ln;show σ.s.ln≤N+1;omega
  ·have:=hn.c;show c'.length≤(N+1)*40000000;omega
  ·have:=(hn.al.more (Nat.le_succ N)).mapped (tn':=σ.s.tn) (ln':=σ.s.ln) id (fun z=>if goL σ.tm (fun l=>beginsB l.pth tt) z then revL σ.tm z else z) (fun t ht=>⟨rfl,rfl,rfl,rfl,fun _=>rfl⟩) (fun t ht=>by split <;> exact⟨rfl,rfl,rfl,rfl⟩)
   simpa using this
 ·have h0:tt ≠ []:=fun e=>hgo (.inl e)
  have hbad:pathI tt=false:=by simpa using fun e=>hgo (.inr e)
  have hA:=askPrefix B wb hb ra g cap σ.tm L _ _ w _ _ (loneSys B hb rb σ) (loneEx B hb rb (fun σ'=>σ'=σ)) hS hR hpos hW hI.hB b9 hI.bw hra ss tt aa bb ff (-1) (-1) ke pa 2 0 (fun _=>rfl) (fun a b c=>a=L∧b=((σ.s.tn+1:Nat):Int)∧c=((σ.s.ln+1:Nat):Int))
   (fun W _ hS'=>(hRevPre B hb rb σ W hS' tt ke pa (.int .i64 0) (errV 2) 2 (toldK 2 (.inr (by simp [ErrK]))) _ (fun W' _ hV=>(vRevPre_err σ.k.vb W' tt htt h0 hbad).mono (fun _ _ h=>vSame hV h))).mono (fun _ _ h=>hostSame hS' h))
   (fun B' W nb g' cap' _ _ hR'=>(rRevPre_err nb tt htt h0 hbad W).mono (by rintro e w' ⟨rfl,rfl⟩;exact⟨g',cap',L,_,_,⟨rfl,rfl,rfl⟩,rfl,hR',Spares.of_below (Below.refl _ _)⟩))
  refine hA.mono ?_;rintro e w' ⟨rfl,hA'⟩;exact⟨rfl,hA'.inv hI (by rintro _ _ _ _ rfl ⟨rfl,rfl,rfl⟩;exact⟨rfl,hl,rfl,rfl,hnm⟩)⟩
theorem Tryz.okTree {w0:World} {B N wb hb:Nat} (w:World) (hI:Inv w0 B N wb hb w) (hN:N<20000) (ss tt:List UInt8) (hss:ss.length≤1000000) (aa bb ff ke pa:Int) :
  Calls prog 62 #[.pointer (some ⟨wb,0,none⟩),.agg (StepD.cells ⟨7,ss,tt,aa,bb,ff,-1,-1,ke,pa⟩)] w fun e w'=>e=.returned (.bool true)∧Inv w0 B (N+1) wb hb w':=by
 obtain⟨rb,σ,ra,g,cap,L,hS,hR,hl,hW,hn,hra⟩:=hI.ex;have hok:=hS.wh.v.va.ok
 have hpos:0<L.length:=by rw [hl.len];have:=hn.pos;omega
 have b9:=hS.b9;have hcs:=hn.small hN;have hnm:=hn.more (Nat.le_succ N)
 have same:(∀ W,Whole W σ.k σ.vx σ.tm σ.s σ.c (-1) (-1)→Calls prog 50 #[.pointer (some ⟨σ.k.vb,0,none⟩),.string ⟨ss.toArray⟩] W fun e w'=>e=.returned (errV 1)∧Below W.heap.size W w')→(findI ss L = -1∨∃(i:Nat) (t:ThingD),L[i]? = some t∧findI ss L=i∧(t.token=false∨t.n=0)) →
   Calls prog 62 #[.pointer (some ⟨wb,0,none⟩),.agg (StepD.cells ⟨7,ss,tt,aa,bb,ff,-1,-1,ke,pa⟩)] w fun e w'=>e=.returned (.bool true)∧Inv w0 B (N+1) wb hb w':=fun hc hd=>by
  have hA:=askTree B wb hb ra g cap σ.tm L _ _ w _ _ (loneSys B hb rb σ) (loneEx B hb rb (fun σ'=>σ'=σ)) hS hR hpos hW hI.hB b9 hI.bw hra ss tt aa bb ff (-1) (-1) ke pa 1 (fun a b c=>a=L∧b=((σ.s.tn+1:Nat):Int)∧c=((σ.s.ln+1:Nat):Int))
   (fun W _ hS'=>(hRevTok B hb rb σ W hS' ss ke pa (errV 1) 1 (toldK 1 (.inr (by simp [ErrK]))) _ (fun W' _ hV=>(hc W' hV).mono (fun _ _ h=>vSame hV h))).mono (fun _ _ h=>hostSame hS' h))
   (fun B' W nb g' cap' _ _ hR'=>(rRevTok_miss B' nb g' cap' L σ.tm _ _ ss W hR' hd).mono (by rintro e w' ⟨rfl,hb'⟩;exact⟨g',cap',L,_,_,⟨rfl,rfl,rfl⟩,rfl,hR'.below hb',Spares.of_below hb'⟩))
  refine hA.mono ?_;rintro e w' ⟨rfl,hA'⟩;exact⟨rfl,hA'.inv hI (by rintro _ _ _ _ rfl ⟨rfl,rfl,rfl⟩;exact⟨rfl,hl,rfl,rfl,hnm⟩)⟩
 have no:(∀ t∈σ.s.tks,parseN ss≠(1,(t.n:Int)))→∀ W,Whole W σ.k σ.vx σ.tm σ.s σ.c (-1) (-1)→Calls prog 50 #[.pointer (some ⟨σ.k.vb,0,none⟩),.string ⟨ss.toArray⟩] W fun e w'=>e=.returned (errV 1)∧Below W.heap.size W w':=fun hno W hV=>callsIn_wide.1 (vRevTok_no σ.k.vb σ.k.mt σ.k.ml σ.vx σ.tm σ.s.tn σ.s.ln σ.s.tks σ.s.lks W hV.v.va ss hss _ rfl (parseN_wf ss) hno)
 rcases findI_cases ss L with⟨i,t,hfi,ht,hf⟩ | ⟨hfi,hf⟩
 ·have hid:=find_hit hfi ht
  have hm:=List.mem_of_getElem? ht
  cases htk:t.token with
  | false=>exact same (no (no_tok hl (fun x hx e=>by rw [id_same hl hok hx hm (e.trans hid.symm)];exact htk))) (.inr ⟨i,t,ht,hf,.inl htk⟩)
  | true =>
   obtain⟨z,hz,rfl⟩:=hl.tok_mem hm htk;have hp:parseN ss=(1,(z.n:Int)):=parse_of_id hid (hl.num hok hm)
   by_cases h0:z.n=0
   ·exact same (fun W hV=>callsIn_wide.1 (vRevTok_root σ.k.vb σ.k.mt σ.k.ml σ.vx σ.tm σ.s.tn σ.s.ln σ.s.tks σ.s.lks W hV.v.va ss hss z hz h0 hp)) (.inr ⟨i,_,ht,hf,.inr h0⟩)
   ·have hold:=hl.older hn.al
    have hA:=askTree B wb hb ra g cap σ.tm L _ _ w _ _ (loneSys B hb rb σ) (loneEx B hb rb (fun σ'=>σ'.tm=σ.tm∧σ'.s=⟨σ.s.tn,σ.s.ln,σ.s.tks.map (fun y=>if !y.pd&&belowI L (z.n:Int) y.n then revT σ.tm y else y),σ.s.lks.map (fun y=>if goL σ.tm (fun l=>belowI L (z.n:Int) l.au) y then revL σ.tm y else y)⟩∧σ'.c.length≤σ.c.length+1300000)) hS hR hpos hW hI.hB b9 hI.bw hra ss tt aa bb ff (-1) (-1) ke pa 0 (fun a b c=>a=L.map (tokF L (z.n:Int) σ.tm)∧b=((σ.s.tn+1:Nat):Int)∧c=((σ.s.ln+1:Nat):Int))
     (fun W _ hS'=>(hRevTok B hb rb σ W hS' ss ke pa (errV 0) 0 (toldK 0 (.inl rfl)) (fun σ'=>σ'.tm=σ.tm∧σ'.s=⟨σ.s.tn,σ.s.ln,σ.s.tks.map (fun y=>if !y.pd&&belowI L (z.n:Int) y.n then revT σ.tm y else y),σ.s.lks.map (fun y=>if goL σ.tm (fun l=>belowI L (z.n:Int) l.au) y then revL σ.tm y else y)⟩∧σ'.c.length≤σ.c.length+1300000) (fun W' _ hV=>(callsIn_wide.1 (vRevTok_ok σ.k σ.vx σ.tm σ.s.tn σ.s.ln σ.s.tks σ.s.lks σ.c (-1) (-1) W' hV (by decide) (by decide) (by decide) (by decide) hcs (by have:=hn.nt;omega) (by have:=hn.nl;omega) ss hss z hz h0 hp (fun l=>belowI L (z.n:Int) l.au) (fun y=>belowI L (z.n:Int) y.n) (fun l hlm=>by
       rw [hl.akL l hlm]
       exact climb hl hok hn.al z.n l.au (hok.limL l hlm).2) (fun y hy=>climb hl hok hn.al z.n y.n (hok.limT y hy).1))).mono (by rintro e w' ⟨rfl,⟨c',l',f',hc',hV'⟩,hs'⟩;exact⟨rfl,⟨⟨σ.k,σ.vx,σ.tm,_,c'⟩,l',f',⟨⟨rfl,rfl,hc'⟩,rfl,rfl⟩,hV'⟩,hs'⟩))).mono (fun _ _ h=>hostSame hS' h))
     (fun B' W nb g' cap' hBW _ hR'=>(rRevTok_hit B' nb g' cap' L σ.tm _ _ ss W hR' hBW hR'.ne hold i _ ht hf htk h0).mono (by
      rintro e w' ⟨rfl,hR2,-,hs2⟩
      exact⟨g',cap',_,_,_,⟨rfl,rfl,rfl⟩,rfl,hR2,hs2⟩))
    refine hA.mono ?_;rintro e w' ⟨rfl,hA'⟩;refine⟨rfl,hA'.inv hI ?_⟩;rintro σ' _ _ _ ⟨h1,h2,h3⟩ ⟨rfl,rfl,rfl⟩;obtain⟨k',vx',tm',s',c'⟩:=σ';simp only at h1 h2 h3;subst h1 h2;refine⟨rfl,hl.tree (z.n:Int) σ.tm,rfl,rfl,⟨?_,?_,?_,?_,?_,?_,?_,hn.hd.map _ (fun x=>by unfold tokF doomAt;split <;> (try split) <;> exact⟨rfl,rfl⟩)⟩⟩
    ·simpa using hn.nt
    ·simpa using hn.nl
    ·simpa using hn.pos
    ·have:=hn.tn;show σ.s.tn≤N+1;omega
    ·have:=hn.ln;show σ.s.ln≤N+1;omega
    ·have:=hn.c;show c'.length≤(N+1)*40000000;omega
    ·refine(hn.al.more (Nat.le_succ N)).mapped _ _ (fun t ht=>?_) (fun t ht=>by split <;> exact⟨rfl,rfl,rfl,rfl⟩)
     split
     ·rename_i e
      refine⟨rfl,rfl,rfl,rfl,fun en=>?_⟩;have hu:=upI_lt hold (n:=0) (by omega)
      have hb:belowI L (z.n:Int) 0=false:=by rw [belowI_up hold (by omega) (by omega)];exact belowI_neg L _ hu
      rw [en] at e;simp [hb] at e
     ·exact⟨rfl,rfl,rfl,rfl,fun _=>rfl⟩
 ·exact same (no (no_tok hl (fun x hx e=>absurd e (find_no hfi x hx)))) (.inl hf)
end Go.Proofs
