import Derived.Test.YtjbekgjdempbiaaGreatDoorJSq
import Derived.Test.YtjbekgjdempbiaaGreatDoorJQueK
import Derived.Test.YtjbekgjdempbiaaGreatDoorJQueA
import Derived.Test.YtjbekgjdempbiaaGreatDoorJRel
import Derived.Test.YtjbekgjdempbiaaGreatDoorJCodeE
import Derived.Test.YtjbekgjdempbiaaGreatDoorJAsW
set_option maxRecDepth 100000
set_option maxHeartbeats 8000000
namespace Go.Proofs
open Go.RowKit Go.Sort Go.Lib Go.Shelf Go.Maps Go.WideMaps
theorem Tryz.Xjt (B rb:Nat) (v:Value) (n:Nat) (xs:List Value) (f:Int) (hf0:0<=f) (hf1:f<=18446744073709551615) (id:List UInt8) (w:World) (hR:BoxN w rb 88 #[v,.int .u64 f]) (hrow:w.ownsRow B 9 1 v n xs) (hB:B<=w.heap.size) (hn:n<=1000) :
  Calls prog 331 #[.pointer (some ⟨rb,0,none⟩),.string ⟨id.toArray⟩] w fun e w'=>e=.returned (.bool (!(f % 2==1)))/\∃ g cap,BoxN w' rb 88 #[.slice (some ⟨g,0,none⟩) (n+1) cap,.int .u64 (f / 2)]/\w'.ownsRow B 9 1 (.slice (some ⟨g,0,none⟩) (n+1) cap) (n+1) (xs ++ [.string ⟨id.toArray⟩])/\rb≠g/\(v.ownBlock=some g\/w.heap.size<=g)/\Spares (rb :: v.ownBlock.toList) w w':=by
 obtain⟨i0,hi,hz0,hz1,hz2⟩:=info_parts Xbo;have hnr:=hR.not_row (e:=9) (by decide) hrow;have lv:=hR.lt;have c0:=hR.cell 0 (v:=v) rfl;have ca:=(hR.alloc (.cells #[.string ⟨id.toArray⟩] 9)).cell 0 (v:=v) rfl;have bS:=BoxN.new w 9 #[.string ⟨id.toArray⟩];have hand:=and_one_u64 f hf0 hf1;clear hf0 hf1;go_enter func331,ntmps331
 go_wp2_with (at_builtin;refine wpList_append_lies _ rfl _ _ 40 rfl B 9 i0 _ 1 16 underlying40 hi hz0 hz1 hz2 rfl (by decide) _ _ _ rfl (hrow.alloc _) ⟨w.heap.size,0,none⟩ 1 1 [.string ⟨id.toArray⟩] rfl rfl (World.news_of_block bS) (by simp [Value.oneCell']) (by omega) (by unfold maxLen;omega) (by omega) (by simp;omega) _ rfl ?_;intro g cap w1 hown hgrow hat hlt;have hR1:=(hR.alloc (.cells #[.string ⟨id.toArray⟩] 9)).kept hgrow hnr;have d0:=hR1.cell 0 (v:=v) rfl;have d1:=hR1.cell 1 (v:=.int .u64 f) rfl;have fz0:=hR1.frozen 0;have fz1:=hR1.frozen 1)
 have hg1:(w.alloc (.cells #[.string ⟨id.toArray⟩] 9)).grownBy w1 v.ownBlock:=hgrow;have hat1:v.ownBlock=some g\/g=(w.alloc (.cells #[.string ⟨id.toArray⟩] 9)).heap.size:=hat;clear hgrow hat;rw [World.size_alloc] at hat1
 have hrg:rb≠g:=by
  rcases hat1 with e | e
  ·exact fun e'=>hnr (by rw [e,e'])
  omega
 have hwg:v.ownBlock=some g\/w.heap.size<=g:=by
  rcases hat1 with e | e
  ·exact .inl e
  exact .inr (by omega)
 have hS:Spares (rb :: v.ownBlock.toList) w w1:=((Spares.of_below (Below.refl _ w)).alloc _).trans (Spares.Xaw hg1 (fun b hb=>by rw [hb];simp));go_ret;exact⟨rfl,g,cap,(hR1.set 0 (.slice (some ⟨g,0,none⟩) (n+1) cap)).set 1 (.int .u64 (f / 2)),(hown.kept (Vw w1 rb 0 (.slice (some ⟨g,0,none⟩) (n+1) cap)) (.inr (by simp [Value.ownBlock];exact fun e=>hrg e.symm))).kept (Vw _ rb 1 (.int .u64 (f / 2))) (.inr (by simp [Value.ownBlock];exact fun e=>hrg e.symm)),hrg,hwg,(hS.set (by simp) _ _).set (by simp) _ _⟩
end Go.Proofs
namespace Go.Proofs
open Go.RowKit Go.Sort Go.Lib Go.Shelf
theorem Xek:∀(L:List ThingD) (i j:Nat) (t t':ThingD) (v:Value),L[i]? = some t->j<8->t'.cells=t.cells.setIfInBounds j v->X9 (L.set i t')=(X9 L).set (i*8+j) v
 | [],_,_,_,_,_,h,_,_=>by simp at h
 | x :: xs,0,j,t,t',v,h,hj,hc=>by
  obtain rfl:x=t:=by simpa using h
  show t'.cells.toList++X9 xs=(x.cells.toList++X9 xs).set (0*8+j) _
  rw [List.set_append_left _ _ (by rw [ThingD.cells_size];omega),hc,Array.toList_setIfInBounds,show 0*8+j=j by omega]
 | x :: xs,i+1,j,t,t',v,h,hj,hc=>by
  show x.cells.toList++X9 (xs.set i t')=(x.cells.toList++X9 xs).set ((i+1)*8+j) _
  rw [List.set_append_right _ _ (by rw [ThingD.cells_size];omega),ThingD.cells_size,show (i+1)*8+j-8=i*8+j by omega,Xek xs i j t t' v (by simpa using h) hj hc]
theorem Tryz.Xk.Xsi {B:Nat} {W:World} {vb g cap:Nat} {L:List ThingD} {tm tn ln:Int} (h:Xk B W vb g cap L tm tn ln) (hne:vb≠g) {i j:Nat} {t t':ThingD} (hi:L[i]? = some t) (hj:j<8) (v:Value) (hc:t'.cells=t.cells.setIfInBounds j v) (hn:t'.n=t.n) (ho:t'.of_=t.of_) :
  Xk B (W.setCell ⟨g,i*8+j,none⟩ v) vb g cap (L.set i t') tm tn ln:=by
 have hlen:(L.set i t').length=L.length:=List.length_set ..
 have hmem:∀ x∈L.set i t',x∈L\/x=t':=fun x hx=>List.mem_or_eq_of_mem_set hx
 have htm:t∈L:=List.mem_of_getElem? hi;refine⟨?_,?_,?_,?_,?_⟩
 ·rw [hlen];exact h.v.other hne _ _
 ·rw [hlen]
  obtain⟨h1,⟨e1,-⟩ | ⟨g',cap',cur,e1,e2,e3,e4,e5,e6,e7⟩⟩:=h.row
  ·cases e1
  cases e1;refine⟨by rw [Z3,hlen],.inr ⟨g,cap,cur.setIfInBounds (i*8+j) v,rfl,e2,?_,e4,e5,by simpa using e6,?_⟩⟩
  ·exact BoxN.set (W:=W) (t:=105) (cs:=cur) e3 (i*8+j) v
  rw [Array.toList_setIfInBounds,List.take_set,e7,Xek L i j t t' v hi hj hc]
 ·rw [hlen];exact h.lim
 ·intro x hx;rcases hmem x hx with hx | rfl
  ·exact h.num x hx
  rw [hn];exact h.num t htm
 intro x hx;rcases hmem x hx with hx | rfl
 ·exact h.ofs x hx
 unfold ThingD.OfOk;rw [ho];exact h.ofs t htm
def Y2 (tm:Int) (t:ThingD):ThingD:=if t.state tm=1 then { t with doomed:=true,at_:=tm } else t
theorem Tryz.Xk.Xuf {B:Nat} {W:World} {vb g cap:Nat} {L:List ThingD} {tm tn ln:Int} (h:Xk B W vb g cap L tm tn ln) (hne:vb≠g) {i:Nat} {t:ThingD} (hi:L[i]? = some t) :
  Xk B (W.setCell ⟨g,i*8+6,none⟩ (.bool true)) vb g cap (L.set i { t with doomed:=true }) tm tn ln:=
 h.Xsi hne hi (j:=6) (t':={ t with doomed:=true }) (by omega) (.bool true) rfl rfl rfl
theorem Tryz.Xk.Xug {B:Nat} {W:World} {vb g cap:Nat} {L:List ThingD} {tm tn ln:Int} {i:Nat} {t:ThingD} (h:Xk B W vb g cap (L.set i { t with doomed:=true }) tm tn ln) (hne:vb≠g) (hi:L[i]? = some t) (hs:t.state tm=1) :
  Xk B (W.setCell ⟨g,i*8+4,none⟩ (.int .u64 tm)) vb g cap (L.set i (Y2 tm t)) tm tn ln:=by
 have hil:i<L.length:=(List.getElem?_eq_some_iff.1 hi).1;have h2:=h.Xsi hne (i:=i) (j:=4) (t:={ t with doomed:=true }) (t':={ t with doomed:=true,at_:=tm }) (by simp [hil]) (by omega) (.int .u64 tm) rfl rfl rfl;rw [List.set_set] at h2;rw [Y2,if_pos hs];exact h2
abbrev Xrz (g vb i:Nat) (s:Value) (tm:Int) (W:World):Prop:=W.cell? ⟨vb,0,none⟩=some s/\W.cell? ⟨vb,1,none⟩=some (.int .u64 tm)/\W.cell? ⟨g,i*8+4,none⟩=some (X5 W ⟨g,i*8+4,none⟩)/\W.frozen? ⟨g,i*8+4,none⟩=false
theorem Tryz.Xk.Xnu {B:Nat} {W:World} {vb g cap len:Nat} {L:List ThingD} {tm tn ln:Int} (h:Xk B W vb g cap L tm tn ln) (hl:L.length=len) {i:Nat} (hi:i<L.length):Xrz g vb i (.slice (some ⟨g,0,none⟩) len cap) tm W.drew:=by
 subst hl
 obtain⟨t,ht⟩:∃ t,L[i]? = some t:=⟨L[i],by simp [hi]⟩
 exact⟨h.v.cell 0 rfl,h.v.cell 1 rfl,Xg (by show (W.cell? _).isSome;rw [(h.cells ht).2.2.2.2.1];rfl),h.Xav _⟩
theorem Tryz.Xpv (B:Nat) (vb g cap:Nat) (L:List ThingD) (tm tn ln:Int) (w:World) (h:Xk B w vb g cap L tm tn ln) (hB:B<=w.heap.size) (hne:vb≠g) (i:Nat) (t:ThingD) (ht:L[i]? = some t) :
  Calls prog 158 #[.pointer (some ⟨vb,0,none⟩),.int .i64 i] w fun e w'=>e=.returned (.tuple #[])/\Xk B w' vb g cap (L.set i (Y2 tm t)) tm tn ln/\Below B w w'/\Spares [vb,g] w w':=by
 have hS:=fun W (hb:Below w.heap.size w W)=>Xfo t vb tm W ((h.below hb).v.cell 1 (v:=.int .u64 tm) rfl)
 simp only [ThingD.cells] at hS;have hlim:=h.lim;have hil:i<L.length:=(List.getElem?_eq_some_iff.1 ht).1;have hgB:B<=g:=(h.row.lt g rfl).1
 have hc:=fun W (hb:Below w.heap.size w W)=>(h.below hb).cells ht
 have hv:=fun W (hb:Below w.heap.size w W)=>(h.below hb).v.cell 0 (v:=.slice (some ⟨g,0,none⟩) L.length cap) rfl
 have hv1:=fun W (hb:Below w.heap.size w W)=>(h.below hb).v.cell 1 (v:=.int .u64 tm) rfl
 have hfz:=fun W (hb:Below w.heap.size w W)=>(h.below hb).Xav (i*8+4)
 have hfz6:=fun W (hb:Below w.heap.size w W)=>(h.below hb).Xav (i*8+6)
 have hset1:=Xb (fun W (hb:Below w.heap.size w W)=>(h.below hb).Xuf hne ht);have hset2:=Xb (fun W (h':Xk B W vb g cap (L.set i { t with doomed:=true }) tm tn ln) (hs:t.state tm=1)=>h'.Xug hne ht hs);have hsame:=Xb (fun W (hb:Below w.heap.size w W) (hs:¬ t.state tm=1)=>(show Xk B W vb g cap (L.set i (Y2 tm t)) tm tn ln from by rw [Y2,if_neg hs,Xb5 ht];exact h.below hb));obtain⟨x0,x1,x2,x3,x4,x5,x6,x7⟩:=hc w (Below.refl _ _);have v0:=hv w (Below.refl _ _);have v1:=hv1 w (Below.refl _ _)
 obtain⟨len,hlen⟩:∃ len,L.length=len:=⟨_,rfl⟩
 rw [hlen] at hil hlim v0;simp only [hlen] at hv;have Hlen:=Xb hlen;clear hlen
 by_cases hs:t.state tm=1
 ·have hs':=Xb hs
  simp only [hs] at hS;clear hs;go_enter func158,ntmps158
  go_wp2_with (go_at_call 150;refine(hS _ (by first | exact Below.refl _ _ | exact((Below.refl _ _).drew))).mono ?_;rintro e w1 ⟨rfl,hb1⟩;have y0:=hv w1 hb1;have fz6:=hfz6 w1 hb1)
  clear hS;have r1:=Xa hset1 w1 hb1;have r2:=Xa hset2 _ r1 (Xa hs');have p1:=r1.Xnu (len:=len) (i:=i) (by rw [List.length_set];exact Xa Hlen) (by rw [List.length_set,Xa Hlen];exact hil);have p2:=r2.Xnu (len:=len) (i:=i) (by rw [List.length_set];exact Xa Hlen) (by rw [List.length_set,Xa Hlen];exact hil);have R2:=Xb r2;clear r1 r2
  go_region_held3 (Xrz g vb i (.slice (some ⟨g,0,none⟩) len cap) tm) (first
   | with_reducible exact p1
   | with_reducible exact p2
   | with_reducible assumption) (fail)
  all_goals
   go_wp2
   go_end0
   exact⟨rfl,(Xa R2).below (Xp.below (Xp.refl _).drew),(((hb1.mono hB).setCell (p:=⟨g,i*8+6,none⟩) hgB _).setCell (p:=⟨g,i*8+4,none⟩) hgB _).drew,(((Spares.of_below hb1).set (by simp) _ _).set (by simp) _ _).drew⟩
 have hs':=Xb hs
 have h2:(t.state tm==1)=false:=by simpa using hs
 clear hs;generalize t.state tm=st at *;go_enter func158,ntmps158
 go_wp2_with (go_at_call 150;refine(hS _ (by first | exact Below.refl _ _ | exact((Below.refl _ _).drew))).mono ?_;rintro e w1 ⟨rfl,hb1⟩)
 go_end0
 exact⟨rfl,Xa hsame _ hb1 (Xa hs'),hb1.mono hB,Spares.of_below hb1⟩
theorem Tryz.rTell (B:Nat) (vb g cap:Nat) (L:List ThingD) (tm tn ln:Int) (now:Int) (w:World) (h:Xk B w vb g cap L tm tn ln) (hvB:B<=vb) (hne:vb≠g) :
  Calls prog 102 #[.pointer (some ⟨vb,0,none⟩),.int .u64 now] w fun e w'=>e=.returned (.tuple #[])/\Xk B w' vb g cap L (max tm now) tn ln/\Below B w w'/\Spares [vb,g] w w':=by
 have v1:=h.v.cell 1 (v:=.int .u64 tm) rfl;have fz:=h.v.frozen 1;have hset:Hid (Xk B (w.setCell ⟨vb,1,none⟩ (.int .u64 now)) vb g cap L now tn ln):=Xb ⟨h.v.set 1 (.int .u64 now),(Spares.set (bs:=[vb]) (Spares.of_below (Below.refl _ w)) (by simp) _ _).row h.row (by simpa using Ne.symm hne),h.lim,h.num,h.ofs⟩
 by_cases hl:tm<now
 ·have hm:Hid (max tm now=now):=Xb (by omega)
  go_enter func102,ntmps102;go_wp2
  go_end0
  exact⟨rfl,by rw [Xa hm];exact Xa hset,(Below.refl _ _).setCell (p:=⟨vb,1,none⟩) hvB _,(Spares.of_below (Below.refl _ _)).set (by simp) _ _⟩
 have hm:Hid (max tm now=tm):=Xb (by omega);go_enter func102,ntmps102;go_wp2
 go_end0
 exact⟨rfl,by rw [Xa hm];exact h,Below.refl _ _,Spares.of_below (Below.refl _ _)⟩
def Y4 (n:Int) (L:List ThingD):Bool:=L.all (fun t=>!(t.of_==n))
theorem Tryz.rFree (B:Nat) (vb g cap:Nat) (L:List ThingD) (tm tn ln:Int) (n:Int) (w:World) (h:Xk B w vb g cap L tm tn ln) :
  Calls prog 152 #[.pointer (some ⟨vb,0,none⟩),.int .i64 n] w fun e w'=>e=.returned (.bool (Y4 n L))/\w'=w:=by
 have c0:=h.v.cell 0 (v:=.slice (some ⟨g,0,none⟩) L.length cap) rfl;have hlim:=h.lim
 obtain⟨len,hlen⟩:∃ len,L.length=len:=⟨_,rfl⟩
 rw [hlen] at c0 hlim;have Hlen:=Xb hlen;clear hlen;go_enter func152,ntmps152;go_wp2
 go_loopw [5] (fun i wr=>∃ k:Nat,k<=len/\i=.int .i64 k/\Hid (∀ x∈L.take k,x.of_≠n)/\wr=w) (fun i _=>len-(intOf i).toNat)
 case atStart=>exact⟨0,Nat.zero_le _,rfl,Xb (by simp),rfl⟩
 case round =>
  obtain⟨k,hk,rfl,hno,rfl⟩:=hrel
  by_cases hkl:k<len
  ·obtain⟨t,ht⟩:∃ t,L[k]? = some t:=⟨L[k]'(by have:=Xa Hlen;omega),by simp [Xa Hlen,hkl]⟩
   obtain⟨-,-,hc,-⟩:=h.cells ht;have htk:=Xb (Zs ht);have hmem:=Xb (List.mem_of_getElem? ht)
   by_cases ho:t.of_=n
   ·have hres:Hid (Y4 n L=false):=Xb (by
     rw [Y4,List.all_eq_false];exact⟨t,Xa hmem,by simp [ho]⟩)
    rw [ho] at hc;clear ho;go_wp2;go_ret;exact⟨by rw [Xa hres];rfl,rfl⟩
   have hno':Hid (∀ x∈L.take k ++ [t],x.of_≠n):=Xb (fun x hx=>by
    rcases List.mem_append.1 hx with hx | hx
    ·exact Xa hno x hx
    rw [List.mem_singleton.1 hx];exact ho)
   have hne:(t.of_==n)=false:=by simpa using ho
   clear ho;generalize t.of_=o at *;go_wp2
   go_roundw
   case rel=>exact⟨k+1,by omega,rfl,by rw [Xa htk];exact hno',by first | rfl | trivial⟩
   case measure=>simp [intOf];omega
  obtain rfl:k=len:=by omega
  have htk:=Xb (Ua (Nat.le_of_eq (Xa Hlen)))
  have hres:Hid (Y4 n L=true):=Xb (by
   have hh:=Xa hno;rw [Xa htk] at hh
   rw [Y4,List.all_eq_true];intro x hx;simpa using hh x hx)
  go_wp2;go_ret;exact⟨by rw [Xa hres];rfl,rfl⟩
def waitN:Nat->Int
 | 0=>2
 | 1=>4
 | 2=>8
 | 3=>16
 | _=>32
theorem Xex {k:Nat} (h:k<4):waitN k<32/\0<waitN k/\waitN k*2=waitN (k+1):=by
 match k,h with
 | 0,_=>decide
 | 1,_=>decide
 | 2,_=>decide
 | 3,_=>decide
theorem Us {k:Nat} (h:4<=k):waitN k=32:=by
 match k,h with
 | k+4,_=>rfl
theorem Vu (k:Nat):0<waitN k/\waitN k<=32:=by
 by_cases h:k<4
 ·have:=Xex h;omega
 rw [Us (by omega)];omega
def Ue (tm:Int) (t:ThingD):ThingD:={ t with tries:=t.tries+1,doomed:=true,at_:=plusI tm (waitN t.tries.toNat) }
theorem Tryz.Xk.Xwb {B:Nat} {W:World} {vb g cap:Nat} {L:List ThingD} {tm tn ln:Int} (h:Xk B W vb g cap L tm tn ln) (hne:vb≠g) {i:Nat} {t:ThingD} (hi:L[i]? = some t) :
  Xk B ((W.setCell ⟨g,i*8+7,none⟩ (.int .i64 (t.tries+1))).setCell ⟨g,i*8+6,none⟩ (.bool true)) vb g cap (L.set i { t with tries:=t.tries+1,doomed:=true }) tm tn ln:=by
 have hil:i<L.length:=(List.getElem?_eq_some_iff.1 hi).1;have h1:=h.Xsi hne hi (j:=7) (t':={ t with tries:=t.tries+1 }) (by omega) (.int .i64 (t.tries+1)) rfl rfl rfl;have h2:=h1.Xsi hne (i:=i) (j:=6) (t:={ t with tries:=t.tries+1 }) (t':={ t with tries:=t.tries+1,doomed:=true }) (by simp [hil]) (by omega) (.bool true) rfl rfl rfl;rw [List.set_set] at h2;exact h2
theorem Tryz.Xk.Xwc {B:Nat} {W:World} {vb g cap:Nat} {L:List ThingD} {tm tn ln:Int} {i:Nat} {t:ThingD} (h:Xk B W vb g cap (L.set i { t with tries:=t.tries+1,doomed:=true }) tm tn ln) (hne:vb≠g) (hi:L[i]? = some t) :
  Xk B (W.setCell ⟨g,i*8+4,none⟩ (.int .u64 (plusI tm (waitN t.tries.toNat)))) vb g cap (L.set i (Ue tm t)) tm tn ln:=by
 have hil:i<L.length:=(List.getElem?_eq_some_iff.1 hi).1;have h2:=h.Xsi hne (i:=i) (j:=4) (t:={ t with tries:=t.tries+1,doomed:=true }) (t':=Ue tm t) (by simp [hil]) (by omega) (.int .u64 (plusI tm (waitN t.tries.toNat))) rfl rfl rfl;rw [List.set_set] at h2;exact h2
theorem Tryz.Xjx (B:Nat) (vb g cap:Nat) (L:List ThingD) (tm tn ln:Int) (w:World) (h:Xk B w vb g cap L tm tn ln) (hB:B<=w.heap.size) (hne:vb≠g) (htm:0<=tm) (i:Nat) (t:ThingD) (ht:L[i]? = some t) (hr0:0<=t.tries) (hr1:t.tries<1000000) :
  Calls prog 107 #[.pointer (some ⟨vb,0,none⟩),.int .i64 i,.bool false] w fun e w'=>e=.returned (.tuple #[])/\Xk B w' vb g cap (L.set i (Ue tm t)) tm tn ln/\Below B w w'/\Spares [vb,g] w w':=by
 have hlim:=h.lim;have hil:i<L.length:=(List.getElem?_eq_some_iff.1 ht).1;have hgB:B<=g:=(h.row.lt g rfl).1;obtain⟨x0,x1,x2,x3,x4,x5,x6,x7⟩:=h.cells ht;have v0:=h.v.cell 0 (v:=.slice (some ⟨g,0,none⟩) L.length cap) rfl;have f7:=h.Xav (i*8+7);have f6:=h.Xav (i*8+6)
 have hP:=fun W=>Xgk tm (waitN t.tries.toNat) htm (by have:=Vu t.tries.toNat;omega) (by have:=Vu t.tries.toNat;omega) W
 have r1:=h.Xwb hne ht;have r2:=r1.Xwc hne ht;have lv:=h.v.lt
 obtain⟨len,hlen⟩:∃ len,L.length=len:=⟨_,rfl⟩
 have p1:=r1.Xnu (len:=len) (i:=i) (by rw [List.length_set];exact hlen) (by rw [List.length_set];exact hil);have p2:=r2.Xnu (len:=len) (i:=i) (by rw [List.length_set];exact hlen) (by rw [List.length_set];exact hil);have R2:=Xb r2;rw [hlen] at hil hlim v0;clear hlen r1 r2
 obtain⟨tr,htr⟩:∃ tr,t.tries=tr:=⟨_,rfl⟩
 rw [htr] at x7 hr0 hr1 hP p1 p2 R2;have Htr:=Xb htr;clear htr;go_enter func107,ntmps107;go_wp2
 go_loopw [7,8] (fun x i wr=>∃ k:Nat,(k:Int)<=tr/\k<=4/\i=.int .i64 k/\x=.int .u64 (waitN k)/\wr=w) (fun _ i _=>4-(intOf i).toNat)
 case atStart=>exact⟨0,by omega,by omega,rfl,rfl,rfl⟩
 case round =>
  obtain⟨k,hk1,hk4,rfl,rfl,rfl⟩:=hrel
  by_cases hkt:(k:Int)<tr/\k<4
  ·obtain⟨hkt,hk⟩:=hkt
   obtain⟨hx,hx0,hx2⟩:=Xex hk;have HX:=Xb hx2;clear hx2;generalize waitN k=x at *
   have hx2:x*2<18446744073709551616:=by omega
   go_wp2
   go_roundw
   case rel=>exact⟨k+1,by omega,by omega,rfl,by rw [<- Xa HX],by first | rfl | trivial⟩
   case measure=>simp [intOf];omega
  have hwt:Hid (waitN k=waitN tr.toNat):=Xb (by
   by_cases h4:k<4
   ·rw [show tr.toNat=k by omega]
   rw [Us (by omega),Us (k:=tr.toNat) (by omega)])
  have hxl:=(Vu k).2;have e:=Xa hwt;rw [<- e] at hP p2 R2;clear e
  by_cases hlt:(k:Int)<tr
  focus
   have hx:waitN k=32:=Us (by omega);clear hwt hkt;rw [hx] at hP p2 R2 hxl ⊢;clear hx
  rotate_left
  focus
   clear hk4;clear hwt hkt;generalize waitN k=x at *
  rotate_left
  all_goals
   go_wp2
   go_region_held3 (Xrz g vb i (.slice (some ⟨g,0,none⟩) len cap) tm) (first
    | with_reducible exact p1
    | with_reducible exact p2
    | with_reducible assumption) (first | (go_at_call 153;refine(hP _).mono ?_;rintro e w2 ⟨rfl,rfl⟩))
   all_goals
    go_wp2
    go_end0
    exact⟨rfl,(Xa R2).below (Xp.below (Xp.refl _).drew),((((Below.refl B wr).setCell (p:=⟨g,i*8+7,none⟩) hgB _).setCell (p:=⟨g,i*8+6,none⟩) hgB _).setCell (p:=⟨g,i*8+4,none⟩) hgB _).drew,((((Spares.of_below (Below.refl _ _)).set (by simp) _ _).set (by simp) _ _).set (by simp) _ _).drew⟩
end Go.Proofs
namespace Go.Proofs
open Go.RowKit Go.Sort Go.Lib Go.Shelf Go.Maps
theorem Tryz.wait (n:Nat) (f:Int) (hf:f=(n:Int)+1) (hn:f<=9223372036854775807) (w:World):Calls prog 199 #[.int .i64 f] w fun e w'=>e=.returned (.int .u64 (waitN n))/\w'=w:=by
 have Hf:=Xb hf
 obtain⟨r,hr⟩:∃ r,waitN n=r:=⟨_,rfl⟩
 rw [hr];have Hr:=Xb hr
 have h1:1<=f:=by omega
 clear hf hr;go_enter func199,ntmps199;go_wp2
 go_loopw [3,4] (fun x i wr=>∃ k:Nat,(k:Int)+1<=f/\k<=4/\i=.int .i64 ((k:Int)+1)/\x=.int .u64 (waitN k)/\wr=w) (fun _ i _=>5-(intOf i).toNat)
 case atStart=>exact⟨0,by omega,by omega,rfl,rfl,rfl⟩
 case round =>
  obtain⟨k,hk,hk4,rfl,rfl,rfl⟩:=hrel
  by_cases hlt:(k:Int)+1<f
  ·by_cases h4:k<4
   ·obtain⟨hx,hx0,hx2⟩:=Xex h4
    have HX:=Xb hx2;generalize waitN k=x at *;clear hx2;go_wp2;exact⟨⟨k+1,by omega,by omega,congrArg (Value.int .i64) (by omega),by rw [<- Xa HX];exact⟨rfl,trivial⟩⟩,by simp [intOf];omega⟩
   have hx:waitN k=32:=Us (by omega);have hfin:Hid (32=r):=Xb (by rw [<- Xa Hr];exact(Us (by have:=Xa Hf;omega)).symm);rw [hx];clear hx;go_wp2;go_ret;exact⟨Yw (Xa hfin),rfl⟩
  have hfin:Hid (waitN k=r):=Xb (by rw [<- Xa Hr,show n=k by have:=Xa Hf;omega]);have hxl:=Vu k;generalize waitN k=x at *;go_wp2;go_ret;exact⟨Yw (by rw [<- Xa hfin];omega),rfl⟩
theorem Tryz.Xup (b:Nat) (ty:TypeId) (ak au at_ tr tm:Int) (pd:Bool) (rest:List Value) (w:World) (hB:BoxN w b ty (#[.int .i64 ak,.int .u64 au,.int .u64 at_,.int .i64 tr,.bool pd] ++ rest.toArray)) (h0:0<=tr) (h1:tr<9223372036854775807) (t0:0<=tm) (t1:tm<=18446744073709551615) :
  Calls prog 168 #[.pointer (some ⟨b,0,none⟩),.int .u64 tm] w fun e w'=>e=.returned (.tuple #[])/\BoxN w' b ty (#[.int .i64 ak,.int .u64 au,.int .u64 (plusI tm (waitN tr.toNat)),.int .i64 (tr+1),.bool true] ++ rest.toArray)/\Spares [b] w w':=by
 have hW:=fun W=>wait tr.toNat (tr+1) (by omega) (by omega) W
 have hwl:=Vu tr.toNat
 have hL:=fun W=>later tm (waitN tr.toNat) t0 t1 (by omega) (by omega) W
 generalize plusI tm (waitN tr.toNat)=at2 at *;generalize waitN tr.toNat=wn at *;have c2:=hB.cell 2 (v:=.int .u64 at_) (by simp);have c3:=hB.cell 3 (v:=.int .i64 tr) (by simp);have c4:=hB.cell 4 (v:=.bool pd) (by simp);have f2:=hB.frozen 2;have f3:=hB.frozen 3;have f4:=hB.frozen 4;have hfin:=((hB.set 4 (.bool true)).set 3 (.int .i64 (tr+1))).set 2 (.int .u64 at2);have HF:=Xb hfin;clear hfin;go_enter func168,ntmps168
 go_wp2_with (first
  | (go_at_call 199;refine(hW _).mono ?_;rintro e w1 ⟨rfl,rfl⟩)
  | (go_at_call 65;refine(hL _).mono ?_;rintro e w2 ⟨rfl,rfl⟩))
 go_end0
 refine⟨rfl,?_,(((Spares.of_below (Below.refl _ w)).set (by simp) _ _).set (by simp) _ _).set (by simp) _ _⟩;have:=Xa HF
 simpa using this
structure Tryz.Xto (vb c m nb:Nat) (tm:TypeId) (k u:Int) (r:Value) (W:World):Prop where
 mp:W.cell? ⟨vb,c,none⟩=some (.map (some m))
 n0:W.cell? ⟨nb,0,none⟩=some (.int .i64 k)
 n1:W.cell? ⟨nb,1,none⟩=some (.int .u64 u)
 lk:(Instr.lookup tm (.map (some m)) (.agg #[.int .i64 k,.int .u64 u]) false).run Tryz.prog W=.ok r W
theorem Tryz.Xiz (vb mt:Nat) (x:Int × Int) (ak au at_ tr:Int) (pd:Bool) (w:World) (hP:∀ W,Below w.heap.size w W->W.cell? ⟨vb,3,none⟩=some (.map (some mt))/\(Instr.lookup 120 (.map (some mt)) (nmV x) true).run prog W=.ok (.tuple #[.agg #[.int .i64 ak,.int .u64 au,.int .u64 at_,.int .i64 tr,.bool pd],.bool true]) W) :
  Calls prog 134 #[.pointer (some ⟨vb,0,none⟩),nmV x] w fun e w'=>e=.returned (nmV (ak,au))/\Below w.heap.size w w':=by
 have hB0:Below w.heap.size w ((w.alloc (.cells #[.int .i64 x.1,.int .u64 x.2] 114)).alloc (.cells #[.int .i64 0,.int .u64 0] 114)):=((Below.refl _ w).alloc (Nat.le_refl _) _).alloc (by simp) _;have bN:=(BoxN.new w 114 #[.int .i64 x.1,.int .u64 x.2]).alloc (.cells #[.int .i64 0,.int .u64 0] 114);have bR:=BoxN.new (w.alloc (.cells #[.int .i64 x.1,.int .u64 x.2] 114)) 114 #[.int .i64 0,.int .u64 0];rw [World.size_alloc] at bR
 have hs0:((w.alloc (.cells #[.int .i64 x.1,.int .u64 x.2] 114)).alloc (.cells #[.int .i64 0,.int .u64 0] 114)).heap.size=w.heap.size+2:=by simp
 unfold nmV;go_enter func134,ntmps134
 go_wp2_with fail
 generalize (w.alloc (.cells #[.int .i64 x.1,.int .u64 x.2] 114)).alloc (.cells #[.int .i64 0,.int .u64 0] 114)=W1 at *
 have hS:∀ W,Below (w.heap.size+2) W1 W->LkP vb 3 mt w.heap.size 120 x.1 x.2 (.tuple #[.agg #[.int .i64 ak,.int .u64 au,.int .u64 at_,.int .i64 tr,.bool pd],.bool true]) W:=fun W hb=>by
  have bN':=bN.below hb (by omega);obtain⟨h1,h2⟩:=hP W (hB0.trans (hb.mono (by omega)));exact⟨h1,bN'.cell 0 rfl,bN'.cell 1 rfl,h2⟩
 have hb1:Below (w.heap.size+2) W1 W1.drew:=(Below.refl _ _).drew;refine wp_region_held_drew (S:=(LkP vb 3 mt w.heap.size 120 x.1 x.2 (.tuple #[.agg #[.int .i64 ak,.int .u64 au,.int .u64 at_,.int .i64 tr,.bool pd],.bool true]))) (by kernel_rfl) (hS _ hb1) (fun hS0=>?_);refine Xt 0 ?v0 rfl ?y0 hS0 ?_
 case y0=>(rintro w ⟨q0,q1,q2,q3⟩;go_simp;try with_reducible rfl)
 refine Xt 1 ?v1 rfl ?y1 hS0 ?_
 case y1=>(rintro w ⟨q0,q1,q2,q3⟩;go_simp;try with_reducible rfl)
 refine Xt 2 ?v2 rfl ?y2 hS0 ?_
 case y2=>(rintro w ⟨q0,q1,q2,q3⟩;go_simp;try with_reducible rfl)
 refine Xt 3 ?v3 rfl ?y3 hS0 ?_
 case y3=>(rintro w ⟨q0,q1,q2,q3⟩;go_simp;try with_reducible rfl)
 refine Xt 4 ?v4 rfl ?y4 hS0 ?_
 case y4=>(rintro w ⟨q0,q1,q2,q3⟩;go_simp;try with_reducible rfl)
 refine Xt 5 ?v5 rfl ?y5 hS0 ?_
 case y5=>(rintro w ⟨q0,q1,q2,q3⟩;go_simp;try with_reducible rfl)
 refine Xt 6 ?v6 rfl ?y6 hS0 ?_
 case y6=>(rintro w ⟨q0,q1,q2,q3⟩;go_simp;try with_reducible rfl)
 refine Xt 7 ?v7 rfl ?y7 hS0 ?_
 case y7=>(rintro w ⟨q0,q1,q2,q3⟩;go_simp;try with_reducible rfl)
 refine Xt 8 ?v8 rfl ?y8 hS0 ?_
 case y8=>(rintro w ⟨q0,q1,q2,q3⟩;go_simp;try with_reducible rfl)
 refine Xh 9 rfl fun K hK=>?_;go_simp;refine hK.out _ _ (hS _ (hb1.alloc (by simp [hs0]) _)) (fun hS1=>?_);clear hK K;refine Xh 10 rfl fun K hK=>?_;go_simp;have hb2:Below (w.heap.size+2) W1 (W1.alloc (.cells #[.int .i64 ak,.int .u64 au,.int .u64 at_,.int .i64 tr,.bool pd] 153)).drew:=((Below.refl _ _).alloc (by omega) _).drew;refine hK.out _ _ (hS _ hb2) (fun hS2=>?_);clear hK K;refine Xh 11 rfl fun K hK=>?_;go_simp;refine hK.out _ _ hS2 (fun _=>?_);clear hK K hS0 hS1 hS2;refine wpAnyH_done (by kernel_rfl) ?_ _
 have bT:BoxN (W1.alloc (.cells #[.int .i64 ak,.int .u64 au,.int .u64 at_,.int .i64 tr,.bool pd] 153)).drew (w.heap.size+2) 153 #[.int .i64 ak,.int .u64 au,.int .u64 at_,.int .i64 tr,.bool pd]:=by
  have h:=BoxN.new W1 153 #[.int .i64 ak,.int .u64 au,.int .u64 at_,.int .i64 tr,.bool pd];rw [hs0] at h;exact h
 have bR2:=bR.below hb2 (by omega);have hBf:=hB0.trans (hb2.mono (by omega));clear hS hP hb1 hb2 hB0 bN bR;generalize (W1.alloc (.cells #[.int .i64 ak,.int .u64 au,.int .u64 at_,.int .i64 tr,.bool pd] 153)).drew=W2 at *;have y0:=bT.cell 0 (v:=.int .i64 ak) rfl;have y1:=bT.cell 1 (v:=.int .u64 au) rfl;have z0:=bR2.cell 0 (v:=.int .i64 0) rfl;have z1:=bR2.cell 1 (v:=.int .u64 0) rfl;have f0:=bR2.frozen 0;have f1:=bR2.frozen 1;have hfin:=(bR2.set 0 (.int .i64 ak)).set 1 (.int .u64 au);have r0:=hfin.cell 0 (v:=.int .i64 ak) (by simp);have r1:=hfin.cell 1 (v:=.int .u64 au) (by simp);go_wp2;exact bodyPost_ret (v:=.agg #[.int .i64 ak,.int .u64 au]) (by simp [results,results134,go_sem,r0,r1]) rfl ⟨rfl,(hBf.setCell (p:=⟨w.heap.size+1,0,none⟩) (by show w.heap.size<=w.heap.size+1;omega) _).setCell (p:=⟨w.heap.size+1,1,none⟩) (by show w.heap.size<=w.heap.size+1;omega) _⟩
theorem Tryz.Xv4 (ak au at_ tr:Int) (pd:Bool) (pth:ByteArray) (la:Int) (w:World):Sem.run prog (Instr.field 131 (.agg #[.int .i64 ak,.int .u64 au,.int .u64 at_,.int .i64 tr,.bool pd,.string pth,.int .u64 la]) 0) w=.ok (.agg #[.int .i64 ak,.int .u64 au,.int .u64 at_,.int .i64 tr,.bool pd]) w:=by kernel_rfl
theorem Tryz.Xu5 (ak au at_ tr:Int) (pd:Bool) (w:World):Sem.run prog (Instr.field 129 (.agg #[.int .i64 ak,.int .u64 au,.int .u64 at_,.int .i64 tr,.bool pd]) 0) w=.ok (.agg #[.int .i64 ak,.int .u64 au]) w:=by kernel_rfl
theorem Tryz.Xi3 (vb mt ml:Nat) (x:Int × Int) (ak au at_ tr:Int) (pd:Bool) (pth:List UInt8) (la:Int) (w:World) (hP:∀ W,Below w.heap.size w W->W.cell? ⟨vb,3,none⟩=some (.map (some mt))/\(Instr.lookup 120 (.map (some mt)) (nmV x) true).run prog W=.ok (.tuple #[.agg #[.int .i64 0,.int .u64 0,.int .u64 0,.int .i64 0,.bool false],.bool false]) W)
  (hP2:∀ W,Below w.heap.size w W->W.cell? ⟨vb,4,none⟩=some (.map (some ml))/\(Instr.lookup 121 (.map (some ml)) (nmV x) false).run prog W=.ok (.agg #[.int .i64 ak,.int .u64 au,.int .u64 at_,.int .i64 tr,.bool pd,.string ⟨pth.toArray⟩,.int .u64 la]) W) :
  Calls prog 134 #[.pointer (some ⟨vb,0,none⟩),nmV x] w fun e w'=>e=.returned (nmV (ak,au))/\Below w.heap.size w w':=by
 have hB0:Below w.heap.size w ((w.alloc (.cells #[.int .i64 x.1,.int .u64 x.2] 114)).alloc (.cells #[.int .i64 0,.int .u64 0] 114)):=((Below.refl _ w).alloc (Nat.le_refl _) _).alloc (by simp) _;have bN:=(BoxN.new w 114 #[.int .i64 x.1,.int .u64 x.2]).alloc (.cells #[.int .i64 0,.int .u64 0] 114);have bR:=BoxN.new (w.alloc (.cells #[.int .i64 x.1,.int .u64 x.2] 114)) 114 #[.int .i64 0,.int .u64 0];rw [World.size_alloc] at bR
 have hs0:((w.alloc (.cells #[.int .i64 x.1,.int .u64 x.2] 114)).alloc (.cells #[.int .i64 0,.int .u64 0] 114)).heap.size=w.heap.size+2:=by simp
 unfold nmV at hP hP2 ⊢;go_enter func134,ntmps134
 go_wp2_with fail
 generalize (w.alloc (.cells #[.int .i64 x.1,.int .u64 x.2] 114)).alloc (.cells #[.int .i64 0,.int .u64 0] 114)=W1 at *
 have hS:∀ W,Below (w.heap.size+2) W1 W->LkP vb 3 mt w.heap.size 120 x.1 x.2 (.tuple #[.agg #[.int .i64 0,.int .u64 0,.int .u64 0,.int .i64 0,.bool false],.bool false]) W:=fun W hb=>by
  have bN':=bN.below hb (by omega);obtain⟨h1,h2⟩:=hP W (hB0.trans (hb.mono (by omega)));exact⟨h1,bN'.cell 0 rfl,bN'.cell 1 rfl,h2⟩
 have hb1:Below (w.heap.size+2) W1 W1.drew:=(Below.refl _ _).drew;refine wp_region_held_drew (S:=(LkP vb 3 mt w.heap.size 120 x.1 x.2 (.tuple #[.agg #[.int .i64 0,.int .u64 0,.int .u64 0,.int .i64 0,.bool false],.bool false]))) (by kernel_rfl) (hS _ hb1) (fun hS0=>?_);refine Xt 0 ?v0 rfl ?y0 hS0 ?_
 case y0=>(rintro w ⟨q0,q1,q2,q3⟩;go_simp;try with_reducible rfl)
 refine Xt 1 ?v1 rfl ?y1 hS0 ?_
 case y1=>(rintro w ⟨q0,q1,q2,q3⟩;go_simp;try with_reducible rfl)
 refine Xt 2 ?v2 rfl ?y2 hS0 ?_
 case y2=>(rintro w ⟨q0,q1,q2,q3⟩;go_simp;try with_reducible rfl)
 refine Xt 3 ?v3 rfl ?y3 hS0 ?_
 case y3=>(rintro w ⟨q0,q1,q2,q3⟩;go_simp;try with_reducible rfl)
 refine Xt 4 ?v4 rfl ?y4 hS0 ?_
 case y4=>(rintro w ⟨q0,q1,q2,q3⟩;go_simp;try with_reducible rfl)
 refine Xt 5 ?v5 rfl ?y5 hS0 ?_
 case y5=>(rintro w ⟨q0,q1,q2,q3⟩;go_simp;try with_reducible rfl)
 refine Xt 6 ?v6 rfl ?y6 hS0 ?_
 case y6=>(rintro w ⟨q0,q1,q2,q3⟩;go_simp;try with_reducible rfl)
 refine Xt 7 ?v7 rfl ?y7 hS0 ?_
 case y7=>(rintro w ⟨q0,q1,q2,q3⟩;go_simp;try with_reducible rfl)
 refine Xt 8 ?v8 rfl ?y8 hS0 ?_
 case y8=>(rintro w ⟨q0,q1,q2,q3⟩;go_simp;try with_reducible rfl)
 refine Xh 9 rfl fun K hK=>?_;go_simp;refine hK.out _ _ (hS _ (hb1.alloc (by simp [hs0]) _)) (fun hS1=>?_);clear hK K;refine Xh 10 rfl fun K hK=>?_;go_simp;have hb2:Below (w.heap.size+2) W1 (W1.alloc (.cells #[.int .i64 0,.int .u64 0,.int .u64 0,.int .i64 0,.bool false] 153)).drew:=((Below.refl _ _).alloc (by omega) _).drew;refine hK.out _ _ (hS _ hb2) (fun hS2=>?_);clear hK K;refine Xh 11 rfl fun K hK=>?_;go_simp;refine hK.out _ _ hS2 (fun _=>?_);clear hK K hS0 hS1 hS2;refine wpAnyH_done (by kernel_rfl) ?_ _;have bR2:=bR.below hb2 (by omega);have bN2:=bN.below hb2 (by omega);have hBf:=hB0.trans (hb2.mono (by omega));obtain⟨hc4,hl4⟩:=hP2 _ hBf.drew;clear hS hP hP2 hb1 hb2 hB0 bN bR;generalize (W1.alloc (.cells #[.int .i64 0,.int .u64 0,.int .u64 0,.int .i64 0,.bool false] 153)).drew=W2 at *;have hc5:W2.cell? ⟨vb,4,none⟩=some (.map (some ml)):=hc4;have y0:=bN2.cell 0 (v:=.int .i64 x.1) rfl;have y1:=bN2.cell 1 (v:=.int .u64 x.2) rfl;have z0:=bR2.cell 0 (v:=.int .i64 0) rfl;have z1:=bR2.cell 1 (v:=.int .u64 0) rfl;have f0:=bR2.frozen 0;have f1:=bR2.frozen 1;have hfin:=(bR2.set 0 (.int .i64 ak)).set 1 (.int .u64 au);have r0:=hfin.cell 0 (v:=.int .i64 ak) (by simp);have r1:=hfin.cell 1 (v:=.int .u64 au) (by simp);have e1:=Xv4 ak au at_ tr pd ⟨pth.toArray⟩ la;have e2:=Xu5 ak au at_ tr pd
 go_wp2_with fail
 go_region
 go_wp2;exact bodyPost_ret (v:=.agg #[.int .i64 ak,.int .u64 au]) (by simp [results,results134,go_sem,r0,r1]) rfl ⟨rfl,((hBf.setCell (p:=⟨w.heap.size+1,0,none⟩) (by show w.heap.size<=w.heap.size+1;omega) _).setCell (p:=⟨w.heap.size+1,1,none⟩) (by show w.heap.size<=w.heap.size+1;omega) _).drew⟩
end Go.Proofs
