import Derived.Test.YtjbekgjdempbiaaGreatDoorJRefH
import Derived.Laws.RangeAny
import Derived.BigQuiet
set_option maxRecDepth 100000
set_option maxHeartbeats 8000000
namespace Go.Proofs
open Go.RowKit Go.Sort Go.Lib Go.Shelf Go.Maps
attribute [local go_sem] Oper.semAt_some
def Mq:Int:=18446744073709551615
def minAt (xs:List InfoD):Int:=xs.foldl (fun m x=>min m x.at_) Mq
theorem Xlr (xs:List InfoD) (x:InfoD):minAt (xs ++ [x])=min (minAt xs) x.at_:=by simp [minAt]
theorem Tryz.vNext (vb mt ml:Nat) (vx:VX) (tm tn ln:Int) (tks:List Xd) (lks:List Xc) (w:World) (hV:Xq w vb mt ml vx tm tn ln tks lks) :
  CallsIn Fence.wide 9 prog 45 #[.pointer (some ⟨vb,0,none⟩)] w fun e w'=>e=.returned (.int .u64 (minAt (infosOf tm tks lks)))/\Below w.heap.size w w':=by
 have hfa:Fence.wide.fn 48:=trivial;refine callsIn_of_wp_marks func45 rfl trivial ?_ rfl;simp only [ntmps45,List.size_toArray,List.length_cons,List.length_nil,Nat.reduceAdd,Nat.reduceSub,Array.replicate_succ,Array.replicate_zero,List.push_toArray,List.append_toArray,List.nil_append,List.cons_append]
 gi_wp2_with (gi_at_call 48;refine(callsIn_wide.2 (vAll vb _)).mono ?_;rintro e w' ⟨rfl,rfl⟩)
 have bL:=(Boxed.new w 31 (.int .u64 Mq)).alloc (.cells #[.pointer (some ⟨vb,0,none⟩)] 76);have bV:=BoxN.new (w.alloc (.cells #[.int .u64 Mq] 31)) 76 #[.pointer (some ⟨vb,0,none⟩)];have hB0:Below w.heap.size w ((w.alloc (.cells #[.int .u64 Mq] 31)).alloc (.cells #[.pointer (some ⟨vb,0,none⟩)] 76)):=((Below.refl _ w).alloc (Nat.le_refl _) _).alloc (by simp) _
 have hsz:((w.alloc (.cells #[.int .u64 Mq] 31)).alloc (.cells #[.pointer (some ⟨vb,0,none⟩)] 76)).heap.size=w.heap.size+2:=by simp
 simp only [World.size_alloc] at bV;have hV0:=hV.below hB0
 obtain⟨W0,hW0⟩:∃ W0,(w.alloc (.cells #[.int .u64 Mq] 31)).alloc (.cells #[.pointer (some ⟨vb,0,none⟩)] 76)=W0:=⟨_,rfl⟩
 rw [hW0] at bV bL hB0 hsz hV0
 change Code.wpIn _ _ _ _ _ _ ((w.alloc (.cells #[.int .u64 Mq] 31)).alloc (.cells #[.pointer (some ⟨vb,0,none⟩)] 76))
 rw [hW0];clear hW0
 refine Ve (n:=9) (by omega) (gf:=78) (lb:=#[.pointer (some ⟨w.heap.size+1,0,none⟩)]) rfl Xja
  (Xix 8 (by omega) Xm2 Xp7 (w.heap.size+1) vb mt ml vx tm tn ln tks lks hV.ok W0 bV hV0.v hV0.held) Js Jo (Below.refl _ _) (fun _=>rfl)
  (fun pre V=>Boxed V w.heap.size 31 (.int .u64 (minAt pre))/\Below w.heap.size w V)
  (fun _ _ _=>False)
  (OwnFrom.and (Own.from (boxed_own _ _ (fun pre:List InfoD=>.int .u64 (minAt pre))) _) (ownFrom_below (Nat.le_refl _) (by omega)))
  (fun _ _ _ _ _ hs _ _=>hs)
  (fun s V hs=>⟨hV.env.below hs.2 hV.six,Nat.le_trans hV.six hs.2.size⟩)
  ⟨bL,hB0⟩
  (fun x a' V=>∃ Bx,w.heap.size<Bx/\BoxN V Bx 49 x.cells/\a' = { tmps:=#[.pointer (some ⟨vb,0,none⟩),undef,.int .u64 0,.pointer (some ⟨w.heap.size,0,none⟩),.pointer (some ⟨Bx,0,none⟩),.pointer (some ⟨vb,0,none⟩),.func (.func 78) #[] #[.pointer (some ⟨w.heap.size+1,0,none⟩)],.agg x.cells,undef,undef,undef,undef,undef],defers:=[] })
  (fun x a' _ X Y row hs hg hr=>by obtain⟨Bx,h1,h2,h3⟩:=hs;exact⟨Bx,h1,Xy Bx 49 (fun(_:Unit)=>x.cells) () X Y row h2 hg (fun r e=>(hr r e).2),h3⟩)
  ?assign ?body ?done ?stop
 case assign =>
  rintro l pre x V K ⟨b1,hB1⟩ hK;obtain⟨id,st,at_,tr,tok,pth⟩:=x;simp only [InfoD.cells,Ya]
  gi_wp2
  exact hK _ _ ((KeepsOthers.alloc _ _).from _) (KeepsT.alloc _ _) ⟨b1.alloc _,hB1.alloc hB1.size _⟩ ⟨V.heap.size,b1.lt,BoxN.new V 49 _,rfl⟩
 case body =>
  rintro l pre x a' V hl ⟨b1,hB1⟩ ⟨Bx,hBx,bX,rfl⟩ hlt;have hms:=Xlr pre x;obtain⟨id,st,at_,tr,tok,pth⟩:=x;simp only [InfoD.cells,Ya] at bX hms ⊢;have HM:=Xb hms;clear hms;generalize minAt pre=m at *;have c1:=b1.cell;have f1:=b1.frozen;have x2:=bX.cell 2 (v:=.int .u64 at_) rfl
  gi_wp2
  exact⟨(KeepsOthers.setCell _ _ _).from _,KeepsT.Xhf b1 (by decide) _,by rw [show minAt _=_ from Xa HM];exact b1.set _,hB1.setCell (p:=⟨w.heap.size,0,none⟩) (Nat.le_refl _) _⟩
 case done =>
  rintro D zs V hD rfl ⟨b1,hB1⟩ hK;have cS:=b1.cell
  gi_wp2
  refine⟨by simp,.inl ⟨_,_,rfl,run_takeDeferred hK,?_⟩⟩;exact⟨_,results_tmp rfl _ _ _,rfl,hB1.trans (belowK_b (w:=w) (Nat.le_refl _) V D _ _ (by omega) hK rfl rfl)⟩
 case stop =>
  rintro D c pre V _ _ h _;exact h.elim
theorem Tryz.hNext (hb vb mt ml:Nat) (vx:VX) (tm tn ln:Int) (tks:List Xd) (lks:List Xc) (w:World) (dv rv:Value) (hH:BoxN w hb 78 #[dv,rv,.pointer (some ⟨vb,0,none⟩)]) (hV:Xq w vb mt ml vx tm tn ln tks lks) :
  Calls prog 21 #[.pointer (some ⟨hb,0,none⟩)] w fun e w'=>e=.returned (.int .u64 (minAt (infosOf tm tks lks)))/\Below w.heap.size w w':=by
 have hN:=callsIn_wide.1 (vNext vb mt ml vx tm tn ln tks lks w hV);generalize minAt (infosOf tm tks lks)=m at *;have c2:=hH.cell 2 (v:=.pointer (some ⟨vb,0,none⟩)) rfl;go_enter func21,ntmps21
 go_wp2_with (go_at_call 45;refine hN.mono ?_;rintro e w' ⟨rfl,hb⟩)
 go_ret;exact⟨rfl,hb⟩
end Go.Proofs
namespace Go.Proofs
open Go.RowKit Go.Sort Go.Lib Go.Shelf
theorem Xrh {a b:Bool} (h:a=b):Ending.returned (.bool a)=.returned (.bool b):=by rw [h]
def nameR (r:Int):Bool:=decide ((97<=r/\r<=122)\/(48<=r/\r<=57)\/r=45)
theorem Tryz.Xuv (r:Int) (w:World):Calls prog 141 #[.int .i32 r] w fun e w'=>e=.returned (.bool (nameR r))/\w'=w:=by
 have hr:Hid (nameR r=decide ((97<=r/\r<=122)\/(48<=r/\r<=57)\/r=45)):=Xb rfl;generalize nameR r=b at *;go_enter func141,ntmps141;go_wp2
 all_goals
  go_ret;refine⟨?_,rfl⟩;rw [Xa hr];refine Xrh ?_;rw [Bool.eq_iff_iff];simp
  try omega
theorem Tryz.valid (s:List UInt8) (w:World) (hs:s.length<=1000000) :
  Calls prog 92 #[.string ⟨s.toArray⟩] w fun e w'=>e=.returned (.bool (pathI s))/\Below w.heap.size w w':=by
 have hI:=fun r W=>Xuv r W
 by_cases h24:24<s.length
 ·have hr:Hid (pathI s=false):=Xb (by simp [pathI];omega)
  go_enter func92,ntmps92;go_wp2;go_ret;exact⟨by rw [Xa hr];rfl,Below.refl _ _⟩
 go_enter func92,ntmps92;go_wp2
 go_loopw [3] (fun pv wr=>∃(k:Nat) (b:Bool) (z:Int),k<=s.length/\wr=w.iter ⟨s.toArray⟩ k/\pv=.int .i32 z/\Hid ((z=47↔b=false)/\(s.take k).foldl Zk (some false)=some b)) (fun _ wr=>s.length-wr.iterPos w.heap.size)
 case atStart=>exact⟨0,false,47,Nat.zero_le _,rfl,rfl,Xb ⟨by simp,rfl⟩⟩
 case round =>
  obtain⟨k,b,z,hk,rfl,rfl,hst⟩:=hrel
  by_cases hkl:k<s.length
  ·obtain⟨c,hc⟩:∃ c,s[k]? = some c:=⟨s[k],by simp [hkl]⟩
   have hck:((⟨s.toArray⟩:ByteArray)[k]'(by simpa [ByteArray.size] using hkl))=c:=by
    have h1:s[k]'hkl=c:=by simpa [hkl] using hc
    rw [<- h1];rfl
   have HP:=Xb (fun o=>Xe0 (o:=o) hc)
   have hks:k<(⟨s.toArray⟩:ByteArray).size:=by simpa [ByteArray.size] using hkl
   by_cases h128:c.toNat<128
   ·have hnx:=fun ty=>run_next_ascii (P:=prog) w ⟨s.toArray⟩ k ty hks (by rw [hck];exact h128)
    simp only [hck] at hnx
    obtain⟨r,hr⟩:∃ r:Int,(c.toNat:Int)=r:=⟨_,rfl⟩
    rw [hr] at hnx
    have hR:=fun W=>hI r W
    have Hr:=Xb hr;clear hr hI
    by_cases h47:r=47
    ·subst h47
     by_cases hz:z=47
     ·subst hz
      have hres:Hid (pathI s=false):=Xb (by
       obtain⟨e1,e2⟩:=Xa hst;have hb:b=false:=e1.1 rfl;refine Xaq (k:=k+1) ?_;rw [Xa HP _ e2,Xad (by have:=Xa Hr;omega),hb]
       rfl)
      clear hst
      go_wp2_with (go_at_call 141;fail)
      go_ret;exact⟨by rw [Xa hres];rfl,(Below.refl _ w).alloc (Nat.le_refl _) _⟩
     have hz':(z==47)=false:=by simpa using hz
     have hst':Hid ((47:Int)=47↔false=false):=Xb (by simp)
     have hnew:Hid ((s.take (k+1)).foldl Zk (some false)=some false):=Xb (by
      obtain⟨e1,e2⟩:=Xa hst
      have hb:b=true:=by cases b;exact absurd (e1.2 rfl) hz;rfl
      rw [Xa HP _ e2,Xad (by have:=Xa Hr;omega),hb]
      rfl)
     clear hst hz
     go_wp2_with (go_at_call 141;fail)
     go_roundw
     case rel=>exact⟨k+1,false,47,by omega,rfl,rfl,Xb ⟨by simp,Xa hnew⟩⟩
     case measure=>simp;omega
    have h47':(r==47)=false:=by simpa using h47
    obtain⟨nb,hnb⟩:∃ nb,nameR r=nb:=⟨_,rfl⟩
    rw [hnb] at hR;have Hnb:=Xb hnb;have H47:=Xb h47;clear hnb h47;cases nb
    ·have hres:Hid (pathI s=false):=Xb (by
      obtain⟨e1,e2⟩:=Xa hst;refine Xaq (k:=k+1) ?_;rw [Xa HP _ e2];have h1:=Xa Hnb;have h2:=Xa H47;have h3:=Xa Hr;simp only [nameR,decide_eq_false_iff_not] at h1
      exact Xc2 (by omega))
     by_cases hz:z=47
     focus
      subst hz;clear hst
     rotate_left
     focus
      have hz':(z==47)=false:=by simpa using hz
      clear hst hz
     rotate_left
     all_goals
      go_wp2_with (go_at_call 141;refine(hR _).mono ?_;rintro e w1 ⟨rfl,rfl⟩)
      go_ret;exact⟨by rw [Xa hres];rfl,(Below.refl _ w).alloc (Nat.le_refl _) _⟩
    have hnew:Hid ((r=47↔true=false)/\(s.take (k+1)).foldl Zk (some false)=some true):=Xb (by
     obtain⟨e1,e2⟩:=Xa hst;have h1:=Xa Hnb;have h2:=Xa H47;have h3:=Xa Hr;simp only [nameR,decide_eq_true_eq] at h1
     exact⟨by simp [h2],by rw [Xa HP _ e2];exact Xea (by omega)⟩)
    by_cases hz:z=47
    focus
     subst hz;clear hst
    rotate_left
    focus
     have hz':(z==47)=false:=by simpa using hz
     clear hst hz
    rotate_left
    all_goals
     go_wp2_with (go_at_call 141;refine(hR _).mono ?_;rintro e w1 ⟨rfl,rfl⟩)
     go_roundw
     case rel=>exact⟨k+1,true,r,by omega,rfl,rfl,hnew⟩
     case measure=>simp;omega
   have hnx:=fun ty=>run_next_any (P:=prog) w ⟨s.toArray⟩ k ty hks
   obtain⟨hd,-⟩:=decode_high ⟨s.toArray⟩ k hks (by rw [hck];omega)
   obtain⟨r,hr⟩:∃ r:Int,((Utf8.decode ⟨s.toArray⟩ k).1:Int)=r:=⟨_,rfl⟩
   rw [hr] at hnx
   have hr128:128<=r:=by omega
   have hR:=fun W=>hI r W
   have hnb:nameR r=false:=by simp only [nameR,decide_eq_false_iff_not];omega
   rw [hnb] at hR
   have h47':(r==47)=false:=by simp;omega
   have hres:Hid (pathI s=false):=Xb (by
    obtain⟨e1,e2⟩:=Xa hst;refine Xaq (k:=k+1) ?_;rw [Xa HP _ e2]
    exact Xc2 (by omega))
   generalize (Utf8.decode ⟨s.toArray⟩ k).2=wd at *
   have h47p:¬ r=47:=by omega
   clear hr hI hd hnb hr128
   by_cases hz:z=47
   focus
    subst hz;clear hst
   rotate_left
   focus
    have hz':(z==47)=false:=by simpa using hz
    clear hst hz
   rotate_left
   all_goals
    go_wp2_with (go_at_call 141;refine(hR _).mono ?_;rintro e w1 ⟨rfl,rfl⟩)
    go_ret;exact⟨by rw [Xa hres];rfl,(Below.refl _ w).alloc (Nat.le_refl _) _⟩
  obtain rfl:k=s.length:=by omega
  have hnx:=fun ty=>run_next_end (P:=prog) w ⟨s.toArray⟩ s.length ty (by simp [ByteArray.size])
  have hres:Hid (pathI s=(z != 47)):=Xb (by
   obtain⟨e1,e2⟩:=Xa hst;rw [List.take_length] at e2
   have h24':s.length<=24:=by omega
   cases b
   ·rw [e1.2 rfl];simp [pathI,e2]
   have hz:z≠47:=fun e=>by have:=e1.1 e;cases this
   simp [pathI,e2,h24',hz])
  clear hst;go_wp2;go_ret;exact⟨by rw [Xa hres];rfl,(Below.refl _ w).alloc (Nat.le_refl _) _⟩
theorem Xfl:∀(L:List ThingD) (i j:Nat) (t t':ThingD) (v:Value),L[i]? = some t->j<8->t'.cells=t.cells.setIfInBounds j v->X9 (L.set i t')=(X9 L).set (i*8+j) v
 | [],_,_,_,_,_,h,_,_=>by simp at h
 | x :: xs,0,j,t,t',v,h,hj,hc=>by
  obtain rfl:x=t:=by simpa using h
  show t'.cells.toList++X9 xs=(x.cells.toList++X9 xs).set (0*8+j) _
  rw [List.set_append_left _ _ (by rw [ThingD.cells_size];omega),hc,Array.toList_setIfInBounds,show 0*8+j=j by omega]
 | x :: xs,i+1,j,t,t',v,h,hj,hc=>by
  show x.cells.toList++X9 (xs.set i t')=(x.cells.toList++X9 xs).set ((i+1)*8+j) _
  rw [List.set_append_right _ _ (by rw [ThingD.cells_size];omega),ThingD.cells_size,show (i+1)*8+j-8=i*8+j by omega,Xfl xs i j t t' v (by simpa using h) hj hc]
theorem Tryz.Xk.Xsi {B:Nat} {W:World} {vb g cap:Nat} {L:List ThingD} {tm tn ln:Int} (h:Xk B W vb g cap L tm tn ln) (hne:vb≠g) {i j:Nat} {t t':ThingD} (hi:L[i]? = some t) (hj:j<8) (v:Value) (hc:t'.cells=t.cells.setIfInBounds j v) (hn:t'.n=t.n) (ho:t'.of_=t.of_) :
  Xk B (W.setCell ⟨g,i*8+j,none⟩ v) vb g cap (L.set i t') tm tn ln:=by
 have hlen:(L.set i t').length=L.length:=List.length_set ..
 have hmem:∀ x∈L.set i t',x∈L\/x=t':=fun x hx=>List.mem_or_eq_of_mem_set hx
 have htm:t∈L:=List.mem_of_getElem? hi;refine⟨?_,?_,?_,?_,?_⟩
 ·rw [hlen];exact h.v.other hne _ _
 ·rw [hlen]
  obtain⟨h1,⟨e1,-⟩ | ⟨g',cap',cur,e1,e2,e3,e4,e5,e6,e7⟩⟩:=h.row
  ·cases e1
  cases e1;refine⟨by rw [Z4,hlen],.inr ⟨g,cap,cur.setIfInBounds (i*8+j) v,rfl,e2,?_,e4,e5,by simpa using e6,?_⟩⟩
  ·exact BoxN.set (W:=W) (t:=105) (cs:=cur) e3 (i*8+j) v
  rw [Array.toList_setIfInBounds,List.take_set,e7,Xfl L i j t t' v hi hj hc]
 ·rw [hlen];exact h.lim
 ·intro x hx;rcases hmem x hx with hx | rfl
  ·exact h.num x hx
  rw [hn];exact h.num t htm
 intro x hx;rcases hmem x hx with hx | rfl
 ·exact h.ofs x hx
 unfold ThingD.OfOk;rw [ho];exact h.ofs t htm
def Y2 (tm:Int) (t:ThingD):ThingD:=if t.state tm=1 then { t with doomed:=true,at_:=tm } else t
theorem Tryz.Xk.Xuf {B:Nat} {W:World} {vb g cap:Nat} {L:List ThingD} {tm tn ln:Int} (h:Xk B W vb g cap L tm tn ln) (hne:vb≠g) {i:Nat} {t:ThingD} (hi:L[i]? = some t) :
  Xk B (W.setCell ⟨g,i*8+6,none⟩ (.bool true)) vb g cap (L.set i { t with doomed:=true }) tm tn ln:=
 h.Xsi hne hi (j:=6) (t':={ t with doomed:=true }) (by omega) (.bool true) rfl rfl rfl
theorem Tryz.Xk.Xug {B:Nat} {W:World} {vb g cap:Nat} {L:List ThingD} {tm tn ln:Int} {i:Nat} {t:ThingD} (h:Xk B W vb g cap (L.set i { t with doomed:=true }) tm tn ln) (hne:vb≠g) (hi:L[i]? = some t) (hs:t.state tm=1) :
  Xk B (W.setCell ⟨g,i*8+4,none⟩ (.int .u64 tm)) vb g cap (L.set i (Y2 tm t)) tm tn ln:=by
 have hil:i<L.length:=(List.getElem?_eq_some_iff.1 hi).1;have h2:=h.Xsi hne (i:=i) (j:=4) (t:={ t with doomed:=true }) (t':={ t with doomed:=true,at_:=tm }) (by simp [hil]) (by omega) (.int .u64 tm) rfl rfl rfl;rw [List.set_set] at h2;rw [Y2,if_pos hs];exact h2
abbrev Xpx (g vb i:Nat) (s:Value) (tm:Int) (W:World):Prop:=W.cell? ⟨vb,0,none⟩=some s/\W.cell? ⟨vb,1,none⟩=some (.int .u64 tm)/\W.cell? ⟨g,i*8+4,none⟩=some (X5 W ⟨g,i*8+4,none⟩)/\W.frozen? ⟨g,i*8+4,none⟩=false
theorem Tryz.Xk.Xnu {B:Nat} {W:World} {vb g cap len:Nat} {L:List ThingD} {tm tn ln:Int} (h:Xk B W vb g cap L tm tn ln) (hl:L.length=len) {i:Nat} (hi:i<L.length):Xpx g vb i (.slice (some ⟨g,0,none⟩) len cap) tm W.drew:=by
 subst hl
 obtain⟨t,ht⟩:∃ t,L[i]? = some t:=⟨L[i],by simp [hi]⟩
 exact⟨h.v.cell 0 rfl,h.v.cell 1 rfl,Xg (by show (W.cell? _).isSome;rw [(h.cells ht).2.2.2.2.1];rfl),h.Xav _⟩
theorem Tryz.Xqz (B:Nat) (vb g cap:Nat) (L:List ThingD) (tm tn ln:Int) (w:World) (h:Xk B w vb g cap L tm tn ln) (hB:B<=w.heap.size) (hne:vb≠g) (i:Nat) (t:ThingD) (ht:L[i]? = some t) :
  Calls prog 158 #[.pointer (some ⟨vb,0,none⟩),.int .i64 i] w fun e w'=>e=.returned (.tuple #[])/\Xk B w' vb g cap (L.set i (Y2 tm t)) tm tn ln/\Below B w w'/\Spares [vb,g] w w':=by
 have hS:=fun W (hb:Below w.heap.size w W)=>Xe1 t vb tm W ((h.below hb).v.cell 1 (v:=.int .u64 tm) rfl)
 simp only [ThingD.cells] at hS;have hlim:=h.lim;have hil:i<L.length:=(List.getElem?_eq_some_iff.1 ht).1;have hgB:B<=g:=(h.row.lt g rfl).1
 have hc:=fun W (hb:Below w.heap.size w W)=>(h.below hb).cells ht
 have hv:=fun W (hb:Below w.heap.size w W)=>(h.below hb).v.cell 0 (v:=.slice (some ⟨g,0,none⟩) L.length cap) rfl
 have hv1:=fun W (hb:Below w.heap.size w W)=>(h.below hb).v.cell 1 (v:=.int .u64 tm) rfl
 have hfz:=fun W (hb:Below w.heap.size w W)=>(h.below hb).Xav (i*8+4)
 have hfz6:=fun W (hb:Below w.heap.size w W)=>(h.below hb).Xav (i*8+6)
 have hset1:=Xb (fun W (hb:Below w.heap.size w W)=>(h.below hb).Xuf hne ht);have hset2:=Xb (fun W (h':Xk B W vb g cap (L.set i { t with doomed:=true }) tm tn ln) (hs:t.state tm=1)=>h'.Xug hne ht hs);have hsame:=Xb (fun W (hb:Below w.heap.size w W) (hs:¬ t.state tm=1)=>(show Xk B W vb g cap (L.set i (Y2 tm t)) tm tn ln from by rw [Y2,if_neg hs,Xcb ht];exact h.below hb));obtain⟨x0,x1,x2,x3,x4,x5,x6,x7⟩:=hc w (Below.refl _ _);have v0:=hv w (Below.refl _ _);have v1:=hv1 w (Below.refl _ _)
 obtain⟨len,hlen⟩:∃ len,L.length=len:=⟨_,rfl⟩
 rw [hlen] at hil hlim v0;simp only [hlen] at hv;have Hlen:=Xb hlen;clear hlen
 by_cases hs:t.state tm=1
 ·have hs':=Xb hs
  simp only [hs] at hS;clear hs;go_enter func158,ntmps158
  go_wp2_with (go_at_call 150;refine(hS _ (by first | exact Below.refl _ _ | exact((Below.refl _ _).drew))).mono ?_;rintro e w1 ⟨rfl,hb1⟩;have y0:=hv w1 hb1;have fz6:=hfz6 w1 hb1)
  clear hS;have r1:=Xa hset1 w1 hb1;have r2:=Xa hset2 _ r1 (Xa hs');have p1:=r1.Xnu (len:=len) (i:=i) (by rw [List.length_set];exact Xa Hlen) (by rw [List.length_set,Xa Hlen];exact hil);have p2:=r2.Xnu (len:=len) (i:=i) (by rw [List.length_set];exact Xa Hlen) (by rw [List.length_set,Xa Hlen];exact hil);have R2:=Xb r2;clear r1 r2
  go_region_held3 (Xpx g vb i (.slice (some ⟨g,0,none⟩) len cap) tm) (first
   | with_reducible exact p1
   | with_reducible exact p2
   | with_reducible assumption) (fail)
  all_goals
   go_wp2
   go_end0
   exact⟨rfl,(Xa R2).below (Xp.below (Xp.refl _).drew),(((hb1.mono hB).setCell (p:=⟨g,i*8+6,none⟩) hgB _).setCell (p:=⟨g,i*8+4,none⟩) hgB _).drew,(((Spares.of_below hb1).set (by simp) _ _).set (by simp) _ _).drew⟩
 have hs':=Xb hs
 have h2:(t.state tm==1)=false:=by simpa using hs
 clear hs;generalize t.state tm=st at *;go_enter func158,ntmps158
 go_wp2_with (go_at_call 150;refine(hS _ (by first | exact Below.refl _ _ | exact((Below.refl _ _).drew))).mono ?_;rintro e w1 ⟨rfl,hb1⟩)
 go_end0
 exact⟨rfl,Xa hsame _ hb1 (Xa hs'),hb1.mono hB,Spares.of_below hb1⟩
theorem Tryz.rTell (B:Nat) (vb g cap:Nat) (L:List ThingD) (tm tn ln:Int) (now:Int) (w:World) (h:Xk B w vb g cap L tm tn ln) (hvB:B<=vb) (hne:vb≠g) :
  Calls prog 102 #[.pointer (some ⟨vb,0,none⟩),.int .u64 now] w fun e w'=>e=.returned (.tuple #[])/\Xk B w' vb g cap L (max tm now) tn ln/\Below B w w'/\Spares [vb,g] w w':=by
 have v1:=h.v.cell 1 (v:=.int .u64 tm) rfl;have fz:=h.v.frozen 1;have hset:Hid (Xk B (w.setCell ⟨vb,1,none⟩ (.int .u64 now)) vb g cap L now tn ln):=Xb ⟨h.v.set 1 (.int .u64 now),(Spares.set (bs:=[vb]) (Spares.of_below (Below.refl _ w)) (by simp) _ _).row h.row (by simpa using Ne.symm hne),h.lim,h.num,h.ofs⟩
 by_cases hl:tm<now
 ·have hm:Hid (max tm now=now):=Xb (by omega)
  go_enter func102,ntmps102;go_wp2
  go_end0
  exact⟨rfl,by rw [Xa hm];exact Xa hset,(Below.refl _ _).setCell (p:=⟨vb,1,none⟩) hvB _,(Spares.of_below (Below.refl _ _)).set (by simp) _ _⟩
 have hm:Hid (max tm now=tm):=Xb (by omega);go_enter func102,ntmps102;go_wp2
 go_end0
 exact⟨rfl,by rw [Xa hm];exact h,Below.refl _ _,Spares.of_below (Below.refl _ _)⟩
def Y6 (n:Int) (L:List ThingD):Bool:=L.all (fun t=>!(t.of_==n))
theorem Tryz.rFree (B:Nat) (vb g cap:Nat) (L:List ThingD) (tm tn ln:Int) (n:Int) (w:World) (h:Xk B w vb g cap L tm tn ln) :
  Calls prog 152 #[.pointer (some ⟨vb,0,none⟩),.int .i64 n] w fun e w'=>e=.returned (.bool (Y6 n L))/\w'=w:=by
 have c0:=h.v.cell 0 (v:=.slice (some ⟨g,0,none⟩) L.length cap) rfl;have hlim:=h.lim
 obtain⟨len,hlen⟩:∃ len,L.length=len:=⟨_,rfl⟩
 rw [hlen] at c0 hlim;have Hlen:=Xb hlen;clear hlen;go_enter func152,ntmps152;go_wp2
 go_loopw [5] (fun i wr=>∃ k:Nat,k<=len/\i=.int .i64 k/\Hid (∀ x∈L.take k,x.of_≠n)/\wr=w) (fun i _=>len-(intOf i).toNat)
 case atStart=>exact⟨0,Nat.zero_le _,rfl,Xb (by simp),rfl⟩
 case round =>
  obtain⟨k,hk,rfl,hno,rfl⟩:=hrel
  by_cases hkl:k<len
  ·obtain⟨t,ht⟩:∃ t,L[k]? = some t:=⟨L[k]'(by have:=Xa Hlen;omega),by simp [Xa Hlen,hkl]⟩
   obtain⟨-,-,hc,-⟩:=h.cells ht;have htk:=Xb (Zu ht);have hmem:=Xb (List.mem_of_getElem? ht)
   by_cases ho:t.of_=n
   ·have hres:Hid (Y6 n L=false):=Xb (by
     rw [Y6,List.all_eq_false];exact⟨t,Xa hmem,by simp [ho]⟩)
    rw [ho] at hc;clear ho;go_wp2;go_ret;exact⟨by rw [Xa hres];rfl,rfl⟩
   have hno':Hid (∀ x∈L.take k ++ [t],x.of_≠n):=Xb (fun x hx=>by
    rcases List.mem_append.1 hx with hx | hx
    ·exact Xa hno x hx
    rw [List.mem_singleton.1 hx];exact ho)
   have hne:(t.of_==n)=false:=by simpa using ho
   clear ho;generalize t.of_=o at *;go_wp2
   go_roundw
   case rel=>exact⟨k+1,by omega,rfl,by rw [Xa htk];exact hno',by first | rfl | trivial⟩
   case measure=>simp [intOf];omega
  obtain rfl:k=len:=by omega
  have htk:=Xb (J7 (Nat.le_of_eq (Xa Hlen)))
  have hres:Hid (Y6 n L=true):=Xb (by
   have hh:=Xa hno;rw [Xa htk] at hh
   rw [Y6,List.all_eq_true];intro x hx;simpa using hh x hx)
  go_wp2;go_ret;exact⟨by rw [Xa hres];rfl,rfl⟩
def waitN:Nat->Int
 | 0=>2
 | 1=>4
 | 2=>8
 | 3=>16
 | _=>32
theorem Xed {k:Nat} (h:k<4):waitN k<32/\0<waitN k/\waitN k*2=waitN (k+1):=by
 match k,h with
 | 0,_=>decide
 | 1,_=>decide
 | 2,_=>decide
 | 3,_=>decide
theorem Us {k:Nat} (h:4<=k):waitN k=32:=by
 match k,h with
 | k+4,_=>rfl
theorem Vo (k:Nat):0<waitN k/\waitN k<=32:=by
 by_cases h:k<4
 ·have:=Xed h;omega
 rw [Us (by omega)];omega
def Ue (tm:Int) (t:ThingD):ThingD:={ t with tries:=t.tries+1,doomed:=true,at_:=plusI tm (waitN t.tries.toNat) }
theorem Tryz.Xk.Xwb {B:Nat} {W:World} {vb g cap:Nat} {L:List ThingD} {tm tn ln:Int} (h:Xk B W vb g cap L tm tn ln) (hne:vb≠g) {i:Nat} {t:ThingD} (hi:L[i]? = some t) :
  Xk B ((W.setCell ⟨g,i*8+7,none⟩ (.int .i64 (t.tries+1))).setCell ⟨g,i*8+6,none⟩ (.bool true)) vb g cap (L.set i { t with tries:=t.tries+1,doomed:=true }) tm tn ln:=by
 have hil:i<L.length:=(List.getElem?_eq_some_iff.1 hi).1;have h1:=h.Xsi hne hi (j:=7) (t':={ t with tries:=t.tries+1 }) (by omega) (.int .i64 (t.tries+1)) rfl rfl rfl;have h2:=h1.Xsi hne (i:=i) (j:=6) (t:={ t with tries:=t.tries+1 }) (t':={ t with tries:=t.tries+1,doomed:=true }) (by simp [hil]) (by omega) (.bool true) rfl rfl rfl;rw [List.set_set] at h2;exact h2
theorem Tryz.Xk.Xwc {B:Nat} {W:World} {vb g cap:Nat} {L:List ThingD} {tm tn ln:Int} {i:Nat} {t:ThingD} (h:Xk B W vb g cap (L.set i { t with tries:=t.tries+1,doomed:=true }) tm tn ln) (hne:vb≠g) (hi:L[i]? = some t) :
  Xk B (W.setCell ⟨g,i*8+4,none⟩ (.int .u64 (plusI tm (waitN t.tries.toNat)))) vb g cap (L.set i (Ue tm t)) tm tn ln:=by
 have hil:i<L.length:=(List.getElem?_eq_some_iff.1 hi).1;have h2:=h.Xsi hne (i:=i) (j:=4) (t:={ t with tries:=t.tries+1,doomed:=true }) (t':=Ue tm t) (by simp [hil]) (by omega) (.int .u64 (plusI tm (waitN t.tries.toNat))) rfl rfl rfl;rw [List.set_set] at h2;exact h2
theorem Tryz.Xiy (B:Nat) (vb g cap:Nat) (L:List ThingD) (tm tn ln:Int) (w:World) (h:Xk B w vb g cap L tm tn ln) (hB:B<=w.heap.size) (hne:vb≠g) (htm:0<=tm) (i:Nat) (t:ThingD) (ht:L[i]? = some t) (hr0:0<=t.tries) (hr1:t.tries<1000000) :
  Calls prog 107 #[.pointer (some ⟨vb,0,none⟩),.int .i64 i,.bool false] w fun e w'=>e=.returned (.tuple #[])/\Xk B w' vb g cap (L.set i (Ue tm t)) tm tn ln/\Below B w w'/\Spares [vb,g] w w':=by
 have hlim:=h.lim;have hil:i<L.length:=(List.getElem?_eq_some_iff.1 ht).1;have hgB:B<=g:=(h.row.lt g rfl).1;obtain⟨x0,x1,x2,x3,x4,x5,x6,x7⟩:=h.cells ht;have v0:=h.v.cell 0 (v:=.slice (some ⟨g,0,none⟩) L.length cap) rfl;have f7:=h.Xav (i*8+7);have f6:=h.Xav (i*8+6)
 have hP:=fun W=>Xgq tm (waitN t.tries.toNat) htm (by have:=Vo t.tries.toNat;omega) (by have:=Vo t.tries.toNat;omega) W
 have r1:=h.Xwb hne ht;have r2:=r1.Xwc hne ht;have lv:=h.v.lt
 obtain⟨len,hlen⟩:∃ len,L.length=len:=⟨_,rfl⟩
 have p1:=r1.Xnu (len:=len) (i:=i) (by rw [List.length_set];exact hlen) (by rw [List.length_set];exact hil);have p2:=r2.Xnu (len:=len) (i:=i) (by rw [List.length_set];exact hlen) (by rw [List.length_set];exact hil);have R2:=Xb r2;rw [hlen] at hil hlim v0;clear hlen r1 r2
 obtain⟨tr,htr⟩:∃ tr,t.tries=tr:=⟨_,rfl⟩
 rw [htr] at x7 hr0 hr1 hP p1 p2 R2;have Htr:=Xb htr;clear htr;go_enter func107,ntmps107;go_wp2
 go_loopw [7,8] (fun x i wr=>∃ k:Nat,(k:Int)<=tr/\k<=4/\i=.int .i64 k/\x=.int .u64 (waitN k)/\wr=w) (fun _ i _=>4-(intOf i).toNat)
 case atStart=>exact⟨0,by omega,by omega,rfl,rfl,rfl⟩
 case round =>
  obtain⟨k,hk1,hk4,rfl,rfl,rfl⟩:=hrel
  by_cases hkt:(k:Int)<tr/\k<4
  ·obtain⟨hkt,hk⟩:=hkt
   obtain⟨hx,hx0,hx2⟩:=Xed hk;have HX:=Xb hx2;clear hx2;generalize waitN k=x at *
   have hx2:x*2<18446744073709551616:=by omega
   go_wp2
   go_roundw
   case rel=>exact⟨k+1,by omega,by omega,rfl,by rw [<- Xa HX],by first | rfl | trivial⟩
   case measure=>simp [intOf];omega
  have hwt:Hid (waitN k=waitN tr.toNat):=Xb (by
   by_cases h4:k<4
   ·rw [show tr.toNat=k by omega]
   rw [Us (by omega),Us (k:=tr.toNat) (by omega)])
  have hxl:=(Vo k).2;have e:=Xa hwt;rw [<- e] at hP p2 R2;clear e
  by_cases hlt:(k:Int)<tr
  focus
   have hx:waitN k=32:=Us (by omega);clear hwt hkt;rw [hx] at hP p2 R2 hxl ⊢;clear hx
  rotate_left
  focus
   clear hk4;clear hwt hkt;generalize waitN k=x at *
  rotate_left
  all_goals
   go_wp2
   go_region_held3 (Xpx g vb i (.slice (some ⟨g,0,none⟩) len cap) tm) (first
    | with_reducible exact p1
    | with_reducible exact p2
    | with_reducible assumption) (first | (go_at_call 153;refine(hP _).mono ?_;rintro e w2 ⟨rfl,rfl⟩))
   all_goals
    go_wp2
    go_end0
    exact⟨rfl,(Xa R2).below (Xp.below (Xp.refl _).drew),((((Below.refl B wr).setCell (p:=⟨g,i*8+7,none⟩) hgB _).setCell (p:=⟨g,i*8+6,none⟩) hgB _).setCell (p:=⟨g,i*8+4,none⟩) hgB _).drew,((((Spares.of_below (Below.refl _ _)).set (by simp) _ _).set (by simp) _ _).set (by simp) _ _).drew⟩
def Xrq (W:World) (v:Value) (xs:List (List UInt8)):Prop:=
 ∃ p cap,v=.slice p xs.length cap/\∀(k:Nat) (x:List UInt8),xs[k]? = some x->∃ q,p=some ⟨q,0,none⟩/\q<W.heap.size/\W.cell? ⟨q,k,none⟩=some (.string ⟨x.toArray⟩)
def hasB (xs:List (List UInt8)) (id:List UInt8):Bool:=xs.any (fun x=>x==id)
theorem Ur (xs:List (List UInt8)) (x id:List UInt8):hasB (xs ++ [x]) id=(hasB xs id||(x==id)):=by simp [hasB]
def V6 (tm:Int) (L:List ThingD) (xs:List (List UInt8)) (t:ThingD):Bool:=
 t.state tm==2&&(decide (t.at_<=tm)&&((!t.token||Y6 t.n L) && !hasB xs t.id))
def firstB (t u:ThingD):Bool:=decide (t.at_<u.at_)||(t.at_==u.at_&&((!t.token&&u.token)||(t.token==u.token&&decide ((t.n:Int)<u.n))))
theorem Xn3 (t u:ThingD):firstB t u=(decide (t.at_<u.at_)||(t.at_==u.at_&&((!t.token&&u.token)||(t.token==u.token&&decide ((t.n:Int)<u.n))))):=rfl
def Ju (p:ThingD->Bool) (L:List ThingD):Nat->Option Nat
 | 0=>none
 | k+1=>match L[k]? with
  | none=>Ju p L k
  | some t=>if p t then (match Ju p L k with
    | none=>some k
    | some b=>match L[b]? with
     | none=>some k
     | some u=>if firstB t u then some k else some b) else Ju p L k
def Xi0:Option Nat->Int
 | none=>-1
 | some k=>k
theorem Xm0 (p:ThingD->Bool) (L:List ThingD):∀(k:Nat) {b:Nat},Ju p L k=some b->b<k/\b<L.length
 | 0,b,h=>by simp [Ju] at h
 | k+1,b,h=>by
  have ih:=fun {b:Nat}=>Xm0 p L k (b:=b)
  unfold Ju at h
  cases hk:L[k]? with
  | none=>rw [hk] at h;have:=ih h;omega
  | some t =>
   have hkl:=(List.getElem?_eq_some_iff.1 hk).1;rw [hk] at h;simp only at h
   split at h
   ·cases hd:Ju p L k with
    | none=>rw [hd] at h;simp at h;omega
    | some c =>
     have:=ih hd;rw [hd] at h;simp only at h
     cases hc:L[c]? with
     | none=>rw [hc] at h;simp at h;omega
     | some u =>
      rw [hc] at h;simp only at h
      split at h
      ·simp at h;omega
      simp at h;omega
   have:=ih h;omega
theorem Xg6 {p:ThingD->Bool} {L:List ThingD} {k:Nat} {t:ThingD} (ht:L[k]? = some t) (hp:p t=false):Ju p L (k+1)=Ju p L k:=by
 simp [Ju,ht,hp]
theorem Xjv {p:ThingD->Bool} {L:List ThingD} {k:Nat} {t:ThingD} (ht:L[k]? = some t) (hp:p t=true) (hn:Ju p L k=none):Ju p L (k+1)=some k:=by
 simp [Ju,ht,hp,hn]
theorem Xi9 {p:ThingD->Bool} {L:List ThingD} {k b:Nat} {t u:ThingD} (ht:L[k]? = some t) (hp:p t=true) (hn:Ju p L k=some b) (hu:L[b]? = some u):Ju p L (k+1)=if firstB t u then some k else some b:=by
 simp [Ju,ht,hp,hn,hu]
def Xf3 (tm:Int) (L:List ThingD) (xs:List (List UInt8)):Option Nat:=Ju (V6 tm L xs) L L.length
end Go.Proofs
