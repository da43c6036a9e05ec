import Derived.Test.YtjbekgjdempbiaaGreatDoorJState
import Derived.BigQuiet
set_option maxRecDepth 100000
set_option maxHeartbeats 8000000
namespace Go.Proofs
open Go.RowKit Go.Sort Go.Lib Go.Shelf
def plusI (a b:Int):Int:=if 18446744073709551615-b<a then 18446744073709551615 else a+b
theorem Tryz.Xgq (a b:Int) (ha:0<=a) (hb0:0<=b) (hb:b<=18446744073709551615) (w:World) :
  Calls prog 153 #[.int .u64 a,.int .u64 b] w fun e w'=>e=.returned (.int .u64 (plusI a b))/\w'=w:=by
 by_cases h:18446744073709551615-b<a
 ·have hp:Hid (plusI a b=18446744073709551615):=Xb (by simp [plusI,h])
  generalize plusI a b=r at *;go_enter func153,ntmps153;go_wp2;go_ret;exact⟨by rw [Xa hp];rfl,rfl⟩
 have hp:Hid (plusI a b=a+b):=Xb (by simp [plusI,h]);generalize plusI a b=r at *
 have hle:a+b<=18446744073709551615:=by omega
 go_enter func153,ntmps153;go_wp2;go_ret;exact⟨by rw [Xa hp];rfl,rfl⟩
theorem Xtx (d:Nat) (h:d<10):((UInt8.ofNat (48+d)).toNat:Int)=48+(d:Int):=by
 have:(UInt8.ofNat (48+d)).toNat=48+d:=by simp;omega
 omega
theorem Tryz.Xkk (d:Nat) (h:d<10) (w:World) (c:UInt8) (hc:c=UInt8.ofNat (48+d)):(convert 267 9 (.slice (some ⟨w.heap.size,0,none⟩) 1 1)).run prog (w.alloc (.cells #[.int .u8 (48+(d:Int))] 5))=.ok (.string ⟨#[c]⟩) (w.alloc (.cells #[.int .u8 (48+(d:Int))] 5)):=by
 subst hc
 exact run_convert_bytes_back (P:=prog) (w.alloc (.cells #[.int .u8 (48+(d:Int))] 5)) 267 9 5 ⟨w.heap.size,0,none⟩ 1 [UInt8.ofNat (48+d)] underlying267 underlying5 underlying9 (fun j hj=>by
  have:j=0:=by simpa using hj
  subst this;have hc:=(BoxN.new w 5 #[.int .u8 (48+(d:Int))]).cell 0 (v:=.int .u8 (48+(d:Int))) rfl;rw [Lib.add_plain];refine hc.trans ?_
  rw [List.getElem_singleton,Xtx d h])
theorem Tryz.Xni (n:Nat):∀(_:n<9223372036854775808) (w:World),
  Calls prog 151 #[.int .i64 n] w fun e w'=>e=.returned (.string ⟨(Lib.decDigits n).toArray⟩)/\Below w.heap.size w w':=by
 induction n using Nat.strongRecOn with
 | _ n ih =>
  intro hn w
  by_cases h:n<10
  ·have hi:(n:Int)<10:=by omega
   have hf0:=Lib.decDigits_one h
   obtain⟨c,hc⟩:∃ c,c=UInt8.ofNat (48+n):=⟨_,rfl⟩
   have hcv:=Xkk n h w c hc;rw [<- hc] at hf0;have hf:=Xb hf0;clear hc hf0;generalize Lib.decDigits n=r at *;go_enter func151,ntmps151;go_wp2;go_ret;exact⟨by rw [Xa hf];rfl,(Below.refl _ w).alloc (Nat.le_refl _) _⟩
  have hi:¬ (n:Int)<10:=by omega
  have hI:=ih (n / 10) (by omega) (by omega)
  have hf0:Lib.decDigits n=Lib.decDigits (n / 10) ++ [UInt8.ofNat (48+n % 10)]:=by rw [Lib.decDigits,dif_neg h]
  obtain⟨c,hc⟩:∃ c,c=UInt8.ofNat (48+n % 10):=⟨_,rfl⟩
  have hcv:=fun W=>Xkk (n % 10) (by omega) W c hc
  rw [show (48+((n % 10:Nat):Int))=48+(n:Int) % 10 by omega] at hcv;rw [<- hc] at hf0;have hf:=Xb hf0;clear hc hf0
  have hlen:¬ 9223372036854775807<(Lib.decDigits (n / 10)).length+1:=by have:=Yb (n / 10) (by omega);omega
  generalize Lib.decDigits n=r at *;generalize Lib.decDigits (n / 10)=r' at *;go_enter func151,ntmps151
  go_wp2_with (go_at_call 151;refine(hI _).mono ?_;rintro e w' ⟨rfl,hb⟩)
  go_ret;exact⟨by rw [Xa hf];exact Mb (ByteArray.ext (by simp)),hb.alloc hb.size _⟩
structure ThingD where
 token:Bool
 n:Nat
 of_:Int
 pth:List UInt8
 at_:Int
 last:Int
 doomed:Bool
 tries:Int
def ThingD.cells (t:ThingD):Array Value:=#[.bool t.token,.int .i64 t.n,.int .i64 t.of_,.string ⟨t.pth.toArray⟩,.int .u64 t.at_,.int .u64 t.last,.bool t.doomed,.int .i64 t.tries]
def ThingD.id (t:ThingD):List UInt8:=(if t.token then 116 else 108) :: Lib.decDigits t.n
def ThingD.state (tm:Int) (t:ThingD):Int:=if t.doomed||(!t.token&&decide (t.at_<=tm)) then 2 else 1
theorem Tryz.rId (t:ThingD) (hn:t.n<9223372036854775808) (w:World) :
  Calls prog 105 #[.agg t.cells] w fun e w'=>e=.returned (.string ⟨t.id.toArray⟩)/\Below w.heap.size w w':=by
 obtain⟨tk,n,o,p,a,l,dm,tr⟩:=t;simp only [ThingD.cells,ThingD.id] at hn ⊢
 have hD:=fun W=>Xni n hn W
 have hlen:¬ 9223372036854775807<1+(Lib.decDigits n).length:=by have:=Yb n (by omega);omega
 have hlen':¬ 9223372036854775807<(Lib.decDigits n).length+1:=by omega
 generalize Lib.decDigits n=r at *
 have bX:=fun(V:World) (hb:Below (w.alloc (.cells #[.bool tk,.int .i64 n,.int .i64 o,.string ⟨p.toArray⟩,.int .u64 a,.int .u64 l,.bool dm,.int .i64 tr] 105)).heap.size (w.alloc (.cells #[.bool tk,.int .i64 n,.int .i64 o,.string ⟨p.toArray⟩,.int .u64 a,.int .u64 l,.bool dm,.int .i64 tr] 105)) V)=>cell_later hb ((BoxN.new w 105 #[.bool tk,.int .i64 n,.int .i64 o,.string ⟨p.toArray⟩,.int .u64 a,.int .u64 l,.bool dm,.int .i64 tr]).cell 0 (v:=.bool tk) rfl)
 have hB0:Below w.heap.size w (w.alloc (.cells #[.bool tk,.int .i64 n,.int .i64 o,.string ⟨p.toArray⟩,.int .u64 a,.int .u64 l,.bool dm,.int .i64 tr] 105)):=(Below.refl _ w).alloc (Nat.le_refl _) _
 cases tk with
 | true =>
  go_enter func105,ntmps105
  go_wp2_with (go_at_call 151;refine(hD _).mono ?_;rintro e w' ⟨rfl,hb⟩;have c0:=bX w' hb)
  go_ret;exact⟨Mb (U1 116 r),hB0.trans (hb.mono (by simp))⟩
 | false =>
  go_enter func105,ntmps105
  go_wp2_with (go_at_call 151;refine(hD _).mono ?_;rintro e w' ⟨rfl,hb⟩;have c0:=bX w' hb)
  go_ret;exact⟨Mb (U1 108 r),hB0.trans (hb.mono (by simp))⟩
theorem Tryz.Xe1 (t:ThingD) (vb:Nat) (tm:Int) (w:World) (h1:w.cell? ⟨vb,1,none⟩=some (.int .u64 tm)) :
  Calls prog 150 #[.pointer (some ⟨vb,0,none⟩),.agg t.cells] w fun e w'=>e=.returned (.int .i64 (t.state tm))/\Below w.heap.size w w':=by
 obtain⟨tk,n,o,p,a,l,dm,tr⟩:=t;have hr:Hid (ThingD.state tm ⟨tk,n,o,p,a,l,dm,tr⟩=if dm||(!tk&&decide (a<=tm)) then 2 else 1):=Xb rfl;generalize ThingD.state tm ⟨tk,n,o,p,a,l,dm,tr⟩=r at *;simp only [ThingD.cells];have hB0:Below w.heap.size w (w.alloc (.cells #[.bool tk,.int .i64 n,.int .i64 o,.string ⟨p.toArray⟩,.int .u64 a,.int .u64 l,.bool dm,.int .i64 tr] 105)):=(Below.refl _ w).alloc (Nat.le_refl _) _;have h1':=cell_later hB0 h1
 cases dm with
 | true =>
  go_enter func150,ntmps150
  go_wp2_with fail
  go_quiet (fail);go_wp2;go_ret;exact⟨by rw [Xa hr];rfl,below_drewN hB0 _⟩
 | false =>
  cases tk with
  | true =>
   go_enter func150,ntmps150
   go_wp2_with fail
   go_quiet (fail);go_wp2;go_ret;exact⟨by rw [Xa hr];rfl,below_drewN hB0 _⟩
  | false =>
   by_cases h:a<=tm
   focus
    have hr':Hid (r=2):=Xb (by rw [Xa hr];simp [h])
   rotate_left
   focus
    have hr':Hid (r=1):=Xb (by rw [Xa hr];simp [h])
   rotate_left
   all_goals
    clear hr;go_enter func150,ntmps150
    go_wp2_with fail
    go_quiet (fail);go_wp2;go_ret;exact⟨by rw [Xa hr'];rfl,below_drewN hB0 _⟩
def X9 (xs:List ThingD):List Value:=xs.flatMap fun x=>x.cells.toList
theorem Xeg (xs:List ThingD) (x:ThingD):X9 (xs ++ [x])=X9 xs++x.cells.toList:=by simp [X9]
theorem ThingD.cells_size (x:ThingD):x.cells.toList.length=8:=rfl
theorem Z4 (xs:List ThingD):(X9 xs).length=xs.length*8:=by
 induction xs with
 | nil=>rfl
 | cons x xs ih=>simp only [X9,List.flatMap_cons,List.length_append,ThingD.cells_size,List.length_cons] at ih ⊢;omega
theorem Xgm:∀(xs:List ThingD) (k j:Nat) (t:ThingD),xs[k]? = some t->j<8->(X9 xs)[k*8+j]? = t.cells[j]?
 | [],_,_,_,h,_=>by simp at h
 | x :: xs,0,j,t,h,hj=>by
  obtain rfl:x=t:=by simpa using h
  show (x.cells.toList++X9 xs)[0*8+j]? = _
  rw [List.getElem?_append_left (by rw [ThingD.cells_size];omega)];simp
 | x :: xs,k+1,j,t,h,hj=>by
  show (x.cells.toList++X9 xs)[(k+1)*8+j]? = _
  rw [List.getElem?_append_right (by rw [ThingD.cells_size];omega),ThingD.cells_size,show (k+1)*8+j-8=k*8+j by omega];exact Xgm xs k j t (by simpa using h) hj
def ThingD.OfOk (t:ThingD):Prop:=t.of_ = -1\/∃ m:Nat,t.of_=(m:Int)/\m<9223372036854775808
structure Tryz.Xk (B:Nat) (W:World) (vb g cap:Nat) (L:List ThingD) (tm tn ln:Int):Prop where
 v:BoxN W vb 108 #[.slice (some ⟨g,0,none⟩) L.length cap,.int .u64 tm,.int .i64 tn,.int .i64 ln]
 row:W.ownsRow B 105 8 (.slice (some ⟨g,0,none⟩) L.length cap) L.length (X9 L)
 lim:L.length<=100
 num:∀ t∈L,t.n<9223372036854775808
 ofs:∀ t∈L,t.OfOk
theorem Tryz.Xk.cell {B:Nat} {W:World} {vb g cap:Nat} {L:List ThingD} {tm tn ln:Int} (h:Xk B W vb g cap L tm tn ln) {k:Nat} {t:ThingD} (hk:L[k]? = some t) (j:Nat) (hj:j<8):W.cell? ⟨g,k*8+j,none⟩=t.cells[j]?:=by
 have hc:=h.row.cells (g:=g) rfl (k*8+j);have hs:j<t.cells.size:=hj;have:=hc (t.cells[j]) (by rw [Xgm L k j t hk hj];simp [hs]);rw [Lib.add_plain] at this;simp only [Nat.zero_add] at this;rw [this];simp [hs]
theorem Tryz.Xk.cells {B:Nat} {W:World} {vb g cap:Nat} {L:List ThingD} {tm tn ln:Int} (h:Xk B W vb g cap L tm tn ln) {k:Nat} {t:ThingD} (hk:L[k]? = some t) :
  W.cell? ⟨g,k*8,none⟩=some (.bool t.token)/\W.cell? ⟨g,k*8+1,none⟩=some (.int .i64 t.n)/\W.cell? ⟨g,k*8+2,none⟩=some (.int .i64 t.of_)/\W.cell? ⟨g,k*8+3,none⟩=some (.string ⟨t.pth.toArray⟩)/\W.cell? ⟨g,k*8+4,none⟩=some (.int .u64 t.at_)/\W.cell? ⟨g,k*8+5,none⟩=some (.int .u64 t.last)/\W.cell? ⟨g,k*8+6,none⟩=some (.bool t.doomed)/\W.cell? ⟨g,k*8+7,none⟩=some (.int .i64 t.tries):=
 ⟨h.cell hk 0 (by omega),h.cell hk 1 (by omega),h.cell hk 2 (by omega),h.cell hk 3 (by omega),h.cell hk 4 (by omega),h.cell hk 5 (by omega),h.cell hk 6 (by omega),h.cell hk 7 (by omega)⟩
theorem Tryz.Xk.glt {B:Nat} {W:World} {vb g cap:Nat} {L:List ThingD} {tm tn ln:Int} (h:Xk B W vb g cap L tm tn ln):g<W.heap.size:=(h.row.lt g rfl).2
theorem Tryz.Xk.below {B:Nat} {W W':World} {vb g cap:Nat} {L:List ThingD} {tm tn ln:Int} (h:Xk B W vb g cap L tm tn ln) (hb:Below W.heap.size W W'):Xk B W' vb g cap L tm tn ln:=
 ⟨h.v.below hb h.v.lt,h.row.kept (row:=none) ⟨hb.os,hb.tape,hb.output,hb.size,fun k hk _=>hb.block k hk⟩ (Or.inr (by simp [Value.ownBlock])),h.lim,h.num,h.ofs⟩
theorem Zu {α:Type} {L:List α} {k:Nat} {t:α} (h:L[k]? = some t):L.take (k+1)=L.take k ++ [t]:=by
 rw [List.take_add_one,h];rfl
theorem J7 {α:Type} {L:List α} {k:Nat} (h:L.length<=k):L.take k=L:=List.take_of_length_le h
def countI (tk:Bool) (L:List ThingD):Nat:=(L.filter (fun t=>t.token==tk)).length
theorem Xjw (tk:Bool) (L:List ThingD) (t:ThingD):countI tk (L ++ [t])=countI tk L+(if t.token==tk then 1 else 0):=by
 unfold countI
 by_cases h:(t.token==tk)=true <;> simp [h]
theorem Xny (tk:Bool) (L:List ThingD):countI tk L<=L.length:=List.length_filter_le _ _
theorem Tryz.Xe7 (B:Nat) (vb g cap:Nat) (L:List ThingD) (tm tn ln:Int) (tk:Bool) (w:World) (h:Xk B w vb g cap L tm tn ln) :
  Calls prog 155 #[.pointer (some ⟨vb,0,none⟩),.bool tk] w fun e w'=>e=.returned (.int .i64 (countI tk L))/\w'=w:=by
 have c0:=h.v.cell 0 (v:=.slice (some ⟨g,0,none⟩) L.length cap) rfl;have hlim:=h.lim
 obtain⟨len,hlen⟩:∃ len,L.length=len:=⟨_,rfl⟩
 rw [hlen] at c0 hlim;have Hlen:=Xb hlen;clear hlen;go_enter func155,ntmps155;go_wp2
 go_loopw [5,6] (fun n i wr=>∃ k:Nat,k<=len/\i=.int .i64 k/\n=.int .i64 (countI tk (L.take k))/\wr=w) (fun _ i _=>len-(intOf i).toNat)
 case atStart=>exact⟨0,Nat.zero_le _,rfl,rfl,rfl⟩
 case round =>
  obtain⟨k,hk,rfl,rfl,rfl⟩:=hrel
  by_cases hkl:k<len
  ·obtain⟨t,ht⟩:∃ t,L[k]? = some t:=⟨L[k]'(by have:=Xa Hlen;omega),by simp [Xa Hlen,hkl]⟩
   have hc:=(h.cells ht).1;have hsn:=Xb (Xjw tk (L.take k) t);have htk:=Xb (Zu ht);have hcl:=Xny tk (L.take k)
   have hcl':(L.take k).length<=k:=by simp;omega
   generalize t.token=b at *;generalize countI tk (L.take k)=c at *
   cases b <;> cases tk
   all_goals
    go_wp2
    go_roundw
    case rel=>exact⟨k+1,by omega,rfl,by rw [Xa htk,Xa hsn];rfl,by first | rfl | trivial⟩
    case measure=>simp [intOf];omega
  obtain rfl:k=len:=by omega
  have htk:=Xb (J7 (Nat.le_of_eq (Xa Hlen)));generalize hcc:countI tk (L.take k)=c at *;go_wp2;go_ret;exact⟨by rw [<- hcc,Xa htk];rfl,rfl⟩
def minT (L:List ThingD):Int:=L.foldl (fun m t=>min m t.at_) 18446744073709551615
theorem Xoc (L:List ThingD) (t:ThingD):minT (L ++ [t])=min (minT L) t.at_:=by simp [minT]
theorem Tryz.rNext (B:Nat) (vb g cap:Nat) (L:List ThingD) (tm tn ln:Int) (w:World) (h:Xk B w vb g cap L tm tn ln) :
  Calls prog 59 #[.pointer (some ⟨vb,0,none⟩)] w fun e w'=>e=.returned (.int .u64 (minT L))/\w'=w:=by
 have c0:=h.v.cell 0 (v:=.slice (some ⟨g,0,none⟩) L.length cap) rfl;have hlim:=h.lim
 obtain⟨len,hlen⟩:∃ len,L.length=len:=⟨_,rfl⟩
 rw [hlen] at c0 hlim;have Hlen:=Xb hlen;clear hlen;go_enter func59,ntmps59;go_wp2
 go_loopw [3,4] (fun n i wr=>∃ k:Nat,k<=len/\i=.int .i64 k/\n=.int .u64 (minT (L.take k))/\wr=w) (fun _ i _=>len-(intOf i).toNat)
 case atStart=>exact⟨0,Nat.zero_le _,rfl,rfl,rfl⟩
 case round =>
  obtain⟨k,hk,rfl,rfl,rfl⟩:=hrel
  by_cases hkl:k<len
  ·obtain⟨t,ht⟩:∃ t,L[k]? = some t:=⟨L[k]'(by have:=Xa Hlen;omega),by simp [Xa Hlen,hkl]⟩
   obtain⟨-,-,-,-,hc,-⟩:=h.cells ht;have hsn:=Xb (Xoc (L.take k) t);have htk:=Xb (Zu ht);generalize t.at_=a at *;generalize minT (L.take k)=c at *
   by_cases hac:a<c
   focus
    have hm:Hid (min c a=a):=Xb (by omega)
   rotate_left
   focus
    have hm:Hid (min c a=c):=Xb (by omega)
   rotate_left
   all_goals
    go_wp2
    go_roundw
    case rel=>exact⟨k+1,by omega,rfl,by rw [Xa htk,Xa hsn,Xa hm],by first | rfl | trivial⟩
    case measure=>simp [intOf];omega
  obtain rfl:k=len:=by omega
  have htk:=Xb (J7 (Nat.le_of_eq (Xa Hlen)));generalize hcc:minT (L.take k)=c at *;go_wp2;go_ret;exact⟨by rw [<- hcc,Xa htk];rfl,rfl⟩
def J9 (id:List UInt8) (L:List ThingD):Int:=match L.findIdx? (fun t=>t.id==id) with | some i=>(i:Int) | none=>-1
theorem Xor {id:List UInt8} {L:List ThingD} {k:Nat} {t:ThingD} (hb:∀ x∈L.take k,x.id≠id) (hk:L[k]? = some t) (ht:t.id=id):J9 id L=k:=by
 have:L.findIdx? (fun t=>t.id==id)=some k:=by
  rw [List.findIdx?_eq_some_iff_getElem];obtain⟨hlt,hg⟩:=List.getElem?_eq_some_iff.1 hk;refine⟨hlt,by simp [hg,ht],fun j hj=>?_⟩;have:=hb (L[j]) (List.mem_take_iff_getElem.2 ⟨j,by omega,rfl⟩)
  simpa using this
 rw [J9,this]
theorem Xmh {id:List UInt8} {L:List ThingD} (hb:∀ x∈L,x.id≠id):J9 id L = -1:=by
 have:L.findIdx? (fun t=>t.id==id)=none:=by
  rw [List.findIdx?_eq_none_iff];intro x hx
  simpa using hb x hx
 rw [J9,this]
theorem Tryz.Xiz (B:Nat) (vb g cap:Nat) (L:List ThingD) (tm tn ln:Int) (id:List UInt8) (w:World) (h:Xk B w vb g cap L tm tn ln) :
  Calls prog 157 #[.pointer (some ⟨vb,0,none⟩),.string ⟨id.toArray⟩] w fun e w'=>e=.returned (.int .i64 (J9 id L))/\Below w.heap.size w w':=by
 have hlim:=h.lim
 obtain⟨len,hlen⟩:∃ len,L.length=len:=⟨_,rfl⟩
 rw [hlen] at hlim;have Hlen:=Xb hlen;clear hlen;go_enter func157,ntmps157;go_wp2
 go_loopw [5] (fun i wr=>∃ k:Nat,k<=len/\i=.int .i64 k/\Hid (∀ x∈L.take k,x.id≠id)/\Below w.heap.size w wr) (fun i _=>len-(intOf i).toNat)
 case atStart=>exact⟨0,Nat.zero_le _,rfl,Xb (by simp),Below.refl _ _⟩
 case round =>
  obtain⟨k,hk,rfl,hno,hB⟩:=hrel;have h':=h.below hB;have c0:=h'.v.cell 0 (v:=.slice (some ⟨g,0,none⟩) L.length cap) rfl;rw [Xa Hlen] at c0
  by_cases hkl:k<len
  ·obtain⟨t,ht⟩:∃ t,L[k]? = some t:=⟨L[k]'(by have:=Xa Hlen;omega),by simp [Xa Hlen,hkl]⟩
   obtain⟨x0,x1,x2,x3,x4,x5,x6,x7⟩:=h'.cells ht;have htk:=Xb (Zu ht)
   have hID:=fun W=>rId t (h.num t (List.mem_of_getElem? ht)) W
   simp only [ThingD.cells] at hID
   by_cases hid:t.id=id
   ·have hres:=Xb (Xor (Xa hno) ht hid)
    rw [hid] at hID
    go_wp2_with (go_at_call 105;refine(hID _).mono ?_;rintro e w1 ⟨rfl,hb1⟩)
    go_ret;exact⟨by rw [Xa hres];rfl,hB.trans (hb1.mono hB.size)⟩
   have hne:(t.id==id)=false:=by simpa using hid
   have hno':Hid (∀ x∈L.take k ++ [t],x.id≠id):=Xb (fun x hx=>by
    rcases List.mem_append.1 hx with hx | hx
    ·exact Xa hno x hx
    rw [List.mem_singleton.1 hx];exact hid)
   have hid':=Xb hid;clear hid;generalize t.id=tid at *
   go_wp2_with (go_at_call 105;refine(hID _).mono ?_;rintro e w1 ⟨rfl,hb1⟩)
   go_roundw
   case rel=>exact⟨k+1,by omega,rfl,by rw [Xa htk];exact hno',hB.trans (hb1.mono hB.size)⟩
   case measure=>simp [intOf];omega
  obtain rfl:k=len:=by omega
  have hres:=Xb (Xmh (L:=L) (id:=id) (by have:=Xa hno;rwa [J7 (Nat.le_of_eq (Xa Hlen))] at this));go_wp2;go_ret;exact⟨by rw [Xa hres];rfl,hB⟩
def liveI (tm:Int) (id:List UInt8) (tk:Bool) (L:List ThingD):Int:=
 match L.findIdx? (fun t=>t.id==id) with
 | some i=>match L[i]? with
  | some t=>if t.token==tk&&t.state tm==1 then (i:Int) else -1
  | none=>-1
 | none=>-1
theorem Mt (id:List UInt8) (L:List ThingD):(∃(i:Nat) (t:ThingD),L.findIdx? (fun t=>t.id==id)=some i/\L[i]? = some t/\J9 id L=i)\/(L.findIdx? (fun t=>t.id==id)=none/\J9 id L = -1):=by
 cases he:L.findIdx? (fun t=>t.id==id) with
 | none=>exact .inr ⟨rfl,by rw [J9,he]⟩
 | some i =>
  obtain⟨hlt,-⟩:=List.findIdx?_eq_some_iff_getElem.1 he;exact .inl ⟨i,L[i],rfl,by simp [hlt],by rw [J9,he]⟩
theorem Tryz.Xby (B:Nat) (vb g cap:Nat) (L:List ThingD) (tm tn ln:Int) (id:List UInt8) (tk:Bool) (w:World) (h:Xk B w vb g cap L tm tn ln) :
  Calls prog 154 #[.pointer (some ⟨vb,0,none⟩),.string ⟨id.toArray⟩,.bool tk] w fun e w'=>e=.returned (.int .i64 (liveI tm id tk L))/\Below w.heap.size w w':=by
 have hF:=Xiz B vb g cap L tm tn ln id w h;have hlim:=h.lim
 rcases Mt id L with⟨i,t,he,ht,hfi⟩ | ⟨he,hfi⟩
 ·have hres:Hid (liveI tm id tk L=if t.token==tk&&t.state tm==1 then (i:Int) else -1):=Xb (by simp [liveI,he,ht])
  rw [hfi] at hF;clear hfi he;have hil:i<L.length:=(List.getElem?_eq_some_iff.1 ht).1
  have hc:=fun W (hb:Below w.heap.size w W)=>(h.below hb).cells ht
  have hv:=fun W (hb:Below w.heap.size w W)=>(h.below hb).v.cell 0 (v:=.slice (some ⟨g,0,none⟩) L.length cap) rfl
  have hS:=fun W (hb:Below w.heap.size w W)=>Xe1 t vb tm W ((h.below hb).v.cell 1 (v:=.int .u64 tm) rfl)
  simp only [ThingD.cells] at hS;generalize t.state tm=st at *;generalize L.length=len at *;generalize liveI tm id tk L=res at *;generalize t.token=b at *
  have hnn:¬ (i:Int)<0:=by omega
  by_cases hst:st=1
  ·subst hst
   cases b <;> cases tk
   all_goals
    go_enter func154,ntmps154
    go_wp2_with (first
     | (go_at_call 157;refine hF.mono ?_;rintro e w1 ⟨rfl,hb1⟩;obtain⟨x0,x1,x2,x3,x4,x5,x6,x7⟩:=hc w1 hb1;have v0:=hv w1 hb1)
     | (go_at_call 150;refine(hS _ hb1).mono ?_;rintro e w2 ⟨rfl,hb2⟩))
    go_ret
    first
     | exact⟨by rw [Xa hres];rfl,hb1.trans (hb2.mono hb1.size)⟩
     | exact⟨by rw [Xa hres];rfl,hb1⟩
  have hst':(st==1)=false:=by simpa using hst
  have hres':Hid (res = -1):=Xb (by rw [Xa hres,hst'];simp);clear hres hst
  cases b <;> cases tk
  all_goals
   go_enter func154,ntmps154
   go_wp2_with (first
    | (go_at_call 157;refine hF.mono ?_;rintro e w1 ⟨rfl,hb1⟩;obtain⟨x0,x1,x2,x3,x4,x5,x6,x7⟩:=hc w1 hb1;have v0:=hv w1 hb1)
    | (go_at_call 150;refine(hS _ hb1).mono ?_;rintro e w2 ⟨rfl,hb2⟩))
   go_ret
   first
    | exact⟨by rw [Xa hres'];rfl,hb1.trans (hb2.mono hb1.size)⟩
    | exact⟨by rw [Xa hres'];rfl,hb1⟩
 have hres:Hid (liveI tm id tk L = -1):=Xb (by simp [liveI,he]);rw [hfi] at hF;clear hfi he;generalize liveI tm id tk L=res at *;go_enter func154,ntmps154
 go_wp2_with (go_at_call 157;refine hF.mono ?_;rintro e w1 ⟨rfl,hb1⟩)
 go_ret;exact⟨by rw [Xa hres];rfl,hb1⟩
def ofStr (o:Int):List UInt8:=if 0<=o then 116 :: Lib.decDigits o.toNat else []
def ThingD.info (tm:Int) (t:ThingD):InfoD:=⟨t.id,t.state tm,t.at_,t.tries,ofStr t.of_,t.pth⟩
theorem BoxN.c8 {W:World} {b:Nat} {t:TypeId} {c0 c1 c2 c3 c4 c5 c6 c7:Value} (h:BoxN W b t #[c0,c1,c2,c3,c4,c5,c6,c7]) :
  W.cell? ⟨b,0,none⟩=some c0/\W.cell? ⟨b,1,none⟩=some c1/\W.cell? ⟨b,2,none⟩=some c2/\W.cell? ⟨b,3,none⟩=some c3/\W.cell? ⟨b,4,none⟩=some c4/\W.cell? ⟨b,5,none⟩=some c5/\W.cell? ⟨b,6,none⟩=some c6/\W.cell? ⟨b,7,none⟩=some c7:=
 ⟨h.cell 0 rfl,h.cell 1 rfl,h.cell 2 rfl,h.cell 3 rfl,h.cell 4 rfl,h.cell 5 rfl,h.cell 6 rfl,h.cell 7 rfl⟩
theorem BoxN.c6 {W:World} {b:Nat} {t:TypeId} {c0 c1 c2 c3 c4 c5:Value} (h:BoxN W b t #[c0,c1,c2,c3,c4,c5]) :
  (W.cell? ⟨b,0,none⟩=some c0/\W.cell? ⟨b,1,none⟩=some c1/\W.cell? ⟨b,2,none⟩=some c2/\W.cell? ⟨b,3,none⟩=some c3/\W.cell? ⟨b,4,none⟩=some c4/\W.cell? ⟨b,5,none⟩=some c5) /\
  (W.frozen? ⟨b,0,none⟩=false/\W.frozen? ⟨b,1,none⟩=false/\W.frozen? ⟨b,2,none⟩=false/\W.frozen? ⟨b,3,none⟩=false/\W.frozen? ⟨b,4,none⟩=false/\W.frozen? ⟨b,5,none⟩=false):=
 ⟨⟨h.cell 0 rfl,h.cell 1 rfl,h.cell 2 rfl,h.cell 3 rfl,h.cell 4 rfl,h.cell 5 rfl⟩,h.frozen 0,h.frozen 1,h.frozen 2,h.frozen 3,h.frozen 4,h.frozen 5⟩
theorem Xgy {w W:World} {B q:Nat} (h:Below B w W) (hq:B<=q) (v0 v1 v2 v3 v4 v5:Value) :
  Below B w ((((((W.setCell ⟨q,0,none⟩ v0).setCell ⟨q,1,none⟩ v1).setCell ⟨q,2,none⟩ v2).setCell ⟨q,3,none⟩ v3).setCell ⟨q,4,none⟩ v4).setCell ⟨q,5,none⟩ v5):=
 (((((h.setCell (p:=⟨q,0,none⟩) hq v0).setCell (p:=⟨q,1,none⟩) hq v1).setCell (p:=⟨q,2,none⟩) hq v2).setCell (p:=⟨q,3,none⟩) hq v3).setCell (p:=⟨q,4,none⟩) hq v4).setCell (p:=⟨q,5,none⟩) hq v5
abbrev Xr8:Array Value:=#[.string ⟨#[]⟩,.int .i64 0,.int .u64 0,.int .i64 0,.string ⟨#[]⟩,.string ⟨#[]⟩]
theorem Tryz.rInfo (t:ThingD) (vb:Nat) (tm:Int) (w:World) (h1:w.cell? ⟨vb,1,none⟩=some (.int .u64 tm)) (hn:t.n<9223372036854775808) (ho:t.OfOk) :
  Calls prog 101 #[.pointer (some ⟨vb,0,none⟩),.agg t.cells] w fun e w'=>e=.returned (.agg (t.info tm).cells)/\Below w.heap.size w w':=by
 have hS:=fun W (h:W.cell? ⟨vb,1,none⟩=some (.int .u64 tm))=>Xe1 t vb tm W h
 have hI:=fun W=>rId t hn W
 simp only [ThingD.info,InfoD.cells];generalize t.state tm=st at *;generalize t.id=tid at *;obtain⟨tk,n,o,p,a,l,dm,tr⟩:=t;simp only [ThingD.cells] at *;have hB0:Below w.heap.size w ((w.alloc (.cells #[.bool tk,.int .i64 n,.int .i64 o,.string ⟨p.toArray⟩,.int .u64 a,.int .u64 l,.bool dm,.int .i64 tr] 105)).alloc (.cells Xr8 49)):=((Below.refl _ w).alloc (Nat.le_refl _) _).alloc (by simp) _;have bT:=(BoxN.new w 105 #[.bool tk,.int .i64 n,.int .i64 o,.string ⟨p.toArray⟩,.int .u64 a,.int .u64 l,.bool dm,.int .i64 tr]).alloc (.cells Xr8 49);have bR:=BoxN.new (w.alloc (.cells #[.bool tk,.int .i64 n,.int .i64 o,.string ⟨p.toArray⟩,.int .u64 a,.int .u64 l,.bool dm,.int .i64 tr] 105)) 49 Xr8;rw [World.size_alloc] at bR;have h1':=cell_later hB0 h1
 rcases ho with ho | ⟨m,ho,hm⟩
 ·simp only at ho
  subst ho;have hof:Hid (ofStr (-1) = []):=Xb rfl;generalize ofStr (-1)=os at *;go_enter func101,ntmps101
  go_wp2_with (first
   | (go_at_call 150;refine(hS _ h1').mono ?_;rintro e w1 ⟨rfl,hb1⟩;have bT1:=bT.below hb1 bT.lt;obtain⟨x0,x1,x2,x3,x4,x5,x6,x7⟩:=bT1.c8)
   | (go_at_call 105;refine(hI _).mono ?_;rintro e w2 ⟨rfl,hb2⟩;have bT2:=bT1.below hb2 bT1.lt;obtain⟨y0,y1,y2,y3,y4,y5,y6,y7⟩:=bT2.c8;have bR2:=(bR.below hb1 bR.lt).below hb2 (bR.below hb1 bR.lt).lt;obtain⟨⟨r0,r1,r2,r3,r4,r5⟩,f0,f1,f2,f3,f4,f5⟩:=bR2.c6;have lt2:=bT2.lt;have ltR:=bR2.lt))
  have hB2:Below w.heap.size w w2:=(hB0.trans (hb1.mono (by simp;omega))).trans (hb2.mono (by have:=hb1.size;simp at this;omega));obtain⟨g0,g1,g2,g3,g4,g5⟩:=((Xid bR2 (.string ⟨tid.toArray⟩) (.int .i64 st) (.int .u64 a) (.int .i64 tr) (.string ⟨#[]⟩) (.string ⟨p.toArray⟩)).alloc (.cells #[.string ⟨tid.toArray⟩,.int .i64 st,.int .u64 a,.int .i64 tr,.string ⟨#[]⟩,.string ⟨p.toArray⟩] 49)).c6.1;have hBF:=(Xgy hB2 (Nat.le_succ _) (.string ⟨tid.toArray⟩) (.int .i64 st) (.int .u64 a) (.int .i64 tr) (.string ⟨#[]⟩) (.string ⟨p.toArray⟩)).alloc (by simp only [World.size_setCell];omega) (.cells #[.string ⟨tid.toArray⟩,.int .i64 st,.int .u64 a,.int .i64 tr,.string ⟨#[]⟩,.string ⟨p.toArray⟩] 49);clear hS hI hb1 hb2 hB0 bT bR h1 h1' x0 x1 x2 x3 x4 x5 x6 x7 y0 y1 y2 y3 y4 y5 y6 y7 bT1 bT2;generalize World.alloc _ _=WF at *;exact bodyPost_ret (v:=.agg (Ya tid st a tr [] p)) (by simp [results,results101,go_sem,g0,g1,g2,g3,g4,g5,Ya]) rfl ⟨by rw [Xa hof],hBF⟩
 simp only at ho;subst ho;have hof:Hid (ofStr (m:Int)=116 :: Lib.decDigits m):=Xb (by simp [ofStr])
 have hD:=fun W=>Xni m hm W
 have hlen:¬ 9223372036854775807<1+(Lib.decDigits m).length:=by have:=Yb m (by omega);omega
 have hlen':¬ 9223372036854775807<(Lib.decDigits m).length+1:=by omega
 generalize ofStr (m:Int)=os at *;generalize Lib.decDigits m=ds at *;go_enter func101,ntmps101
 go_wp2_with (first
  | (go_at_call 150;refine(hS _ h1').mono ?_;rintro e w1 ⟨rfl,hb1⟩;have bT1:=bT.below hb1 bT.lt;obtain⟨x0,x1,x2,x3,x4,x5,x6,x7⟩:=bT1.c8)
  | (go_at_call 105;refine(hI _).mono ?_;rintro e w2 ⟨rfl,hb2⟩;have bT2:=bT1.below hb2 bT1.lt;obtain⟨y0,y1,y2,y3,y4,y5,y6,y7⟩:=bT2.c8;have bR2:=(bR.below hb1 bR.lt).below hb2 (bR.below hb1 bR.lt).lt;have lt2:=bT2.lt;have ltR:=bR2.lt;have bX2:=BoxN.new w2 49 #[.string ⟨tid.toArray⟩,.int .i64 st,.int .u64 a,.int .i64 tr,.string ⟨#[]⟩,.string ⟨p.toArray⟩])
  | (go_at_call 151;refine(hD _).mono ?_;rintro e w3 ⟨rfl,hb3⟩;have bX3:=bX2.below hb3 bX2.lt;have bR3:=(bR2.alloc (.cells #[.string ⟨tid.toArray⟩,.int .i64 st,.int .u64 a,.int .i64 tr,.string ⟨#[]⟩,.string ⟨p.toArray⟩] 49)).below hb3 (by simp;omega);obtain⟨⟨r0,r1,r2,r3,r4,r5⟩,f0,f1,f2,f3,f4,f5⟩:=bR3.c6;obtain⟨⟨z0,z1,z2,z3,z4,z5⟩,k0,k1,k2,k3,k4,k5⟩:=bX3.c6))
 have hB2:Below w.heap.size w w2:=(hB0.trans (hb1.mono (by simp;omega))).trans (hb2.mono (by have:=hb1.size;simp at this;omega));have hB3:Below w.heap.size w w3:=(hB2.alloc (by omega) _).trans (hb3.mono (by simp;omega));obtain⟨g0,g1,g2,g3,g4,g5⟩:=(Xid (bR3.other (B':=w2.heap.size) (by omega) 4 (.string (⟨#[116]⟩ ++ ⟨ds.toArray⟩))) (.string ⟨tid.toArray⟩) (.int .i64 st) (.int .u64 a) (.int .i64 tr) (.string (⟨#[116]⟩ ++ ⟨ds.toArray⟩)) (.string ⟨p.toArray⟩)).c6.1;have hBF:=Xgy (hB3.setCell (p:=⟨w2.heap.size,4,none⟩) (by simp;omega) (.string (⟨#[116]⟩ ++ ⟨ds.toArray⟩))) (Nat.le_succ _) (.string ⟨tid.toArray⟩) (.int .i64 st) (.int .u64 a) (.int .i64 tr) (.string (⟨#[116]⟩ ++ ⟨ds.toArray⟩)) (.string ⟨p.toArray⟩);clear hS hI hb1 hb2 hb3 hB0 bT bR h1 h1' x0 x1 x2 x3 x4 x5 x6 x7 y0 y1 y2 y3 y4 y5 y6 y7 bT1 bT2 r0 r1 r2 r3 r4 r5 z0 z1 z2 z3 z4 z5 bX3 bX2 bR3 bR2;generalize World.setCell _ ⟨w.heap.size+1,5,none⟩ _=WF at *;have hos:=Xb (U1 116 ds);generalize (⟨#[116]⟩:ByteArray) ++ ⟨ds.toArray⟩=sb at *;exact bodyPost_ret (v:=.agg (Ya tid st a tr (116 :: ds) p)) (by simp [results,results101,go_sem,g0,g1,g2,g3,g4,g5,Ya,Xa hos]) rfl ⟨by rw [Xa hof],hBF⟩
def allInfos (tm:Int) (L:List ThingD):List InfoD:=((L.filter (fun t=>t.token))++(L.filter (fun t=>!t.token))).map (ThingD.info tm)
end Go.Proofs
