import Derived.Test.YtjbekgjdempbiaaGreatDoorJRefQ0
import Derived.BigQuiet
set_option maxRecDepth 100000
set_option maxHeartbeats 16000000
namespace Go.Proofs
open Go.RowKit Go.Sort Go.Lib Go.Shelf
theorem Tryz.rDue (B:Nat) (vb g cap:Nat) (L:List ThingD) (tm tn ln:Int) (xs:List (List UInt8)) (tv:Value) (w:World) (h:Xk B w vb g cap L tm tn ln) (hx:Xrq w tv xs) (hxl:xs.length<=100000) :
  Calls prog 104 #[.pointer (some ⟨vb,0,none⟩),tv] w fun e w'=>e=.returned (.int .i64 (Xi0 (Xf3 tm L xs)))/\Below w.heap.size w w':=by
 obtain⟨p,tcap,rfl,hxs⟩:=hx;have hlim:=h.lim
 obtain⟨len,hlen⟩:∃ len,L.length=len:=⟨_,rfl⟩
 rw [hlen] at hlim;have Hlen:=Xb hlen;clear hlen
 obtain⟨xn,hxn⟩:∃ xn,xs.length=xn:=⟨_,rfl⟩
 rw [hxn] at hxl ⊢;have Hxn:=Xb hxn;clear hxn;have Hxs:=Xb hxs;clear hxs;go_enter func104,ntmps104;go_wp2
 go_loopw [5,6] (fun bst i wr=>∃ k:Nat,k<=len/\i=.int .i64 k/\bst=.int .i64 (Xi0 (Ju (V6 tm L xs) L k))/\Below w.heap.size w wr) (fun _ i _=>len-(intOf i).toNat)
 case atStart=>exact⟨0,Nat.zero_le _,rfl,rfl,Below.refl _ _⟩
 case round =>
  obtain⟨k,hk,rfl,rfl,hB⟩:=hrel;have h':=h.below hB;have c0:=h'.v.cell 0 (v:=.slice (some ⟨g,0,none⟩) L.length cap) rfl;rw [Xa Hlen] at c0
  obtain⟨bo,hbo⟩:∃ bo,Ju (V6 tm L xs) L k=bo:=⟨_,rfl⟩
  have Hbo:=Xb hbo;rw [hbo];clear hbo
  obtain⟨bi,hbi⟩:∃ bi,Xi0 bo=bi:=⟨_,rfl⟩
  rw [hbi];have Hbi:=Xb hbi;clear hbi
  by_cases hkl:k<len
  ·obtain⟨t,ht⟩:∃ t,L[k]? = some t:=⟨L[k]'(by have:=Xa Hlen;omega),by simp [Xa Hlen,hkl]⟩
   obtain⟨x0,x1,x2,x3,x4,x5,x6,x7⟩:=h'.cells ht;have Ht:=Xb ht;have hn:=h.num t (List.mem_of_getElem? ht)
   have hID:=fun W=>rId t hn W
   have hS:=fun W (hb:Below w.heap.size w W)=>Xe1 t vb tm W ((h.below hb).v.cell 1 (v:=.int .u64 tm) rfl)
   have hF:=fun W (hb:Below w.heap.size w W)=>rFree B vb g cap L tm tn ln (t.n:Int) W (h.below hb)
   have hv1:=fun W (hb:Below w.heap.size w W)=>(h.below hb).v.cell 1 (v:=.int .u64 tm) rfl
   simp only [ThingD.cells] at hID hS;have hskip:=Xb (fun(hp:V6 tm L xs t=false)=>(Xg6 ht hp).trans (Xa Hbo));have hbd:Hid (V6 tm L xs t=(t.state tm==2&&(decide (t.at_<=tm)&&((!t.token||Y6 t.n L) && !hasB xs t.id)))):=Xb rfl;clear ht;have bT:=BoxN.new wr 105 #[.bool t.token,.int .i64 t.n,.int .i64 t.of_,.string ⟨t.pth.toArray⟩,.int .u64 t.at_,.int .u64 t.last,.bool t.doomed,.int .i64 t.tries];have hB1:Below w.heap.size w (wr.alloc (.cells #[.bool t.token,.int .i64 t.n,.int .i64 t.of_,.string ⟨t.pth.toArray⟩,.int .u64 t.at_,.int .u64 t.last,.bool t.doomed,.int .i64 t.tries] 105)):=hB.alloc hB.size _
   have hst:t.state tm=1\/t.state tm=2:=by unfold ThingD.state;split <;> simp
   rcases hst with hst | hst
   focus
    have hp:=Xb (Xa hskip (by rw [Xa hbd,hst];rfl));simp only [hst] at hS;clear hst
    go_wp2_with (go_at_call 150;refine(hS _ hB1).mono ?_;rintro e w1 ⟨rfl,hb1⟩;obtain⟨y0,y1,y2,y3,y4,y5,y6,y7⟩:=(bT.below hb1 bT.lt).c8)
   rotate_left
   focus
    simp only [hst] at hS
    by_cases hat:t.at_<=tm
    ·have hat':¬ tm<t.at_:=by omega
     have hd:decide (tm<t.at_)=false:=by simpa using hat
     have hbd2:Hid (V6 tm L xs t=((!t.token||Y6 t.n L) && !hasB xs t.id)):=Xb (by rw [Xa hbd,hst];simp [hat]);clear hst hbd hat
     go_wp2_with (go_at_call 150;refine(hS _ hB1).mono ?_;rintro e w1 ⟨rfl,hb1⟩;obtain⟨y0,y1,y2,y3,y4,y5,y6,y7⟩:=(bT.below hb1 bT.lt).c8;have yv:=hv1 w1 (hB1.trans (hb1.mono hB1.size)))
     go_quiet (fail);have hB2:Below w.heap.size w (w1.drewN nq):=below_drewN (hB1.trans (hb1.mono hB1.size)) _;have bT2:=(bT.below hb1 bT.lt).below (below_drewN (Below.refl w1.heap.size w1) nq) (bT.below hb1 bT.lt).lt;have hF2:=hF _ hB2;generalize w1.drewN nq=w2 at *;clear y0 y1 y2 y3 y4 y5 y6 y7 yv hb1 bT hB1 x0 x1 x2 x3 x4 x5 x6 x7 c0 hS hF h' hB hd hat';obtain⟨z0,z1,z2,z3,z4,z5,z6,z7⟩:=bT2.c8
     obtain⟨tk,htk⟩:∃ tk,t.token=tk:=⟨_,rfl⟩
     obtain⟨fr,hfr⟩:∃ fr,Y6 t.n L=fr:=⟨_,rfl⟩
     rw [htk,hfr] at hbd2;rw [htk] at z0 bT2;rw [hfr] at hF2;simp only [htk] at hID;have Htk:=Xb htk;clear htk hfr
     have h3:(tk=false)\/(tk=true/\fr=true)\/(tk=true/\fr=false):=by cases tk <;> cases fr <;> simp
     rcases h3 with rfl | ⟨rfl,rfl⟩ | ⟨rfl,rfl⟩
     rotate_left 2
     ·have hp:=Xb (Xa hskip (by rw [Xa hbd2];rfl))
      go_wp2_with (go_at_call 152;refine hF2.mono ?_;rintro e w3 ⟨rfl,rfl⟩)
      go_roundw
      case rel=>exact⟨k+1,by omega,rfl,by rw [Xa hp,Xa Hbi],hB2⟩
      case measure=>simp [intOf];omega
     all_goals
      have hbd3:Hid (V6 tm L xs t = !hasB xs t.id):=Xb (by rw [Xa hbd2];simp);clear hbd2
      obtain⟨id,hid⟩:∃ id,t.id=id:=⟨_,rfl⟩
      rw [hid] at hbd3;simp only [hid] at hID;clear hid
      go_wp2_with (first
       | (go_at_call 152;refine hF2.mono ?_;rintro e w3 ⟨rfl,rfl⟩)
       | (go_at_call 105;refine(hID _).mono ?_;rintro e w4 ⟨rfl,hb4⟩))
      have hB4:Below w.heap.size w w4:=hB2.trans (hb4.mono hB2.size);have bT4:=bT2.below hb4 bT2.lt;clear z0 z1 z2 z3 z4 z5 z6 z7 hF2 hID hB2 hb4 bT2
      go_loopw [11,12] (fun d j wq=>∃ m:Nat,m<=xn/\j=.int .i64 m/\d=.bool (hasB (xs.take m) id)/\wq=w4) (fun _ j _=>xn-(intOf j).toNat)
      case atStart=>exact⟨0,Nat.zero_le _,rfl,rfl,rfl⟩
      case round =>
       obtain⟨m,hm,rfl,rfl,rfl⟩:=hrel
       by_cases hml:m<xn
       ·obtain⟨x,hx⟩:∃ x,xs[m]? = some x:=⟨xs[m]'(by have:=Xa Hxn;omega),by simp [Xa Hxn,hml]⟩
        obtain⟨q,hq,-,hqc⟩:=Xa Hxs m x hx;have hqc':=cell_later hB4 hqc;have hsn:=Xb (Ur (xs.take m) x id);have htk:=Xb (Zu hx);clear hqc hx;subst hq;generalize hasB (xs.take m) id=d at *
        cases d with
        | true =>
         go_wp2
         go_roundw
         case rel=>exact⟨m+1,by omega,rfl,by rw [Xa htk,Xa hsn];rfl,by first | rfl | trivial⟩
         case measure=>simp [intOf];omega
        | false =>
         by_cases he:x=id
         ·subst he
          go_wp2
          go_roundw
          case rel=>exact⟨m+1,by omega,rfl,by rw [Xa htk,Xa hsn];simp,by first | rfl | trivial⟩
          case measure=>simp [intOf];omega
         have hne:(x==id)=false:=by simpa using he
         clear he;go_wp2
         go_roundw
         case rel=>exact⟨m+1,by omega,rfl,by rw [Xa htk,Xa hsn,hne];rfl,by first | rfl | trivial⟩
         case measure=>simp [intOf];omega
       obtain rfl:m=xn:=by omega
       have htk:=Xb (J7 (Nat.le_of_eq (Xa Hxn)));rw [Xa htk];clear htk
       obtain⟨d,hd⟩:∃ d,hasB xs id=d:=⟨_,rfl⟩
       rw [hd] at hbd3 ⊢;clear hd
       cases d with
       | true =>
        have hp:=Xb (Xa hskip (by rw [Xa hbd3];rfl));go_wp2
        go_roundw
        case rel=>exact⟨k+1,by omega,rfl,by rw [Xa hp,Xa Hbi],hB4⟩
        case measure=>simp [intOf];omega
       | false =>
        have hp:Hid (V6 tm L xs t=true):=Xb (by rw [Xa hbd3];rfl);have h4:=h.below hB4;have c0:=h4.v.cell 0 (v:=.slice (some ⟨g,0,none⟩) L.length cap) rfl;rw [Xa Hlen] at c0;obtain⟨z0,z1,z2,z3,z4,z5,z6,z7⟩:=bT4.c8;clear hskip hbd3
        cases bo with
        | none =>
         have hr:=Xb (Xjv (Xa Ht) (Xa hp) (Xa Hbo));obtain rfl:bi = -1:=(Xa Hbi).symm;clear Hbi
         as_aux_lemma =>
          go_wp2
          try simp only [List.append_eq,List.cons_append,List.nil_append]
          go_big_quiet (fail)
          go_wp2
          go_roundw
          case rel=>exact⟨k+1,by omega,rfl,by rw [Xa hr];rfl,below_drewN hB4 _⟩
          case measure=>simp [intOf];omega
        | some b =>
         obtain⟨hbk,hbl⟩:=Xm0 _ _ _ (Xa Hbo)
         obtain⟨u,hu⟩:∃ u,L[b]? = some u:=⟨L[b],by simp [hbl]⟩
         have hr:=Xb (Xi9 (Xa Ht) (Xa hp) (Xa Hbo) hu);obtain rfl:bi=(b:Int):=(Xa Hbi).symm;clear Hbi;rw [Xa Hlen] at hbl;obtain⟨q0,q1,q2,q3,q4,q5,q6,q7⟩:=h4.cells hu
         have hnn:¬ (b:Int)<0:=by omega
         have hb0:decide ((b:Int)<0)=false:=decide_eq_false hnn;have hfb:=Xn3 t u;rw [Xa Htk] at hfb;have hfb:=Xb hfb;clear q2 q3 q5 q6 q7 z2 z3 z5 z6 z7 hu h4 Ht hp;generalize firstB t u=fb at *;generalize t.at_=ta at *;generalize u.at_=ua at *;generalize t.n=tn' at *;generalize u.n=un at *;generalize u.token=utk at *
         by_cases h1:ta<ua
         focus
          have hf:Hid (fb=true):=Xb (by rw [Xa hfb];simp [h1])
          have h1':decide (ta<ua)=true:=by simpa using h1
          clear hfb
         rotate_left
         focus
          by_cases h2:ta=ua
          ·subst h2
           clear h1
           have hi:decide (ta<ta)=false:=by simp
           by_cases hn':(tn':Int)<un
           focus
            have hn2:decide ((tn':Int)<un)=true:=by simpa using hn'
           rotate_left
           focus
            have hn2:decide ((tn':Int)<un)=false:=by simpa using hn'
           rotate_left
           all_goals
            cases utk
            all_goals
             have e:=Xa hfb;simp only [hn2,hi] at e;have hf:=Xb (show fb=_ from e);clear e hfb hi
             as_aux_lemma =>
              go_wp2
              try simp only [List.append_eq,List.cons_append,List.nil_append]
              go_big_quiet (fail)
              go_wp2
              go_roundw
              case rel=>exact⟨k+1,by omega,rfl,by rw [Xa hr,Xa hf];simp [Xi0],below_drewN hB4 _⟩
              case measure=>simp [intOf];omega
          have hf:Hid (fb=false):=Xb (by rw [Xa hfb];simp [h1,h2])
          have h2':(ta==ua)=false:=by simpa using h2
          have h1':decide (ta<ua)=false:=by simpa using h1
          clear hfb h2
         rotate_left
         all_goals
          as_aux_lemma =>
           go_wp2
           try simp only [List.append_eq,List.cons_append,List.nil_append]
           go_big_quiet (fail)
           go_wp2
           go_roundw
           case rel=>exact⟨k+1,by omega,rfl,by rw [Xa hr,Xa hf];rfl,below_drewN hB4 _⟩
           case measure=>simp [intOf];omega
    have hat':tm<t.at_:=by omega
    have hd:decide (tm<t.at_)=true:=by simpa using hat'
    have hp:=Xb (Xa hskip (by rw [Xa hbd,hst];simp [hat]));clear hst hbd hat
    go_wp2_with (go_at_call 150;refine(hS _ hB1).mono ?_;rintro e w1 ⟨rfl,hb1⟩;obtain⟨y0,y1,y2,y3,y4,y5,y6,y7⟩:=(bT.below hb1 bT.lt).c8;have yv:=hv1 w1 (hB1.trans (hb1.mono hB1.size)))
   rotate_left
   all_goals
    go_quiet (fail);go_wp2
    go_roundw
    case rel=>exact⟨k+1,by omega,rfl,by rw [Xa hp,Xa Hbi],below_drewN (hB1.trans (hb1.mono hB1.size)) _⟩
    case measure=>simp [intOf];omega
  obtain rfl:k=len:=by omega
  go_wp2;go_ret;exact⟨by rw [<- Xa Hbi,<- Xa Hbo,Xf3,Xa Hlen];rfl,hB⟩
end Go.Proofs
