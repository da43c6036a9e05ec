import Derived.Test.YtjbekgjdempbiaaGreatDoorJRvC
import Derived.Test.YtjbekgjdempbiaaGreatDoorJOpnA
import Derived.Test.YtjbekgjdempbiaaGreatDoorJAskVT
import Derived.Test.YtjbekgjdempbiaaGreatDoorJRefO
import Derived.Test.YtjbekgjdempbiaaGreatDoorJRvF
import Derived.Test.YtjbekgjdempbiaaGreatDoorJInv
set_option maxRecDepth 100000
set_option maxHeartbeats 8000000
namespace Go.Proofs
open Go.RowKit Go.Sort Go.Lib Go.Shelf
def Ve (pre:List UInt8) (tm:Int) (t:ThingD):Bool:=!t.token&&beginsB t.pth pre&&decide (t.state tm=1)
def Vy (pre:List UInt8) (tm:Int) (t:ThingD):ThingD:=if Ve pre tm t then Y2 tm t else t
def preN (pre:List UInt8) (tm:Int) (L:List ThingD):Nat:=(L.filter (Ve pre tm)).length
theorem Xn4 (pre:List UInt8) (tm:Int) (L:List ThingD) (t:ThingD):preN pre tm (L ++ [t])=preN pre tm L+(if Ve pre tm t then 1 else 0):=by
 unfold preN
 by_cases h:Ve pre tm t=true <;> simp [h]
theorem Xs8 (pre:List UInt8) (tm:Int) (L:List ThingD):preN pre tm L<=L.length:=List.length_filter_le _ _
theorem Tryz.Xi2 (vb:Nat) (pre:List UInt8) (hq:pre.length<=1000000) (h0:pre ≠ []) (hp:pathI pre=false) (w:World) :
  Calls prog 115 #[.pointer (some ⟨vb,0,none⟩),.string ⟨pre.toArray⟩] w fun e w'=>e=.returned (.tuple #[.int .i64 0,.int .i64 2])/\w'=w:=by
 have hP:=fun W=>Xca pre (by omega) W
 rw [hp] at hP
 have hne:(pre == [])=false:=by simpa using h0
 clear h0;go_enter func115,ntmps115
 go_wp2_with (go_at_call 156;refine(hP _).mono ?_;rintro e w1 ⟨rfl,rfl⟩)
 exact bodyPost_ret (v:=.tuple #[.int .i64 0,.int .i64 2]) (by simp [results,results115,go_sem]) rfl ⟨rfl,rfl⟩
theorem Tryz.Xl6 (B:Nat) (vb g cap:Nat) (L:List ThingD) (tm tn ln:Int) (pre:List UInt8) (hq:pre.length<=1000000) (w:World) (h:Xk B w vb g cap L tm tn ln) (hB:B<=w.heap.size) (hne:vb≠g) (hok:pre = []\/pathI pre=true) :
  Calls prog 115 #[.pointer (some ⟨vb,0,none⟩),.string ⟨pre.toArray⟩] w fun e w'=>e=.returned (.tuple #[.int .i64 (preN pre tm L),.int .i64 0])/\Xk B w' vb g cap (L.map (Vy pre tm)) tm tn ln/\Below B w w'/\Spares [vb,g] w w':=by
 have hP:=fun W=>Xca pre (by omega) W
 have hlim:=h.lim
 obtain⟨len,hlen⟩:∃ len,L.length=len:=⟨_,rfl⟩
 rw [hlen] at hlim;have Hlen:=Xb hlen;clear hlen;have H:=Xb h;clear h
 have hok':(pre == [])=true\/((pre == [])=false/\pathI pre=true):=by
  rcases hok with h1 | h1
  ·exact .inl (by simpa using h1)
  by_cases h2:(pre == [])=true
  ·exact .inl h2
  exact .inr ⟨by simpa using h2,h1⟩
 clear hok
 rcases hok' with hz | ⟨hz,hb⟩
 case' inr=>rw [hb] at hP
 case' inl=>generalize pathI pre=b at hP
 all_goals
  go_enter func115,ntmps115
  go_wp2_with (go_at_call 156;refine(hP _).mono ?_;rintro e w1 ⟨rfl,rfl⟩)
  go_loopw [7,8] (fun n i wr=>∃ k:Nat,k<=len/\i=.int .i64 k/\n=.int .i64 (preN pre tm (L.take k))/\Xk B wr vb g cap (Uy (Vy pre tm) k L) tm tn ln/\Below B w1 wr/\Spares [vb,g] w1 wr) (fun _ i _=>len-(intOf i).toNat)
  case atStart=>exact⟨0,Nat.zero_le _,rfl,rfl,by rw [Xg8];exact Xa H,Below.refl _ _,Spares.of_below (Below.refl _ _)⟩
  case round =>
   obtain⟨k,hk,rfl,rfl,hR,hBw,hSp⟩:=hrel
   rename_i wr
   have c0:=hR.v.cell 0 (v:=.slice (some ⟨g,0,none⟩) (Uy (Vy pre tm) k L).length cap) rfl;rw [M4,Xa Hlen] at c0
   by_cases hkl:k<len
   ·obtain⟨t,ht⟩:∃ t,L[k]? = some t:=⟨L[k]'(by have:=Xa Hlen;omega),by simp [Xa Hlen,hkl]⟩
    have htm:=Xjy (Vy pre tm) ht;have hms:=Xb (Xgc (Vy pre tm) ht);have hkeep:=Xb (fun(e:Vy pre tm t=t)=>(show (Uy (Vy pre tm) k L).set k (Vy pre tm t)=Uy (Vy pre tm) k L by rw [e];exact Xb5 htm));have hsn:=Xb (Xn4 pre tm (L.take k) t);have htk:=Xb (Zs ht);have hcl:=Xs8 pre tm (L.take k)
    have hcl':(L.take k).length<=k:=by simp;omega
    have hgo:Hid (Ve pre tm t=(!t.token&&beginsB t.pth pre&&decide (t.state tm=1))):=Xb rfl;have hpf:Hid (Vy pre tm t=if Ve pre tm t then Y2 tm t else t):=Xb rfl
    have hBg:=fun W=>Xth t.pth pre hq W
    have hS:=fun W (hb:Below wr.heap.size wr W)=>Xfo t vb tm W ((hR.below hb).v.cell 1 (v:=.int .u64 tm) rfl)
    have hD:=Xb (fun W (hb:Below wr.heap.size wr W)=>Xpv B vb g cap _ tm tn ln W (hR.below hb) (Nat.le_trans hBw.size hb.size |> Nat.le_trans hB) hne k t htm)
    have hc:=fun W (hb:Below wr.heap.size wr W)=>(hR.below hb).cells htm
    have hv:=fun W (hb:Below wr.heap.size wr W)=>(hR.below hb).v.cell 0 (v:=.slice (some ⟨g,0,none⟩) (Uy (Vy pre tm) k L).length cap) rfl
    simp only [M4,Xa Hlen] at hv;obtain⟨x0,x1,x2,x3,x4,x5,x6,x7⟩:=hc wr (Below.refl _ _);simp only [ThingD.cells] at hS;have HR:=Xb hR;clear hR ht htm;generalize hgg:Ve pre tm t=gg at *;generalize hff:Vy pre tm t=ff at *;generalize hbb:beginsB t.pth pre=bb at *;generalize preN pre tm (L.take k)=c at *;generalize hst:t.state tm=st at *;obtain⟨tk,n,o,p,a,l,dm,tr⟩:=t;clear hgg hff hbb hst;simp only at *
    by_cases hs1:st=1
    ·subst hs1
     cases tk <;> cases bb
     case false.true =>
      have hgt:Hid (gg=true):=Xb (by rw [Xa hgo];rfl)
      go_wp2_with (first
       | (go_at_call 159;refine(hBg _).mono ?_;rintro e w3 ⟨rfl,rfl⟩)
       | (go_at_call 150;refine(hS _ (by first | exact Below.refl _ _ | exact((Below.refl _ _).drew))).mono ?_;rintro e w4 ⟨rfl,hb4⟩;obtain⟨y0,y1,y2,y3,y4,y5,y6,y7⟩:=hc w4 hb4;have v4:=hv w4 hb4)
       | (go_at_call 158;refine(Xa hD _ hb4).mono ?_;rintro e w5 ⟨rfl,hr5,hb5,hs5⟩))
      go_roundw
      case rel=>exact⟨k+1,by omega,rfl,by rw [Xa htk,Xa hsn,Xa hgt];rfl,by rw [Xa hms,Xa hpf,Xa hgt];exact hr5,(hBw.trans (hb4.mono (Nat.le_trans hB hBw.size))).trans hb5,(hSp.trans (Spares.of_below hb4)).trans hs5⟩
      case measure=>simp [intOf];omega
     all_goals
      have hgt:Hid (gg=false):=Xb (by rw [Xa hgo];rfl)
      go_wp2_with (first
       | (go_at_call 159;refine(hBg _).mono ?_;rintro e w3 ⟨rfl,rfl⟩)
       | (go_at_call 150;refine(hS _ (by first | exact Below.refl _ _ | exact((Below.refl _ _).drew))).mono ?_;rintro e w4 ⟨rfl,hb4⟩;obtain⟨y0,y1,y2,y3,y4,y5,y6,y7⟩:=hc w4 hb4;have v4:=hv w4 hb4))
      go_roundw
      case rel=>exact⟨k+1,by omega,rfl,by rw [Xa htk,Xa hsn,Xa hgt];rfl,by rw [Xa hms,Xa hkeep (by rw [Xa hpf,Xa hgt];rfl)];exact(Xa HR).below hb4,hBw.trans (hb4.mono (Nat.le_trans hB hBw.size)),hSp.trans (Spares.of_below hb4)⟩
      case measure=>simp [intOf];omega
    have hs1':(st==1)=false:=by simpa using hs1
    have hgt:Hid (gg=false):=Xb (by rw [Xa hgo];simp [hs1]);clear hs1
    cases tk <;> cases bb
    all_goals
     go_wp2_with (first
      | (go_at_call 159;refine(hBg _).mono ?_;rintro e w3 ⟨rfl,rfl⟩)
      | (go_at_call 150;refine(hS _ (by first | exact Below.refl _ _ | exact((Below.refl _ _).drew))).mono ?_;rintro e w4 ⟨rfl,hb4⟩;obtain⟨y0,y1,y2,y3,y4,y5,y6,y7⟩:=hc w4 hb4;have v4:=hv w4 hb4))
     go_roundw
     case rel=>exact⟨k+1,by omega,rfl,by rw [Xa htk,Xa hsn,Xa hgt];rfl,by rw [Xa hms,Xa hkeep (by rw [Xa hpf,Xa hgt];rfl)];exact(Xa HR).below hb4,hBw.trans (hb4.mono (Nat.le_trans hB hBw.size)),hSp.trans (Spares.of_below hb4)⟩
     case measure=>simp [intOf];omega
   obtain rfl:k=len:=by omega
   have htk:=Xb (Ua (Nat.le_of_eq (Xa Hlen)));have hmx:=Xb (Xjm (Vy pre tm) L (Nat.le_of_eq (Xa Hlen)));generalize hcc:preN pre tm (L.take k)=c at *;have HR:=Xb hR;clear hR;go_wp2;exact bodyPost_ret (v:=.tuple #[.int .i64 (c:Int),.int .i64 0]) (by simp [results,results115,go_sem]) rfl ⟨by rw [<- hcc,Xa htk],by rw [<- Xa hmx];exact Xa HR,hBw,hSp⟩
end Go.Proofs
namespace Go.Proofs
open Go.RowKit Go.Sort Go.Lib Go.Shelf Go.Maps Go.WideMaps
theorem Xjc {id:List UInt8} {L:List ThingD} {i:Nat} {t:ThingD} (h:L.findIdx? (fun t=>t.id==id)=some i) (ht:L[i]? = some t):t.id=id:=by
 obtain⟨hl,hp,-⟩:=List.findIdx?_eq_some_iff_getElem.1 h;obtain⟨h1,h2⟩:=List.getElem?_eq_some_iff.1 ht;rw [h2] at hp
 simpa using hp
theorem Xm8 {id:List UInt8} {L:List ThingD} (h:L.findIdx? (fun t=>t.id==id)=none):∀ x∈L,x.id≠id:=fun x hx e=>by
 have:=List.findIdx?_eq_none_iff.1 h x hx;simp [e] at this
theorem Xdi {t:ThingD} {id:List UInt8} (h:t.id=id) (hn:t.n<Xo):parseN id=(kd t.token,(t.n:Int)):=by
 rw [<- h,ThingD.U5];exact Xag t.token hn
section
variable {tks:List Xd} {lks:List Xc} {L:List ThingD}
theorem Xrd (h:Rel tks lks L) {id:List UInt8} (hno:∀ x∈L,x.id=id->x.token=true):∀ l∈lks,parseN id≠(2,(l.n:Int)):=fun l hl e=>by
 have e2:id=nmStr (kd false) l.n:=M5 e;have:=hno (thL l) (h.Xcl hl) (by rw [ThingD.U5,e2];rfl);cases this
theorem Xqz (h:Rel tks lks L) {id:List UInt8} (hno:∀ x∈L,x.id=id->x.token=false):∀ t∈tks,parseN id≠(1,(t.n:Int)):=fun l hl e=>by
 have e2:id=nmStr (kd true) l.n:=M5 e;have:=hno (thT l) (h.Vh hl) (by rw [ThingD.U5,e2];rfl);cases this
theorem Xm6 (h:Rel tks lks L) (ok:Xx tks lks) {x y:ThingD} (hx:x∈L) (hy:y∈L) (e:x.id=y.id):x=y:=by
 rw [ThingD.U5,ThingD.U5] at e;obtain⟨e1,e2⟩:=Xc1 (h.num ok hx) (h.num ok hy) e;exact h.Xkr ok hx hy e1 e2
theorem Rel.Xus {N:Nat} {s:VSt} (h:Rel s.tks s.lks L) (ha:Z7 N s):Xa7 L:=fun t ht htk=>by
 obtain⟨z,hz,rfl⟩:=h.Zj ht htk;unfold thT
 rcases ha.old z hz with⟨-,h2,-⟩ | ⟨h1,h2⟩
 ·simp [h2];omega
 simp [h1];omega
end
theorem Xte {n v:Int}:∀ {L:List ThingD},(∀ t∈L,t.token=true->(t.n:Int)=n->t.of_=v)->(∃ t∈L,t.token=true/\(t.n:Int)=n)->upI n L=v:=by
 intro L;unfold upI
 suffices ∀ u,(u=v\/∃ t∈L,t.token=true/\(t.n:Int)=n)->(∀ t∈L,t.token=true->(t.n:Int)=n->t.of_=v)->L.foldl (fun u t=>if t.token&&(t.n:Int)==n then t.of_ else u) u=v from fun h1 h2=>this _ (.inr h2) h1
 induction L with
 | nil =>
  rintro u (h | ⟨t,ht,-⟩) _
  ·exact h
  cases ht
 | cons a L ih =>
  intro u hu h;rw [List.foldl_cons];refine ih _ ?_ (fun x hx=>h x (List.mem_cons_of_mem _ hx))
  by_cases hc:(a.token&&(a.n:Int)==n)=true
  ·rw [if_pos hc]
   simp only [Bool.and_eq_true,beq_iff_eq] at hc;exact .inl (h a (by simp) hc.1 hc.2)
  rw [if_neg hc]
  rcases hu with hu | ⟨t,ht,h1,h2⟩
  ·exact .inl hu
  rcases List.mem_cons.1 ht with rfl | ht
  ·exact absurd (by simp [h1,h2]) hc
  exact .inr ⟨t,ht,h1,h2⟩
theorem Xun {N:Nat} {s:VSt} {L:List ThingD} (h:Rel s.tks s.lks L) (ok:Xx s.tks s.lks) (ha:Z7 N s) (top:Nat):∀ n:Nat,n<Xo->∃ m,Vk s.tks (1,(top:Int)) (Yp L top n) m (1,(n:Int)):=by
 intro n
 induction n using Nat.strongRecOn with
 | ind n ih =>
  intro hn
  by_cases ht:n=top
  ·subst ht
   exact⟨0,.here (Xem L (by omega)) rfl⟩
  have hne:((1:Int),(n:Int))≠(1,(top:Int)):=fun e=>ht (by have:=(Prod.mk.inj e).2;omega)
  rw [Xcx (h.Xus ha) (by omega) (by omega)]
  by_cases hex:∃ t∈s.tks,t.n=n
  ·obtain⟨t,htm,rfl⟩:=hex
   have hu:upI (t.n:Int) L=(thT t).of_:=Xte (fun x hx hk hxn=>by
    have:x=thT t:=h.Xkr ok hx (h.Vh htm) hk (by have:(thT t).n=t.n:=rfl;omega)
    rw [this]) ⟨thT t,h.Vh htm,rfl,rfl⟩
   rw [hu];unfold thT
   rcases ha.old t htm with⟨h1,h2,h3⟩ | ⟨h1,h2⟩
   ·have hf:Yp L (top:Int) (-1)=false:=Mc L _ (by omega)
    simp only [h2,show ((0:Int)=1)=False from by simp,if_false,hf];exact⟨1,.up t htm hne rfl (.off rfl (by rw [h2];intro e;have:=(Prod.mk.inj e).1;omega) (by rw [h2,h3];exact⟨by decide,by decide⟩) (fun z _ e=>by rw [h2] at e;have:=(Prod.mk.inj e).1;omega))⟩
   obtain⟨m,hm⟩:=ih t.au h2 (ok.limT t htm).2;simp only [h1,if_true];exact⟨m+1,.up t htm hne rfl (by rw [h1];exact hm)⟩
  have hu:upI (n:Int) L = -1:=Xhx (p:=fun u=>u = -1) _ rfl L (fun x hx hk hxn=>by
   obtain⟨z,hz,rfl⟩:=h.Zj hx hk
   exact absurd ⟨z,hz,by have:(thT z).n=z.n:=rfl;omega⟩ hex)
  rw [hu,Mc L _ (by omega)];exact⟨0,.off rfl hne (Xdx (.inl rfl) hn) (fun z hz e=>hex ⟨z,hz,by have:=(Prod.mk.inj e).2;omega⟩)⟩
theorem Xg6 {tm:Int} {pre:List UInt8} {l:Xc}:Ve pre tm (thL l)=goL tm (fun l=>beginsB l.pth pre) l:=by
 unfold Ve goL
 have:decide ((thL l).state tm=1)=(!l.pd&&decide (tm<l.at_)):=by
  rw [Bool.eq_iff_iff,decide_eq_true_iff];exact Vs
 rw [this];simp [thL,Bool.and_comm]
theorem Xfh {tm:Int} {l:Xc} (h:(!l.pd&&decide (tm<l.at_))=true):Y2 tm (thL l)=thL (Z8 tm l):=by
 unfold Y2;rw [if_pos (Vs.2 h)];rfl
theorem Xde {tm:Int} {l:Xc} (h:(!l.pd&&decide (tm<l.at_))=false):Y2 tm (thL l)=thL l:=by
 unfold Y2;rw [if_neg (fun e=>by rw [Vs.1 e] at h;cases h)]
theorem Xb7 (tm:Int) (t:ThingD):(Y2 tm t).token=t.token:=by unfold Y2;split <;> rfl
theorem Rel.pre {s:VSt} {L:List ThingD} (h:Rel s.tks s.lks L) (pre:List UInt8) (tm:Int):Rel s.tks (s.lks.map fun z=>if goL tm (fun l=>beginsB l.pth pre) z then Z8 tm z else z) (L.map (Vy pre tm)):=by
 have:=h.mapped (Vy pre tm) id (fun z=>if goL tm (fun l=>beginsB l.pth pre) z then Z8 tm z else z) (fun z=>by unfold Vy;split;exact Xb7 _ _;rfl) (fun t _=>by simp [Vy,Ve,thT]) (fun l _=>?_) (fun _ _=>rfl) (fun l _=>by split <;> rfl)
 ·simpa using this
 unfold Vy;rw [Xg6]
 by_cases hg:goL tm (fun l=>beginsB l.pth pre) l=true
 ·rw [if_pos hg,if_pos hg]
  exact Xfh (by unfold goL at hg;simp only [Bool.and_eq_true] at hg ⊢;exact hg.1)
 rw [if_neg hg,if_neg hg]
theorem Rel.preN {s:VSt} {L:List ThingD} (h:Rel s.tks s.lks L) (pre:List UInt8) (tm:Int):preN pre tm L=(X3 tm (fun l=>beginsB l.pth pre) s.lks).length:=by
 have e1:L.filter (Ve pre tm)=(L.filter (fun t=>t.token==false)).filter (Ve pre tm):=by
  rw [List.filter_filter];refine List.filter_congr (fun x _=>?_);unfold Ve
  cases x.token <;> simp
 unfold Proofs.preN;rw [e1,h.leas,List.filter_map,List.length_map,show (Ve pre tm ∘ thL)=goL tm (fun l=>beginsB l.pth pre) from by funext l;exact Xg6];unfold X3;rw [List.length_map];rfl
theorem Rel.tree {s:VSt} {L:List ThingD} (h:Rel s.tks s.lks L) (top tm:Int):Rel (s.tks.map fun z=>if !z.pd&&Yp L top z.n then U8 tm z else z) (s.lks.map fun z=>if goL tm (fun l=>Yp L top l.au) z then Z8 tm z else z) (L.map (tokF L top tm)):=by
 refine h.mapped (tokF L top tm) _ _ (fun z=>by unfold tokF;split;exact Xb7 _ _;rfl) (fun t _=>?_) (fun l _=>?_) (fun l _=>by split <;> rfl) (fun l _=>by split <;> rfl)
 ·unfold tokF
  rw [show (thT t).Xdz=(t.n:Int) from rfl];cases hb:Yp L top (t.n:Int)
  ·simp
  cases hp:t.pd
  ·simp [Y2,ThingD.state,thT,U8,hp]
  simp [Y2,ThingD.state,thT,hp]
 unfold tokF;rw [show (thL l).Xdz=(l.au:Int) from rfl];cases hb:Yp L top (l.au:Int)
 ·simp [goL,hb]
 by_cases hlv:(!l.pd&&decide (tm<l.at_))=true
 ·have hg:goL tm (fun l=>Yp L top l.au) l=true:=by unfold goL;rw [hlv];exact hb
  rw [if_pos rfl,if_pos hg];exact Xfh hlv
 have hlv':(!l.pd&&decide (tm<l.at_))=false:=by simpa using hlv
 have hg:goL tm (fun l=>Yp L top l.au) l=false:=by unfold goL;rw [hlv'];rfl
 rw [if_pos rfl,if_neg (by simp [hg])];exact Xde hlv'
theorem Xp4 {α:Type} {l:List α} {i:Nat} {x:α} (h:l[i]? = some x):l.set i x=l:=by
 apply List.ext_getElem?;intro j
 by_cases e:i=j
 ·subst e
  rw [List.getElem?_set_self (List.getElem?_eq_some_iff.1 h).1,h]
 rw [List.getElem?_set_ne e]
theorem Tryz.Xq0 {w0:World} {B N wb hb:Nat} (w:World) (hI:Inv w0 B N wb hb w) (hN:N<20000) (ss tt:List UInt8) (hss:ss.length<=1000000) (aa bb ff ke pa:Int) :
  Calls prog 62 #[.pointer (some ⟨wb,0,none⟩),.agg (Xn.cells ⟨5,ss,tt,aa,bb,ff,-1,-1,ke,pa⟩)] w fun e w'=>e=.returned (.bool true)/\Inv w0 B (N+1) wb hb w':=by
 obtain⟨rb,σ,ra,g,cap,L,hS,hR,hl,hW,hn,hra⟩:=hI.ex;have hok:=hS.wh.v.va.ok
 have hpos:0<L.length:=by rw [hl.len];have:=hn.pos;omega
 have b9:=hS.b9;have hcs:=hn.small hN;have hnm:=hn.more (Nat.le_succ N)
 have same:∀(k:Int) (hk:k=0\/Mm k),(∀ W,Whole W σ.k σ.vx σ.tm σ.s σ.c (-1) (-1)->Calls prog 51 #[.pointer (some ⟨σ.k.vb,0,none⟩),.string ⟨ss.toArray⟩] W fun e w'=>e=.returned (Jf k)/\Below W.heap.size W w')->(∀ B' W nb g' cap',B'<=W.heap.size->B'<=nb->Xk B' W nb g' cap' L σ.tm ((σ.s.tn+1:Nat):Int) ((σ.s.ln+1:Nat):Int)->Calls prog 114 #[.pointer (some ⟨nb,0,none⟩),.string ⟨ss.toArray⟩] W fun e w'=>e=.returned (.int .i64 k)/\Xk B' w' nb g' cap' L σ.tm ((σ.s.tn+1:Nat):Int) ((σ.s.ln+1:Nat):Int)/\Spares [nb,g'] W w') ->
   Calls prog 62 #[.pointer (some ⟨wb,0,none⟩),.agg (Xn.cells ⟨5,ss,tt,aa,bb,ff,-1,-1,ke,pa⟩)] w fun e w'=>e=.returned (.bool true)/\Inv w0 B (N+1) wb hb w':=fun k hk hc hd=>by
  have hA:=Xnp B wb hb ra g cap σ.tm L _ _ w _ _ (Y9 B hb rb σ) (Jz B hb rb (fun σ'=>σ'=σ)) hS hR hpos hW hI.hB b9 hI.bw hra ss tt aa bb ff (-1) (-1) ke pa k (fun a b c=>a=L/\b=((σ.s.tn+1:Nat):Int)/\c=((σ.s.ln+1:Nat):Int))
   5 (.inl ⟨rfl,(fun W _ hS'=>((six B hb rb σ W hS' ke pa (Jf k) k (Vg k hk) _).2.2.2.1 ss (fun W' _ hV=>(hc W' hV).mono (fun _ _ h=>Xez hV h))).mono (fun _ _ h=>Za hS' h)),(fun B' W nb g' cap' h1 h2 hR'=>(hd B' W nb g' cap' h1 h2 hR').mono (by rintro e w' ⟨rfl,hR2,hs2⟩;exact⟨g',cap',L,_,_,⟨rfl,rfl,rfl⟩,rfl,hR2,hs2⟩))⟩)
  refine hA.mono ?_;rintro e w' ⟨rfl,hA'⟩;exact⟨rfl,hA'.inv hI (by rintro _ _ _ _ rfl ⟨rfl,rfl,rfl⟩;exact⟨rfl,hl,rfl,rfl,hnm⟩)⟩
 have miss:(∀ l∈σ.s.lks,parseN ss≠(2,(l.n:Int)))->∀ W,Whole W σ.k σ.vx σ.tm σ.s σ.c (-1) (-1)->Calls prog 51 #[.pointer (some ⟨σ.k.vb,0,none⟩),.string ⟨ss.toArray⟩] W fun e w'=>e=.returned (Jf 5)/\Below W.heap.size W w':=fun hno W hV=>Xh2 σ.k σ.vx σ.tm σ.s σ.c (-1) (-1) W hV ss hss _ rfl 0 0 0 0 false [] 0 (fun W' hb'=>(hV.v.va.below hb').Xkp (Xam ss) hno)
 rcases M8 ss L with⟨i,t,hfi,ht,hf⟩ | ⟨hfi,hf⟩
 ·have hid:=Xjc hfi ht
  have hm:=List.mem_of_getElem? ht
  cases htk:t.token with
  | true =>
   exact same 5 (.inr (by simp [Mm])) (miss (Xrd hl (fun x hx e=>by rw [Xm6 hl hok hx hm (e.trans hid.symm)];exact htk)))
    (fun B' W nb g' cap' _ _ hR'=>(Xb8 B' nb g' cap' L σ.tm _ _ ss W hR' (.inr ⟨i,t,ht,hf,htk⟩)).mono (by rintro e w' ⟨rfl,hb'⟩;exact⟨rfl,hR'.below hb',Spares.of_below hb'⟩))
  | false =>
   obtain⟨k,l,hk,rfl,hrel⟩:=hl.Xsd ht htk;have hlm:=List.mem_of_getElem? hk;have hp:parseN ss=(2,(l.n:Int)):=Xdi hid (hl.num hok hm)
   by_cases hlv:(!l.pd&&decide (σ.tm<l.at_))=true
   ·have hkl:(keepLine σ.tm [.lea (Z8 σ.tm l)]).length<=70000:=by
     have hokt:=hS.wh.v.okL l hlm;exact Js hS.wh.v.t0 hS.wh.v.t1 (s:=σ.s) ⟨⟨⟨hS.wh.v.t0,hS.wh.v.t1,hokt.r0,hokt.r1,hokt.l0,hokt.l1,hokt.p1,hokt.pa⟩,.inl ⟨l,hlm,rfl⟩,by have:=hn.nl;omega,(hok.limL l hlm).1,(hok.limL l hlm).2⟩,trivial⟩ (by simp)
    have hA:=Xnp B wb hb ra g cap σ.tm L _ _ w _ _ (Y9 B hb rb σ) (Jz B hb rb (fun σ'=>σ'=⟨σ.k,σ.vx,σ.tm,⟨σ.s.tn,σ.s.ln,σ.s.tks,σ.s.lks.set k (Z8 σ.tm l)⟩,σ.c++keepLine σ.tm [.lea (Z8 σ.tm l)]⟩)) hS hR hpos hW hI.hB b9 hI.bw hra ss tt aa bb ff (-1) (-1) ke pa 0 (fun a b c=>a=L.set i (thL (Z8 σ.tm l))/\b=((σ.s.tn+1:Nat):Int)/\c=((σ.s.ln+1:Nat):Int))
     5 (.inl ⟨rfl,(fun W _ hS'=>((six B hb rb σ W hS' ke pa (Jf 0) 0 (Vg 0 (.inl rfl)) _).2.2.2.1 ss (fun W' _ hV=>by
      obtain⟨n,ak,au,at_,tr,pd,pth,la⟩:=l
      exact(Xld σ.k σ.vx σ.tm σ.s σ.c (-1) (-1) W' hV (by decide) (by decide) (by decide) (by decide) hcs ss hss ak n au at_ tr pd pth la k hk hp hlv (by have:=hn.nl;omega) _ rfl _ rfl).mono (by rintro e w' ⟨rfl,hV',hs'⟩;exact⟨rfl,⟨_,_,_,⟨rfl,rfl,rfl⟩,hV'⟩,hs'⟩))).mono (fun _ _ h=>Za hS' h)),(fun B' W nb g' cap' hBW _ hR'=>(Xdc B' nb g' cap' L σ.tm _ _ ss W hR' hBW hR'.ne i _ ht hf htk).mono (by
      rintro e w' ⟨rfl,hR2,-,hs2⟩;rw [Xfh hlv] at hR2
      exact⟨g',cap',_,_,_,⟨rfl,rfl,rfl⟩,rfl,hR2,hs2⟩))⟩)
    refine hA.mono ?_;rintro e w' ⟨rfl,hA'⟩;refine⟨rfl,hA'.inv hI ?_⟩;rintro _ _ _ _ rfl ⟨rfl,rfl,rfl⟩;refine⟨rfl,?_,rfl,rfl,⟨hn.nt,?_,hn.pos,?_,?_,?_,?_,hn.hd.set ht rfl rfl⟩⟩
    ·have huq:∀ j u,L[j]? = some u->u.token=(thL l).token->u.n=(thL l).n->j=i:=fun j u hj e1 e2=>hl.idx hok ht hj e1 e2
     rw [Xng hok.incL hk,Uz ht huq]
     have:=hl.mapped (fun z=>if Z2 (thL l) z then thL (Z8 σ.tm l) else z) id (fun z=>if z.n=l.n then Z8 σ.tm l else z) (fun z=>by
       split
       ·rename_i e;exact(Ys.1 e).1.symm
       rfl) (fun z hz=>by simp [Z2,thT,thL]) (fun z hz=>?_) (fun z hz=>rfl) (fun z hz=>?_)
     ·simpa using this
     ·by_cases e:z.n=l.n
      ·have:Z2 (thL l) (thL z)=true:=Ys.2 ⟨rfl,e⟩
       rw [if_pos this,if_pos e]
      have:Z2 (thL l) (thL z)=false:=by rw [Bool.eq_false_iff,Ne,Ys];exact fun h=>e h.2
      rw [if_neg (by simp [this]),if_neg e]
     split
     ·rename_i e
      have:z=l:=Z5 (f:=Xc.n) hok.incL hz hlm e;rw [this];rfl
     rfl
    ·simpa using hn.nl
    ·have:=hn.tn;show σ.s.tn<=N+1;omega
    ·have:=hn.ln;show σ.s.ln<=N+1;omega
    ·have:=hn.c;simp only [List.length_append];omega
    exact(hn.al.more (Nat.le_succ N)).setL hk rfl rfl rfl rfl
   have hlv':(!l.pd&&decide (σ.tm<l.at_))=false:=by simpa using hlv
   exact same 0 (.inl rfl) (fun W hV=>Xka σ.k σ.vx σ.tm σ.s σ.c (-1) (-1) W hV ss hss _ hp l.ak l.au l.at_ l.tr l.pd l.pth l.last hlv' (fun W' hb'=>(hV.v.va.below hb').Xsg hlm))
    (fun B' W nb g' cap' hBW _ hR'=>(Xdc B' nb g' cap' L σ.tm _ _ ss W hR' hBW hR'.ne i _ ht hf htk).mono (by
     rintro e w' ⟨rfl,hR2,-,hs2⟩;rw [Xde hlv',Xp4 ht] at hR2
     exact⟨rfl,hR2,hs2⟩))
 exact same 5 (.inr (by simp [Mm])) (miss (Xrd hl (fun x hx e=>absurd e (Xm8 hfi x hx))))
  (fun B' W nb g' cap' _ _ hR'=>(Xb8 B' nb g' cap' L σ.tm _ _ ss W hR' (.inl hf)).mono (by rintro e w' ⟨rfl,hb'⟩;exact⟨rfl,hR'.below hb',Spares.of_below hb'⟩))
theorem Tryz.Xri {w0:World} {B N wb hb:Nat} (w:World) (hI:Inv w0 B N wb hb w) (hN:N<20000) (ss tt:List UInt8) (htt:tt.length<=1000000) (aa bb ff ke pa:Int) :
  Calls prog 62 #[.pointer (some ⟨wb,0,none⟩),.agg (Xn.cells ⟨6,ss,tt,aa,bb,ff,-1,-1,ke,pa⟩)] w fun e w'=>e=.returned (.bool true)/\Inv w0 B (N+1) wb hb w':=by
 obtain⟨rb,σ,ra,g,cap,L,hS,hR,hl,hW,hn,hra⟩:=hI.ex;have hok:=hS.wh.v.va.ok
 have hpos:0<L.length:=by rw [hl.len];have:=hn.pos;omega
 have b9:=hS.b9;have hcs:=hn.small hN;have hnm:=hn.more (Nat.le_succ N)
 by_cases hgo:tt = []\/pathI tt=true
 ·have hA:=Xnb B wb hb ra g cap σ.tm L _ _ w _ _ (Y9 B hb rb σ) (Jz B hb rb (fun σ'=>σ'.tm=σ.tm/\σ'.s=⟨σ.s.tn,σ.s.ln,σ.s.tks,σ.s.lks.map fun z=>if goL σ.tm (fun l=>beginsB l.pth tt) z then Z8 σ.tm z else z⟩/\σ'.c.length<=σ.c.length+70000)) hS hR hpos hW hI.hB b9 hI.bw hra ss tt aa bb ff (-1) (-1) ke pa 0 ((X3 σ.tm (fun l=>beginsB l.pth tt) σ.s.lks).length:Nat) (fun h=>absurd rfl h) (fun a b c=>a=L.map (Vy tt σ.tm)/\b=((σ.s.tn+1:Nat):Int)/\c=((σ.s.ln+1:Nat):Int))
   6 (.inr ⟨rfl,(fun W _ hS'=>((six B hb rb σ W hS' ke pa (Jf 0) 0 (Vg 0 (.inl rfl)) (fun σ'=>σ'.tm=σ.tm/\σ'.s=⟨σ.s.tn,σ.s.ln,σ.s.tks,σ.s.lks.map fun z=>if goL σ.tm (fun l=>beginsB l.pth tt) z then Z8 σ.tm z else z⟩/\σ'.c.length<=σ.c.length+70000)).2.2.2.2.1 tt (.int .i64 ((X3 σ.tm (fun l=>beginsB l.pth tt) σ.s.lks).length:Nat)) (fun W' _ hV=>(Xku σ.k σ.vx σ.tm σ.s σ.c (-1) (-1) W' hV (by decide) (by decide) (by decide) (by decide) hcs tt htt hgo (by have:=hn.nt;omega) (by have:=hn.nl;omega)).mono (by rintro e w' ⟨rfl,⟨c',l',f',hc',hV'⟩,hs'⟩;exact⟨rfl,⟨⟨σ.k,σ.vx,σ.tm,_,c'⟩,l',f',⟨⟨rfl,rfl,hc'⟩,rfl,rfl⟩,hV'⟩,hs'⟩))).mono (fun _ _ h=>Za hS' h)),(fun B' W nb g' cap' hBW _ hR'=>(Xl6 B' nb g' cap' L σ.tm _ _ tt htt W hR' hBW hR'.ne hgo).mono (by
    rintro e w' ⟨rfl,hR2,-,hs2⟩;rw [hl.preN]
    exact⟨g',cap',_,_,_,⟨rfl,rfl,rfl⟩,rfl,hR2,hs2⟩))⟩)
  refine hA.mono ?_;rintro e w' ⟨rfl,hA'⟩;refine⟨rfl,hA'.inv hI ?_⟩;rintro σ' _ _ _ ⟨h1,h2,h3⟩ ⟨rfl,rfl,rfl⟩;obtain⟨k',vx',tm',s',c'⟩:=σ';simp only at h1 h2 h3;subst h1 h2;refine⟨rfl,hl.pre tt σ.tm,rfl,rfl,⟨hn.nt,?_,hn.pos,?_,?_,?_,?_,hn.hd.map _ (fun x=>by unfold Vy Y2;split <;> (try split) <;> exact⟨rfl,rfl⟩)⟩⟩
  ·simpa using hn.nl
  ·have:=hn.tn;show σ.s.tn<=N+1;omega
  ·have:=hn.ln;show σ.s.ln<=N+1;omega
  ·have:=hn.c;show c'.length<=(N+1)*150000;omega
  have:=(hn.al.more (Nat.le_succ N)).mapped (tn':=σ.s.tn) (ln':=σ.s.ln) id (fun z=>if goL σ.tm (fun l=>beginsB l.pth tt) z then Z8 σ.tm z else z) (fun t ht=>⟨rfl,rfl,rfl,rfl,fun _=>rfl⟩) (fun t ht=>by split <;> exact⟨rfl,rfl,rfl,rfl⟩)
  simpa using this
 have h0:tt ≠ []:=fun e=>hgo (.inl e)
 have hbad:pathI tt=false:=by simpa using fun e=>hgo (.inr e)
 have hA:=Xnb B wb hb ra g cap σ.tm L _ _ w _ _ (Y9 B hb rb σ) (Jz B hb rb (fun σ'=>σ'=σ)) hS hR hpos hW hI.hB b9 hI.bw hra ss tt aa bb ff (-1) (-1) ke pa 2 0 (fun _=>rfl) (fun a b c=>a=L/\b=((σ.s.tn+1:Nat):Int)/\c=((σ.s.ln+1:Nat):Int))
  6 (.inr ⟨rfl,(fun W _ hS'=>((six B hb rb σ W hS' ke pa (Jf 2) 2 (Vg 2 (.inr (by simp [Mm]))) _).2.2.2.2.1 tt (.int .i64 0) (fun W' _ hV=>(Xj2 σ.k.vb W' tt htt h0 hbad).mono (fun _ _ h=>Xez hV h))).mono (fun _ _ h=>Za hS' h)),(fun B' W nb g' cap' _ _ hR'=>(Xi2 nb tt htt h0 hbad W).mono (by rintro e w' ⟨rfl,rfl⟩;exact⟨g',cap',L,_,_,⟨rfl,rfl,rfl⟩,rfl,hR',Spares.of_below (Below.refl _ _)⟩))⟩)
 refine hA.mono ?_;rintro e w' ⟨rfl,hA'⟩;exact⟨rfl,hA'.inv hI (by rintro _ _ _ _ rfl ⟨rfl,rfl,rfl⟩;exact⟨rfl,hl,rfl,rfl,hnm⟩)⟩
theorem Tryz.Xvl {w0:World} {B N wb hb:Nat} (w:World) (hI:Inv w0 B N wb hb w) (hN:N<20000) (ss tt:List UInt8) (hss:ss.length<=1000000) (aa bb ff ke pa:Int) :
  Calls prog 62 #[.pointer (some ⟨wb,0,none⟩),.agg (Xn.cells ⟨7,ss,tt,aa,bb,ff,-1,-1,ke,pa⟩)] w fun e w'=>e=.returned (.bool true)/\Inv w0 B (N+1) wb hb w':=by
 obtain⟨rb,σ,ra,g,cap,L,hS,hR,hl,hW,hn,hra⟩:=hI.ex;have hok:=hS.wh.v.va.ok
 have hpos:0<L.length:=by rw [hl.len];have:=hn.pos;omega
 have b9:=hS.b9;have hcs:=hn.small hN;have hnm:=hn.more (Nat.le_succ N)
 have same:(∀ W,Whole W σ.k σ.vx σ.tm σ.s σ.c (-1) (-1)->Calls prog 50 #[.pointer (some ⟨σ.k.vb,0,none⟩),.string ⟨ss.toArray⟩] W fun e w'=>e=.returned (Jf 1)/\Below W.heap.size W w')->(Ud ss L = -1\/∃(i:Nat) (t:ThingD),L[i]? = some t/\Ud ss L=i/\(t.token=false\/t.n=0)) ->
   Calls prog 62 #[.pointer (some ⟨wb,0,none⟩),.agg (Xn.cells ⟨7,ss,tt,aa,bb,ff,-1,-1,ke,pa⟩)] w fun e w'=>e=.returned (.bool true)/\Inv w0 B (N+1) wb hb w':=fun hc hd=>by
  have hA:=Xnp B wb hb ra g cap σ.tm L _ _ w _ _ (Y9 B hb rb σ) (Jz B hb rb (fun σ'=>σ'=σ)) hS hR hpos hW hI.hB b9 hI.bw hra ss tt aa bb ff (-1) (-1) ke pa 1 (fun a b c=>a=L/\b=((σ.s.tn+1:Nat):Int)/\c=((σ.s.ln+1:Nat):Int))
   7 (.inr ⟨rfl,(fun W _ hS'=>((six B hb rb σ W hS' ke pa (Jf 1) 1 (Vg 1 (.inr (by simp [Mm]))) _).2.2.2.2.2 ss (fun W' _ hV=>(hc W' hV).mono (fun _ _ h=>Xez hV h))).mono (fun _ _ h=>Za hS' h)),(fun B' W nb g' cap' _ _ hR'=>(Xin B' nb g' cap' L σ.tm _ _ ss W hR' hd).mono (by rintro e w' ⟨rfl,hb'⟩;exact⟨g',cap',L,_,_,⟨rfl,rfl,rfl⟩,rfl,hR'.below hb',Spares.of_below hb'⟩))⟩)
  refine hA.mono ?_;rintro e w' ⟨rfl,hA'⟩;exact⟨rfl,hA'.inv hI (by rintro _ _ _ _ rfl ⟨rfl,rfl,rfl⟩;exact⟨rfl,hl,rfl,rfl,hnm⟩)⟩
 have no:(∀ t∈σ.s.tks,parseN ss≠(1,(t.n:Int)))->∀ W,Whole W σ.k σ.vx σ.tm σ.s σ.c (-1) (-1)->Calls prog 50 #[.pointer (some ⟨σ.k.vb,0,none⟩),.string ⟨ss.toArray⟩] W fun e w'=>e=.returned (Jf 1)/\Below W.heap.size W w':=fun hno W hV=>callsIn_wide.1 (Xlt σ.k.vb σ.k.mt σ.k.ml σ.vx σ.tm σ.s.tn σ.s.ln σ.s.tks σ.s.lks W hV.v.va ss hss _ rfl (Xam ss) hno)
 rcases M8 ss L with⟨i,t,hfi,ht,hf⟩ | ⟨hfi,hf⟩
 ·have hid:=Xjc hfi ht
  have hm:=List.mem_of_getElem? ht
  cases htk:t.token with
  | false=>exact same (no (Xqz hl (fun x hx e=>by rw [Xm6 hl hok hx hm (e.trans hid.symm)];exact htk))) (.inr ⟨i,t,ht,hf,.inl htk⟩)
  | true =>
   obtain⟨z,hz,rfl⟩:=hl.Zj hm htk;have hp:parseN ss=(1,(z.n:Int)):=Xdi hid (hl.num hok hm)
   by_cases h0:z.n=0
   ·exact same (fun W hV=>callsIn_wide.1 (Xik σ.k.vb σ.k.mt σ.k.ml σ.vx σ.tm σ.s.tn σ.s.ln σ.s.tks σ.s.lks W hV.v.va ss hss z hz h0 hp)) (.inr ⟨i,_,ht,hf,.inr h0⟩)
   have hold:=hl.Xus hn.al
   have hA:=Xnp B wb hb ra g cap σ.tm L _ _ w _ _ (Y9 B hb rb σ) (Jz B hb rb (fun σ'=>σ'.tm=σ.tm/\σ'.s=⟨σ.s.tn,σ.s.ln,σ.s.tks.map (fun y=>if !y.pd&&Yp L (z.n:Int) y.n then U8 σ.tm y else y),σ.s.lks.map (fun y=>if goL σ.tm (fun l=>Yp L (z.n:Int) l.au) y then Z8 σ.tm y else y)⟩/\σ'.c.length<=σ.c.length+70000)) hS hR hpos hW hI.hB b9 hI.bw hra ss tt aa bb ff (-1) (-1) ke pa 0 (fun a b c=>a=L.map (tokF L (z.n:Int) σ.tm)/\b=((σ.s.tn+1:Nat):Int)/\c=((σ.s.ln+1:Nat):Int))
    7 (.inr ⟨rfl,(fun W _ hS'=>((six B hb rb σ W hS' ke pa (Jf 0) 0 (Vg 0 (.inl rfl)) (fun σ'=>σ'.tm=σ.tm/\σ'.s=⟨σ.s.tn,σ.s.ln,σ.s.tks.map (fun y=>if !y.pd&&Yp L (z.n:Int) y.n then U8 σ.tm y else y),σ.s.lks.map (fun y=>if goL σ.tm (fun l=>Yp L (z.n:Int) l.au) y then Z8 σ.tm y else y)⟩/\σ'.c.length<=σ.c.length+70000)).2.2.2.2.2 ss (fun W' _ hV=>(callsIn_wide.1 (Xmb σ.k σ.vx σ.tm σ.s.tn σ.s.ln σ.s.tks σ.s.lks σ.c (-1) (-1) W' hV (by decide) (by decide) (by decide) (by decide) hcs (by have:=hn.nt;omega) (by have:=hn.nl;omega) ss hss z hz h0 hp (fun l=>Yp L (z.n:Int) l.au) (fun y=>Yp L (z.n:Int) y.n) (fun l hlm=>by
      rw [hl.akL l hlm]
      exact Xun hl hok hn.al z.n l.au (hok.limL l hlm).2) (fun y hy=>Xun hl hok hn.al z.n y.n (hok.limT y hy).1))).mono (by rintro e w' ⟨rfl,⟨c',l',f',hc',hV'⟩,hs'⟩;exact⟨rfl,⟨⟨σ.k,σ.vx,σ.tm,_,c'⟩,l',f',⟨⟨rfl,rfl,hc'⟩,rfl,rfl⟩,hV'⟩,hs'⟩))).mono (fun _ _ h=>Za hS' h)),(fun B' W nb g' cap' hBW _ hR'=>(Xkf B' nb g' cap' L σ.tm _ _ ss W hR' hBW hR'.ne hold i _ ht hf htk h0).mono (by
     rintro e w' ⟨rfl,hR2,-,hs2⟩
     exact⟨g',cap',_,_,_,⟨rfl,rfl,rfl⟩,rfl,hR2,hs2⟩))⟩)
   refine hA.mono ?_;rintro e w' ⟨rfl,hA'⟩;refine⟨rfl,hA'.inv hI ?_⟩;rintro σ' _ _ _ ⟨h1,h2,h3⟩ ⟨rfl,rfl,rfl⟩;obtain⟨k',vx',tm',s',c'⟩:=σ';simp only at h1 h2 h3;subst h1 h2;refine⟨rfl,hl.tree (z.n:Int) σ.tm,rfl,rfl,⟨?_,?_,?_,?_,?_,?_,?_,hn.hd.map _ (fun x=>by unfold tokF Y2;split <;> (try split) <;> exact⟨rfl,rfl⟩)⟩⟩
   ·simpa using hn.nt
   ·simpa using hn.nl
   ·simpa using hn.pos
   ·have:=hn.tn;show σ.s.tn<=N+1;omega
   ·have:=hn.ln;show σ.s.ln<=N+1;omega
   ·have:=hn.c;show c'.length<=(N+1)*150000;omega
   refine(hn.al.more (Nat.le_succ N)).mapped _ _ (fun t ht=>?_) (fun t ht=>by split <;> exact⟨rfl,rfl,rfl,rfl⟩)
   split
   ·rename_i e
    refine⟨rfl,rfl,rfl,rfl,fun en=>?_⟩;have hu:=Xii hold (n:=0) (by omega)
    have hb:Yp L (z.n:Int) 0=false:=by rw [Xcx hold (by omega) (by omega)];exact Mc L _ hu
    rw [en] at e;simp [hb] at e
   exact⟨rfl,rfl,rfl,rfl,fun _=>rfl⟩
 exact same (no (Xqz hl (fun x hx e=>absurd e (Xm8 hfi x hx)))) (.inl hf)
end Go.Proofs
namespace Go.Proofs
open Go.RowKit Go.Sort Go.Lib Go.Shelf Go.Maps
structure Xcf (tm:Int) (s:VSt) (q:List Xe) (L:List ThingD) (xs:List (List UInt8)):Prop where
 rel:Rel s.tks s.lks L
 full:∀ th∈L,V0 tm L xs th=true↔th.turn∈q
 tried:∀ th∈L,th.token=true->hasB xs th.id=true->Y4 (th.n:Int) L=true
theorem Xcf.perm {tm:Int} {s:VSt} {q q':List Xe} {L:List ThingD} {xs:List (List UInt8)} (h:Xcf tm s q L xs) (hp:q'.Perm q):Xcf tm s q' L xs:=⟨h.rel,fun th ht=>(h.full th ht).trans hp.mem_iff.symm,h.tried⟩
theorem Uc {tm:Int} {L:List ThingD} {xs:List (List UInt8)} {t:ThingD}:V0 tm L xs t=true↔(t.doomed=true\/t.token=false)/\t.at_<=tm/\(t.token=true->Y4 (t.n:Int) L=true)/\hasB xs t.id=false:=by
 unfold V0 ThingD.state
 cases t.token <;> cases t.doomed <;> by_cases h:t.at_<=tm <;> simp [h]
theorem Xnd {L:List ThingD} {s:VSt} (h:Rel s.tks s.lks L) (ok:Xx s.tks s.lks) {x u:ThingD} (hx:x∈L) (hu:u∈L) (hne:u≠x):(x.id==u.id)=false:=by
 rw [beq_eq_false_iff_ne,ThingD.U5,ThingD.U5];intro e;obtain⟨e1,e2⟩:=Xc1 (h.num ok hx) (h.num ok hu) e;exact hne (h.Xkr ok hu hx e1.symm e2.symm)
theorem Xd2 {L:List ThingD} {s:VSt} (h:Rel s.tks s.lks L) (ok:Xx s.tks s.lks) {x u:ThingD} (hx:x∈L) (hu:u∈L) (e:(u.turn.k,u.turn.n)=(x.turn.k,x.turn.n)):u=x:=by
 have e':=Prod.mk.inj e;refine h.Xkr ok hu hx ?_ ?_
 ·have:=e'.1
  unfold ThingD.turn kdB at this
  cases hu':u.token <;> cases hx':x.token <;> simp [hu',hx'] at this ⊢
 have:=e'.2;unfold ThingD.turn at this;simp at this;omega
theorem Xcf.start {tm:Int} {s:VSt} {L:List ThingD} (h:Rel s.tks s.lks L) (ok:Xx s.tks s.lks):Xcf tm s (s.tks.flatMap (Yv s tm)++s.lks.flatMap (Zw tm)) L []:=by
 refine⟨h,fun th hth=>?_,fun th _ _ e=>by simp [hasB] at e⟩;rw [Uc]
 constructor
 ·rintro⟨h1,h2,h3,-⟩
  cases hk:th.token
  ·obtain⟨t,ht,rfl⟩:=h.Mi hth hk
   refine List.mem_append_right _ (List.mem_flatMap.2 ⟨t,ht,?_⟩);unfold Zw;rw [if_pos (show t.at_<=tm from h2)];exact List.mem_singleton.2 rfl
  obtain⟨t,ht,rfl⟩:=h.Zj hth hk;refine List.mem_append_left _ (List.mem_flatMap.2 ⟨t,ht,?_⟩);have hf:=h3 rfl;rw [h.free] at hf
  have hp:t.pd=true:=by
   rcases h1 with e | e
   ·exact e
   cases e
  have hc:(t.pd&&decide (t.at_<=tm) && !hasU s t.n)=true:=by
   rw [hp,show (!hasU s t.n)=true from hf,decide_eq_true (show t.at_<=tm from h2)];rfl
  unfold hasU at hc;unfold Yv;rw [if_pos hc];exact List.mem_singleton.2 rfl
 intro hm
 rcases List.mem_append.1 hm with hm | hm
 ·obtain⟨t,ht,hu⟩:=List.mem_flatMap.1 hm
  obtain⟨e,hp,ha,hb⟩:=J8 hu;have:th=thT t:=Xd2 h ok (h.Vh ht) hth (by rw [e];rfl);subst this;exact⟨.inl hp,ha,fun _=>by rw [h.free];simp [hb,thT],by simp [hasB]⟩
 obtain⟨t,ht,hu⟩:=List.mem_flatMap.1 hm;obtain⟨e,ha⟩:=Vp hu;have:th=thL t:=Xd2 h ok (h.Xcl ht) hth (by rw [e];rfl);subst this;exact⟨.inr rfl,ha,fun e=>(by cases e),by simp [hasB]⟩
theorem Xdk {n:Int} {L L':List ThingD} (h:L'.map ThingD.of_=L.map ThingD.of_):Y4 n L'=Y4 n L:=by
 have e:∀ M:List ThingD,Y4 n M=(M.map ThingD.of_).all (fun o=>!(o==n)):=fun M=>by rw [List.all_map];rfl
 rw [e,e,h]
theorem Xcf.try1 {tm:Int} {s:VSt} {t:Xe} {q':List Xe} {it:Item} {tk:Bool} {n un:Nat} {L:List ThingD} {xs:List (List UInt8)} (h:Xcf tm s (t :: q') L xs) (ok:Xx s.tks s.lks) (hQ:QOk tm s (t :: q')) (hs:Zq tm s t it tk n un) (hl:∀ u∈q',¬ ltT u t) :
  ∃ i th,L[i]? = some th/\Xf4 tm L xs=some i/\th.token=tk/\th.n=n/\Xcf tm (it.app s) q' (L.set i (Ue tm th)) (xs ++ [th.id])/\Xcf tm ((Item.gone tk n).app s) (q'++Jb ((Item.gone tk n).app s) tm un) (L.eraseIdx i) (xs ++ [th.id]):=by
 obtain⟨i,th,hi,ht,htk,hn,hof,hR1,hR2⟩:=hs.thing h.rel ok;have hth:=List.mem_of_getElem? hi
 have huq:∀ j u,L[j]? = some u->u.token=th.token->u.n=th.n->j=i:=fun j u hj e1 e2=>h.rel.idx ok hi hj e1 e2
 have hdue:V0 tm L xs th=true:=(h.full th hth).2 (by rw [ht];simp);obtain⟨hd1,hd2,hd3,hd4⟩:=Uc.1 hdue;obtain⟨nq1,nq2⟩:=List.nodup_cons.1 (by simpa using hQ.nd:((t.k,t.n) :: q'.map (fun t=>(t.k,t.n))).Nodup)
 have hnq:th.turn∉q':=fun hm=>nq1 (List.mem_map.2 ⟨th.turn,hm,by rw [ht]⟩)
 have hin:∀ u∈L,u≠th->(u.turn∈t :: q'↔u.turn∈q'):=fun u hu hne=>by
  rw [List.mem_cons]
  constructor
  ·rintro(e | e)
   ·exact absurd (Xd2 h.rel ok hth hu (by rw [e,ht])) hne
   exact e
  exact .inr
 refine⟨i,th,hi,Xtj hi hdue (fun u hu hp=>?_) huq,htk,hn,⟨hR1,fun u hu=>?_,fun u hu htok hb=>?_⟩,⟨hR2,fun u hu=>?_,fun u hu htok hb=>?_⟩⟩
 ·rw [Bool.eq_false_iff,Ne,Mw]
  have hm:=(h.full u hu).1 hp;rw [ht]
  rcases List.mem_cons.1 hm with e | e
  ·rw [e];unfold ltT;omega
  exact hl _ e
 ·have hfr:∀ m:Int,Y4 m (L.set i (Ue tm th))=Y4 m L:=fun m=>Xdk (by
   rw [List.map_set]
   refine List.ext_getElem? fun j=>?_
   by_cases e:i=j
   ·subst e
    rw [List.getElem?_set_self (by simpa using(List.getElem?_eq_some_iff.1 hi).1),List.getElem?_map,hi];rfl
   rw [List.getElem?_set_ne e])
  rw [Uz hi huq] at hu;obtain⟨z,hz,rfl⟩:=List.mem_map.1 hu
  by_cases hk:Z2 th z=true
  ·rw [if_pos hk]
   have hz':z=th:=h.rel.Xkr ok hz hth (Ys.1 hk).1 (Ys.1 hk).2
   constructor
   ·intro hp
    have:=(Uc.1 hp).2.2.2;rw [Uo,show (Ue tm th).id=th.id from rfl] at this;simp at this
   intro hm;exact absurd (List.mem_map.2 ⟨_,hm,by rw [<- ht];rfl⟩:(t.k,t.n)∈q'.map (fun t=>(t.k,t.n))) nq1
  rw [if_neg hk]
  have hne:z≠th:=fun e=>hk (by rw [e];exact Ys.2 ⟨rfl,rfl⟩)
  rw [<- hin z hz hne,<- h.full z hz,Uc,Uc,hfr,Uo,Xnd h.rel ok hth hz hne,Bool.or_false]
 ·have hfr:∀ m:Int,Y4 m (L.set i (Ue tm th))=Y4 m L:=fun m=>Xdk (by
   rw [List.map_set]
   refine List.ext_getElem? fun j=>?_
   by_cases e:i=j
   ·subst e
    rw [List.getElem?_set_self (by simpa using(List.getElem?_eq_some_iff.1 hi).1),List.getElem?_map,hi];rfl
   rw [List.getElem?_set_ne e])
  rw [Uz hi huq] at hu;obtain⟨z,hz,rfl⟩:=List.mem_map.1 hu;rw [hfr]
  by_cases hk:Z2 th z=true
  ·rw [if_pos hk] at htok ⊢
   exact hd3 htok
  rw [if_neg hk] at htok hb ⊢
  have hne:z≠th:=fun e=>hk (by rw [e];exact Ys.2 ⟨rfl,rfl⟩)
  rw [Uo,Xnd h.rel ok hth hz hne,Bool.or_false] at hb;exact h.tried z hz htok hb
 ·rw [Zm hi huq] at hu hR2 ⊢
  obtain⟨hz,hk⟩:=List.mem_filter.1 hu
  have hne:u≠th:=fun e=>by rw [e] at hk;simp [Z2] at hk
  have hmono:Y4 (u.n:Int) L=true->Y4 (u.n:Int) (L.filter fun z=>!Z2 th z)=true:=fun hf=>by
   unfold Y4 at hf ⊢;rw [List.all_eq_true] at hf ⊢
   exact fun z hz=>hf z (List.mem_filter.1 hz).1
  have hbk:u.n≠un->Y4 (u.n:Int) (L.filter fun z=>!Z2 th z)=true->Y4 (u.n:Int) L=true:=fun hnu hf=>by
   unfold Y4 at hf ⊢;rw [List.all_eq_true] at hf ⊢;intro z hz
   by_cases hkz:Z2 th z=true
   ·have hz':z=th:=h.rel.Xkr ok hz hth (Ys.1 hkz).1 (Ys.1 hkz).2
    rw [hz',hof];simp;omega
   exact hf z (List.mem_filter.2 ⟨hz,by simpa using hkz⟩)
  have hid:hasB (xs ++ [th.id]) u.id=hasB xs u.id:=by rw [Uo,Xnd h.rel ok hth hz hne,Bool.or_false]
  rw [Uc,hid,List.mem_append]
  constructor
  ·rintro⟨h1,h2,h3,h4⟩
   by_cases hold:u.token=true->Y4 (u.n:Int) L=true
   ·exact .inl ((hin u hz hne).1 ((h.full u hz).1 (Uc.2 ⟨h1,h2,hold,h4⟩)))
   obtain⟨htok,hnf⟩:=Classical.not_imp.1 hold
   have hun:u.n=un:=Classical.byContradiction fun e=>hnf (hbk e (h3 htok))
   right
   obtain⟨p,hp,rfl⟩:=hR2.Zj hu htok;have hpn:p.n=un:=hun
   have hfind:((Item.gone tk n).app s).tks.find? (fun t=>t.n==un)=some p:=by
    cases hfd:((Item.gone tk n).app s).tks.find? (fun t=>t.n==un) with
    | none=>exact absurd (List.find?_eq_none.1 hfd p hp) (by simp [hpn])
    | some p2 =>
     have h5:=List.mem_of_find?_eq_some hfd
     have h6:p2.n=un:=by simpa using List.find?_some hfd
     have hinc:((Item.gone tk n).app s).tks.Pairwise (fun a b=>a.n<b.n):=by
      show (Yu tk n s.tks).Pairwise _
      unfold Yu
      split
      ·exact ok.incT.filter _
      exact ok.incT
     rw [Z5 (f:=Xd.n) hinc h5 hp (by omega)]
   have hpd:p.pd=true:=by
    rcases h1 with e | e
    ·exact e
    cases e
   have hfu:=h3 rfl;rw [show ((thT p).n:Int)=(p.n:Int) from rfl,hR2.free] at hfu
   have hc:(p.pd&&decide (p.at_<=tm) && !hasU ((Item.gone tk n).app s) p.n)=true:=by
    rw [hpd,hfu,decide_eq_true (show p.at_<=tm from h2)];rfl
   unfold Jb;rw [hfind];unfold hasU at hc;unfold Yv;simp only;rw [if_pos hc];exact List.mem_singleton.2 rfl
  rintro(hm | hm)
  ·obtain⟨h1,h2,h3,h4⟩:=Uc.1 ((h.full u hz).2 ((hin u hz hne).2 hm))
   exact⟨h1,h2,fun e=>hmono (h3 e),h4⟩
  unfold Jb at hm
  split at hm
  ·rename_i p hfd
   have h5:=List.mem_of_find?_eq_some hfd
   have h6:p.n=un:=by simpa using List.find?_some hfd
   obtain⟨e,hpd,hat,hnb⟩:=J8 hm;have hpL:=hR2.Vh h5;have hup:u=thT p:=Xd2 h.rel ok (List.mem_filter.1 hpL).1 hz (by rw [e];rfl);subst hup;refine⟨.inl hpd,hat,fun _=>by rw [show ((thT p).n:Int)=(p.n:Int) from rfl,hR2.free,hnb];rfl,?_⟩;rw [Bool.eq_false_iff];intro hb;have hf:=h.tried _ hz rfl hb;unfold Y4 at hf;rw [List.all_eq_true] at hf;have:=hf th hth;rw [hof] at this;simp [thT,h6] at this
  cases hm
 rw [Zm hi huq] at hu ⊢;obtain⟨hz,hk⟩:=List.mem_filter.1 hu
 have hne:u≠th:=fun e=>by rw [e] at hk;simp [Z2] at hk
 rw [Uo,Xnd h.rel ok hth hz hne,Bool.or_false] at hb;have hf:=h.tried u hz htok hb;unfold Y4 at hf ⊢;rw [List.all_eq_true] at hf ⊢
 exact fun z hz=>hf z (List.mem_filter.1 hz).1
theorem Xcf.stop {tm:Int} {s:VSt} {L:List ThingD} {xs:List (List UInt8)} (h:Xcf tm s [] L xs):Xf4 tm L xs=none:=
 Xn1 fun u hu=>by
  rw [Bool.eq_false_iff];intro hp;exact absurd ((h.full u hu).1 hp) (by simp)
theorem Jn.lens {tm:Int} {a b:TS} (h:Jn tm a b) (ht:Jt a.s):b.s.tks.length<=a.s.tks.length/\b.s.lks.length<=a.s.lks.length:=by
 cases h with
 | fail hs hp hl ho hq =>
  cases hs with
  | tok t hm hk =>
   have:(Yh (Va tm t) a.s.tks).length=a.s.tks.length:=J7 ht.incT hm rfl;simp only [Item.app];omega
  | lea t hm hk =>
   have:(Yc (Vb tm t) a.s.lks).length=a.s.lks.length:=J6 ht.incL hm rfl;simp only [Item.app];omega
 | @ok t q' q'' it tk n un hs hp hl ho hq =>
  have h1:(Yu tk n a.s.tks).length<=a.s.tks.length:=by unfold Yu;split;exact List.length_filter_le _ _;exact Nat.le_refl _
  have h2:(Y6 tk n a.s.lks).length<=a.s.lks.length:=by unfold Y6;split;exact Nat.le_refl _;exact List.length_filter_le _ _
  exact⟨h1,h2⟩
theorem Jn.strict {tm:Int} {a b:TS} (h:Jn tm a b) (ht:Jt a.s):b.q.length+(b.s.tks.length+b.s.lks.length)+1<=a.q.length+(a.s.tks.length+a.s.lks.length):=by
 cases h with
 | fail hs hp hl ho hq =>
  have h1:=hp.length_eq;have h2:=hq.length_eq;simp only [List.length_cons] at h1
  cases hs with
  | tok t hm hk =>
   have:(Yh (Va tm t) a.s.tks).length=a.s.tks.length:=J7 ht.incT hm rfl;simp only [Item.app];omega
  | lea t hm hk =>
   have:(Yc (Vb tm t) a.s.lks).length=a.s.lks.length:=J6 ht.incL hm rfl;simp only [Item.app];omega
 | @ok t q' q'' it tk n un hs hp hl ho hq =>
  have h1:=hp.length_eq;have h2:=hq.length_eq
  have h3:(Jb ((Item.gone tk n).app a.s) tm un).length<=1:=by
   unfold Jb
   split
   ·unfold Yv;split <;> simp
   simp
  rw [List.length_append] at h2;simp only [List.length_cons] at h1
  cases hs with
  | tok t hm hk =>
   have:(a.s.tks.filter (fun x=>x.n != t.n)).length+1<=a.s.tks.length:=J9 _ hm (by simp);simp only [Item.app,Yu,Y6,Xba,if_true];omega
  | lea t hm hk =>
   have:(a.s.lks.filter (fun x=>x.n != t.n)).length+1<=a.s.lks.length:=J9 _ hm (by simp);simp only [Item.app,Yu,Y6,Xa8,Bool.false_eq_true,if_false];omega
structure Bnd (s:VSt):Prop where
 ok:Xx s.tks s.lks
 nt:∀ x∈s.tks,x.n<=s.tn
 nl:∀ x∈s.lks,x.n<=s.ln
theorem Jn.bnd {tm:Int} {a b:TS} (h:Jn tm a b) (hb:Bnd a.s) (hT:Jt a.s) (hT':Jt b.s):Bnd b.s/\b.s.tn=a.s.tn/\b.s.ln=a.s.ln:=by
 have hl:=h.lens hT;have h1:=hb.ok
 cases h with
 | fail hs hp hl' ho hq =>
  cases hs with
  | tok t hm hk =>
   have en:max a.s.tn t.n=a.s.tn:=Nat.max_eq_left (hb.nt t hm);refine⟨⟨⟨Nat.le_trans hl.1 h1.lenT,Nat.le_trans hl.2 h1.lenL,hT'.incT,hT'.incL,fun x hx=>?_,h1.limL⟩,fun x hx=>?_,hb.nl⟩,en,rfl⟩
   ·rcases Zh hT.incT hx with rfl | hx
    ·exact h1.limT t hm
    exact h1.limT x hx
   show x.n<=max a.s.tn t.n
   rw [en]
   rcases Zh hT.incT hx with rfl | hx
   ·exact hb.nt t hm
   exact hb.nt x hx
  | lea t hm hk =>
   have en:max a.s.ln t.n=a.s.ln:=Nat.max_eq_left (hb.nl t hm);refine⟨⟨⟨Nat.le_trans hl.1 h1.lenT,Nat.le_trans hl.2 h1.lenL,hT'.incT,hT'.incL,h1.limT,fun x hx=>?_⟩,hb.nt,fun x hx=>?_⟩,rfl,en⟩
   ·rcases Jd hT.incL hx with rfl | hx
    ·exact h1.limL t hm
    exact h1.limL x hx
   show x.n<=max a.s.ln t.n
   rw [en]
   rcases Jd hT.incL hx with rfl | hx
   ·exact hb.nl t hm
   exact hb.nl x hx
 | ok hs hp hl' ho hq =>
  exact⟨⟨⟨Nat.le_trans hl.1 h1.lenT,Nat.le_trans hl.2 h1.lenL,hT'.incT,hT'.incL,fun x hx=>h1.limT x (Y0 hx),fun x hx=>h1.limL x (Ze hx)⟩,fun x hx=>hb.nt x (Y0 hx),fun x hx=>hb.nl x (Ze hx)⟩,rfl,rfl⟩
theorem Jv.head' {tm:Int} {a b:TS} (h:Jv tm a b):a=b\/∃ c,Jn tm a c/\Jv tm c b:=by
 induction h with
 | refl=>exact .inl rfl
 | step h h1 ih =>
  rcases ih with rfl | ⟨c,h2,h3⟩
  ·exact .inr ⟨_,h1,.refl _⟩
  exact .inr ⟨c,h2,.step h3 h1⟩
theorem Jn.Xuq {tm:Int} {a b:TS} (h:Jn tm a b):∃ k n,b.cl=a.cl ++ [(k,n)]:=by
 cases h with
 | fail hs hp hl ho hq=>exact⟨_,_,rfl⟩
 | ok hs hp hl ho hq=>exact⟨_,_,rfl⟩
theorem Jv.Xr9 {tm:Int} {a b:TS} (h:Jv tm a b):a.cl <+: b.cl:=by
 induction h with
 | refl=>exact List.prefix_refl _
 | step h h1 ih =>
  obtain⟨k,n,e⟩:=h1.Xuq;rw [e];exact ih.trans (List.prefix_append _ _)
structure Tk (tm:Int) (M:Int) (b a:TS) (L:List ThingD) (xs:List (List UInt8)):Prop where
 fwd:Jv tm a b
 bq:b.q = []
 go:Xaz tm (M+a.cl.length) a
 bnd:Bnd a.s
 inv:Xcf tm a.s a.q L xs
 hd:Uu L
 len:xs.length=a.cl.length
 old:∀ t∈a.s.tks,(t.n=0/\t.ak=0/\t.au=0)\/(t.ak=1/\t.au<t.n)
theorem Tk.step {tm M:Int} {b a:TS} {L:List ThingD} {xs:List (List UInt8)} (h:Tk tm M b a L xs) (hlt:a.cl.length<b.cl.length) :
  ∃ c i th k n,L[i]? = some th/\Xf4 tm L xs=some i/\b.cl[a.cl.length]? = some (k,n)/\th.id=nmStr k n/\0<i/\(th∈L/\0<=th.tries/\th.tries<=M+a.cl.length)/\c.fl=a.fl / 2/\c.cl.length=a.cl.length+1/\(c.s.tn=a.s.tn/\c.s.ln=a.s.ln/\c.s.tks.length<=a.s.tks.length/\c.s.lks.length<=a.s.lks.length)/\(((a.fl % 2==1)=true/\Tk tm M b c (L.set i (Ue tm th)) (xs ++ [th.id]))\/((a.fl % 2==1)=false/\Tk tm M b c (L.eraseIdx i) (xs ++ [th.id]))):=by
 rcases h.fwd.head' with rfl | ⟨c,h1,h2⟩
 ·omega
 obtain⟨hg,hcl⟩:=h1.going h.go
 have hg':Xaz tm (M+c.cl.length) c:=by
  have e:M+((c.cl.length:Nat):Int)=M+(a.cl.length:Int)+1:=by rw [hcl];omega
  rw [e];exact hg
 obtain⟨hb,htn,hln⟩:=h1.bnd h.bnd h.go.tree hg.tree;have hlens:=h1.lens h.go.tree;have hold:=h1.old h.go.tree h.old;have hpre:=h2.Xr9
 have hxl:∀ th:ThingD,(xs ++ [th.id]).length=c.cl.length:=fun th=>by rw [List.length_append,h.len,hcl];rfl
 cases h1 with
 | @fail t q' q'' it tk n un hs hp hl ho hq =>
  obtain⟨i,th,hi,hdue,htk,hn,hT1,-⟩:=(h.inv.perm hp).try1 h.bnd.ok (h.go.q.perm hp) hs hl;have hm:=List.mem_of_getElem? hi
  have hnz:th.n≠0\/th.token=false:=by
   cases htk':th.token with
   | false=>exact .inr rfl
   | true =>
    left
    have hk:=hs.key;intro e0;exact(h.go.nz.perm hp) t (by simp) (by rw [hk.1,<- htk,htk'];rfl) (by rw [hk.2,<- hn,e0];rfl)
  have hi0:0<i:=by
   rcases Nat.eq_zero_or_pos i with rfl | hp0
   ·obtain⟨x,x1,x2,x3⟩:=h.hd
    rw [hi] at x1;cases x1
    rcases hnz with e | e
    ·exact absurd x3 e
    rw [x2] at e;cases e
   exact hp0
  have htr:0<=th.tries/\th.tries<=M+a.cl.length:=by
   cases htk':th.token with
   | true=>obtain⟨z,hz,rfl⟩:=h.inv.rel.Zj hm htk';exact h.go.tr.1 z hz
   | false=>obtain⟨z,hz,rfl⟩:=h.inv.rel.Mi hm htk';exact h.go.tr.2 z hz
  have hcn:b.cl[a.cl.length]? = some (kdB tk,n):=by
   obtain⟨r,hr⟩:=hpre;rw [<- hr];simp
  refine⟨_,i,th,kdB tk,n,hi,hdue,hcn,by rw [ThingD.U5,htk,hn];rfl,hi0,⟨hm,htr⟩,rfl,hcl,⟨htn,hln,hlens⟩,.inl ⟨ho,⟨h2,h.bq,hg',hb,hT1.perm hq,h.hd.set hi rfl rfl,hxl th,hold⟩⟩⟩
 | @ok t q' q'' it tk n un hs hp hl ho hq =>
  obtain⟨i,th,hi,hdue,htk,hn,-,hT2⟩:=(h.inv.perm hp).try1 h.bnd.ok (h.go.q.perm hp) hs hl;have hm:=List.mem_of_getElem? hi
  have hnz:th.n≠0\/th.token=false:=by
   cases htk':th.token with
   | false=>exact .inr rfl
   | true =>
    left
    have hk:=hs.key;intro e0;exact(h.go.nz.perm hp) t (by simp) (by rw [hk.1,<- htk,htk'];rfl) (by rw [hk.2,<- hn,e0];rfl)
  have hi0:0<i:=by
   rcases Nat.eq_zero_or_pos i with rfl | hp0
   ·obtain⟨x,x1,x2,x3⟩:=h.hd
    rw [hi] at x1;cases x1
    rcases hnz with e | e
    ·exact absurd x3 e
    rw [x2] at e;cases e
   exact hp0
  have htr:0<=th.tries/\th.tries<=M+a.cl.length:=by
   cases htk':th.token with
   | true=>obtain⟨z,hz,rfl⟩:=h.inv.rel.Zj hm htk';exact h.go.tr.1 z hz
   | false=>obtain⟨z,hz,rfl⟩:=h.inv.rel.Mi hm htk';exact h.go.tr.2 z hz
  have hcn:b.cl[a.cl.length]? = some (kdB tk,n):=by
   obtain⟨r,hr⟩:=hpre;rw [<- hr];simp
  refine⟨_,i,th,kdB tk,n,hi,hdue,hcn,by rw [ThingD.U5,htk,hn];rfl,hi0,⟨hm,htr⟩,rfl,hcl,⟨htn,hln,hlens⟩,.inr ⟨ho,⟨h2,h.bq,hg',hb,hT2.perm hq,h.hd.erase hi0,hxl th,hold⟩⟩⟩
theorem Tk.stop {tm M:Int} {b a:TS} {L:List ThingD} {xs:List (List UInt8)} (h:Tk tm M b a L xs) (he:¬ a.cl.length<b.cl.length):a=b/\Xf4 tm L xs=none:=by
 rcases h.fwd.head' with rfl | ⟨c,h1,h2⟩
 ·refine⟨rfl,Xcf.stop (s:=a.s) ?_⟩
  have:=h.inv;rw [h.bq] at this;exact this
 obtain⟨k,n,e⟩:=h1.Xuq;obtain⟨r,hr⟩:=h2.Xr9;rw [<- hr,e] at he;simp at he
theorem Tk.start {tm M:Int} {s:VSt} {fl:Int} {c:List UInt8} {b:TS} {L:List ThingD} {N:Nat} (hb:Jv tm ⟨s,s.tks.flatMap (Yv s tm)++s.lks.flatMap (Zw tm),fl,c,[]⟩ b) (hq:b.q = []) (ha:Z7 N s) (hM:M=((48*N:Nat):Int)) (hbn:Bnd s) (hr:Rel s.tks s.lks L) (hd:Uu L) (f0:0<=fl) (f1:fl<=18446744073709551615):Tk tm M b ⟨s,s.tks.flatMap (Yv s tm)++s.lks.flatMap (Zw tm),fl,c,[]⟩ L []:=
 ⟨hb,hq,by
  rw [hM]
  exact⟨ha.tree,QOk.start ha.tree,QNz.start ha.tree,by simpa using ha.tr,f0,f1⟩,hbn,Xcf.start hr hbn.ok,hd,rfl,ha.old⟩
theorem Jv.most {tm M:Int} {a b:TS} (h:Jv tm a b) (hg:Xaz tm M a):(∃ M',Xaz tm M' b)/\b.cl.length+(b.q.length+(b.s.tks.length+b.s.lks.length))<=a.cl.length+(a.q.length+(a.s.tks.length+a.s.lks.length)):=by
 induction h with
 | refl=>exact⟨⟨M,hg⟩,Nat.le_refl _⟩
 | step h h1 ih =>
  obtain⟨⟨M',hg'⟩,hle⟩:=ih;obtain⟨hg2,hcl⟩:=h1.going hg';have:=h1.strict hg'.tree;exact⟨⟨_,hg2⟩,by omega⟩
end Go.Proofs
