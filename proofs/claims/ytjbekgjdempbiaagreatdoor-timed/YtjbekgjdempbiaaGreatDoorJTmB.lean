import Derived.Test.YtjbekgjdempbiaaGreatDoorJSpare
import Derived.Test.YtjbekgjdempbiaaGreatDoorJKpB
import Derived.Test.YtjbekgjdempbiaaGreatDoorJHostK
set_option maxRecDepth 100000
set_option maxHeartbeats 8000000
namespace Go.Proofs
open Go.RowKit Go.Sort Go.Lib Go.Shelf Go.Maps
theorem flatI_get:∀(xs:List InfoD) (k j:Nat) (t:InfoD),xs[k]? = some t→j<6→(flatI xs)[k*6+j]? = t.cells[j]?
 | [],_,_,_,h,_=>by simp at h
 | x :: xs,0,j,t,h,hj=>by
  obtain rfl:x=t:=by simpa using h
  show (x.cells.toList++flatI xs)[0*6+j]? = _
  rw [List.getElem?_append_left (by rw [InfoD.cells_size];omega)];simp
 | x :: xs,k+1,j,t,h,hj=>by
  show (x.cells.toList++flatI xs)[(k+1)*6+j]? = _
  rw [List.getElem?_append_right (by rw [InfoD.cells_size];omega),InfoD.cells_size,show (k+1)*6+j-6=k*6+j by omega];exact flatI_get xs k j t (by simpa using h) hj
theorem infoRow {B:Nat} {W:World} {g cap n:Nat} {e:TypeId} {xs:List InfoD} (h:W.ownsRow B e 6 (.slice (some ⟨g,0,none⟩) n cap) n (flatI xs)) {k:Nat} {t:InfoD} (hk:xs[k]? = some t) :
  W.cell? ⟨g,k*6,none⟩=some (.string ⟨t.id.toArray⟩)∧W.cell? ⟨g,k*6+1,none⟩=some (.int .i64 t.st)∧W.cell? ⟨g,k*6+2,none⟩=some (.int .u64 t.at_)∧W.cell? ⟨g,k*6+3,none⟩=some (.int .i64 t.tr)∧W.cell? ⟨g,k*6+4,none⟩=some (.string ⟨t.tok.toArray⟩)∧W.cell? ⟨g,k*6+5,none⟩=some (.string ⟨t.pth.toArray⟩):=by
 have c:∀ j,j<6→W.cell? ⟨g,k*6+j,none⟩=t.cells[j]?:=fun j hj=>by
  have hc:=h.cells (g:=g) rfl (k*6+j);have hs:j<t.cells.size:=hj;have:=hc (t.cells[j]) (by rw [flatI_get xs k j t hk hj];simp [hs]);rw [Lib.add_plain] at this;simp only [Nat.zero_add] at this;rw [this];simp [hs]
 exact⟨c 0 (by omega),c 1 (by omega),c 2 (by omega),c 3 (by omega),c 4 (by omega),c 5 (by omega)⟩
end Go.Proofs
namespace Go.Proofs
open Go.RowKit Go.Sort Go.Lib Go.Shelf Go.Maps Go.WideMaps
def pickI (c n:Int):Int:=(if c<0 then -(c+1) else c) % n
theorem Tryz.kPick (c n:Int) (h0 : -9223372036854775808≤c) (h1:c≤9223372036854775807) (hn:0<n) (hn1:n≤1000) (w:World) :
  Calls prog 17 #[.int .i64 c,.int .i64 n] w fun e w'=>e=.returned (.int .i64 (pickI c n))∧w'=w:=by
 by_cases hc:c<0
 ·have hp:Hid (pickI c n = -(c+1) % n):=hid_intro (by simp [pickI,hc])
  generalize pickI c n=r at *;go_enter func17,ntmps17;go_wp2;go_ret;refine⟨ret_int ?_,rfl⟩;rw [hid_elim hp,← Int.neg_tmod,Int.tmod_eq_emod_of_nonneg (by omega)]
 ·have hp:Hid (pickI c n=c % n):=hid_intro (by simp [pickI,hc])
  generalize pickI c n=r at *;go_enter func17,ntmps17;go_wp2;go_ret;exact⟨ret_int (hid_elim hp).symm,rfl⟩
theorem pick_nat (c n:Int) (hn:0<n):∃ k:Nat,pickI c n=(k:Int)∧(k:Int)<n:=by
 have h1:=Int.emod_nonneg (if c<0 then -(c+1) else c) (show n≠0 by omega);have h2:=Int.emod_lt_of_pos (if c<0 then -(c+1) else c) hn;exact⟨(pickI c n).toNat,by unfold pickI;omega,by unfold pickI;omega⟩
theorem tmL_eq:∀ {ls:List LineD} {now:Int},(∀ l∈ls,l.tm≤now)→tmL now ls=now
 | [],_,_=>rfl
 | a :: ls,now,h=>by
  have h1:=h a (by simp)
  show tmL (max now a.tm) ls=now
  rw [show max now a.tm=now by omega];exact tmL_eq (fun l hl=>h l (List.mem_cons_of_mem _ hl))
theorem oldS_some {fd:Option (Nat × List UInt8)} {c:List UInt8} (h:oldS fd=c) (hc:c ≠ []):∃ b,fd=some (b,c):=by
 cases fd with
 | none=>exact absurd h.symm hc
 | some p =>
  obtain⟨b,x⟩:=p;have:x=c:=h;exact⟨b,by rw [this]⟩
theorem boxN_type {W:World} {b:Nat} {t t':TypeId} {cs cs':Array Value} (h:BoxN W b t cs) (h':BoxN W b t' cs'):t=t':=by
 have e:=h.symm.trans h';simp at e;exact e.2
theorem Tryz.lost {B hb rb:Nat} {σ:SS} {w:World} (hS:Sys B w hb rb σ) (hbw:B≤w.heap.size) (hc:σ.c ≠ []) (hl:σ.c.length<4294967281) (now:Int) (htm:σ.tm≤now) (hn1:now≤18446744073709551615) (ke pa:Int) (p0 : -9223372036854775808≤pa) (p1:pa≤9223372036854775807) :
  Calls prog 32 #[.pointer (some ⟨hb,0,none⟩),.int .i64 ke,.int .i64 pa] w fun e w1=>e=.returned (.tuple #[])∧Spares [hb,σ.k.db] w w1∧∀ w2,Below w1.heap.size w1 w2→∀ cc dd:Int,
   Calls prog 33 #[.pointer (some ⟨hb,0,none⟩),.int .u64 now,fallV (-1) (-1) cc dd] w2 fun e w'=>e=.returned (.int .i64 0)∧(∃ k vx,Sys B w' hb rb ⟨k,vx,now,σ.s,σ.c⟩)∧Below B w2 w'∧Spares [hb,σ.k.db] w2 w':=by
 obtain⟨k,vx,tm,s,c⟩:=σ;simp only at hc hl htm ⊢;obtain⟨fd,fn,hD,e1,e2⟩:=hS.wh.d;obtain⟨bd,rfl⟩:=oldS_some e1 hc;obtain⟨ls,hok,hs,hcc,hle⟩:=hS.wh.log.ex;simp only at hs hcc hle
 have hnel:ls ≠ []:=fun e=>by rw [e] at hcc;exact hc hcc
 obtain⟨ra,rc,hR⟩:=hS.rvb;have t0:=hS.wh.v.t0;simp only at t0;have hh:=hS.host;simp only at hh;have hdb:=hD.box;have ltm:=hS.wh.turns9;have b9:=hS.b9;have lo:=hS.low;have hlow:=hS.hlow;have low1:B≤k.db:=lo k.db (by simp [Blk.turns]);have low2:B≤k.md:=lo k.md (by simp [Blk.turns]);have hnr:=hh.ne hR (by decide);have hdr:=hdb.ne hR (by decide);refine(hLose_one hb k.db rb k.md k.mn bd _ c fn _ _ ke pa p0 p1 w hh hD).mono ?_;rintro e w1 ⟨rfl,bH1,mn',hge,hD1,hS1⟩;refine⟨rfl,hS1,fun w2 hb2 cc dd=>?_⟩;have hz:=hS1.size
 have hBw:Below B w w2:=(hS1.below hbw (fun b hb=>by
  simp only [List.mem_cons,List.not_mem_nil,or_false] at hb
  rcases hb with rfl | rfl
  ·exact hlow
  ·exact low1)).trans (hb2.mono (by omega))
 have hR2:=(hS1.box hR (by simp only [List.mem_cons,List.not_mem_nil,or_false,not_or];exact⟨Ne.symm hnr,Ne.symm hdr⟩)).below hb2 (Nat.lt_of_lt_of_le hR.lt hz);subst hs hcc;have h:=hOpen_one B hb k.db rb k.md mn' bd bd _ ra rc (-1) (-1) now cc dd ls hok hnel hl w2 (bH1.below hb2 bH1.lt) (hD1.below hb2) hR2 ⟨hlow,low1,hS.rlow,low2,by omega⟩ (by have:=hb2.size;omega) b9 (hS.wh.v.va.env.below hBw (Nat.le_trans (by decide) b9)) (hS.err.below (hBw.mono b9)) (by omega) hn1;rw [tmL_eq (fun l hl=>Int.le_trans (hle l hl) htm)] at h;exact h
theorem Tryz.kFail {B hb rb:Nat} {σ:SS} {w:World} (hS:Sys B w hb rb σ) (hbw:B≤w.heap.size) (hc:σ.c ≠ []) (hl:σ.c.length<4294967281) (now:Int) (htm:σ.tm≤now) (hn1:now≤18446744073709551615) (lose:Int) (l0 : -9223372036854775808≤lose) (l1:lose≤9223372036854775807) (i:Nat) (hi:i<8) :
  Calls prog 19 #[.pointer (some ⟨hb,0,none⟩),.int .i64 lose,.int .i64 i,.int .u64 now] w fun e w'=>e=.returned (.bool true)∧(∃ k vx tm',(tm'=σ.tm∨tm'=now)∧Sys B w' hb rb ⟨k,vx,tm',σ.s,σ.c⟩)∧Below B w w'∧∃ bs,Spares bs w w'∧∀ b∈bs,∀ t cs,BoxN w b t cs→t=78∨t=100:=by
 have hP:=fun W=>kPick lose 256 l0 l1 (by omega) (by omega) W
 have hw:=fun W=>well W
 have hL:=lost hS hbw hc hl now htm hn1 lose 0 (by omega) (by omega);obtain⟨p,hp,hp256⟩:=pick_nat lose 256 (by omega);rw [hp] at hP;unfold fallV at hw hL;go_enter func19,ntmps19
 go_wp2_with (go_at_call 17;refine(hP _).mono ?_;rintro e w1 ⟨rfl,rfl⟩)
 rotate_left
 ·refine hL.mono ?_
  rintro e w2 ⟨rfl,hS2,hO⟩
  go_wp2_with fail
  refine(hw _).mono ?_;rintro e w3 ⟨rfl,hb3⟩;have hO3:=hO w3 hb3 0 0
  go_wp2_with (go_at_call 33;refine hO3.mono ?_;rintro e w4 ⟨rfl,⟨k',vx',hS4⟩,hB4,hS4'⟩)
  go_ret;have hSp:Spares [hb,σ.k.db] w1 w4:=(hS2.trans (Spares.of_below hb3)).trans hS4';obtain⟨fd,fn,hD,-,-⟩:=hS.wh.d;refine⟨rfl,⟨k',vx',now,.inr rfl,hS4⟩,hSp.below hbw (fun b hb'=>?_),_,hSp,fun b hb' t cs hB=>?_⟩
  ·simp only [List.mem_cons,List.not_mem_nil,or_false] at hb'
   rcases hb' with rfl | rfl
   ·exact hS.hlow
   ·exact hS.low _ (by simp [Blk.turns])
  ·simp only [List.mem_cons,List.not_mem_nil,or_false] at hb'
   rcases hb' with rfl | rfl
   ·exact .inl (boxN_type hB hS.host)
   ·exact .inr (boxN_type hB hD.box)
 ·go_ret
  exact⟨rfl,⟨σ.k,σ.vx,σ.tm,.inl rfl,hS⟩,Below.refl _ _,[],Spares.of_below (Below.refl _ _),by simp⟩
theorem Tryz.Sys.cne {B hb rb:Nat} {σ:SS} {w:World} (hS:Sys B w hb rb σ) (h:σ.s.ln≠0):σ.c ≠ []:=fun e=>by
 obtain⟨ls,-,hs,hc,-⟩:=hS.wh.log.ex;rw [hc] at e;have h1:=lines_le ls;rw [e] at h1;have h2:ls = []:=List.eq_nil_of_length_eq_zero (by simpa using h1);rw [hs,h2] at h;exact h rfl
theorem Tryz.Sys.notTick {B hb rb:Nat} {σ:SS} {w:World} (hS:Sys B w hb rb σ) {b:Nat} {t:TypeId} {cs:Array Value} (hB:BoxN w b t cs) (h1:t≠126) (h2:t≠100) (h3:t≠88) (h4:t≠144):b∉htBs σ.k rb σ.vx.due:=fun hq=>by
 obtain⟨ra,rc,hR⟩:=hS.rvb;simp only [htBs,tickBs,List.mem_append,List.mem_cons] at hq
 rcases hq with hq | rfl | e | e
 ·exact hS.wh.no hB h1 h2 hq
 ·exact hB.ne hR h3 rfl
 ·simp [Value.ownBlock] at e
 ·obtain⟨-,cs',h5⟩:=row_box hS.due (g:=b) (by simpa using e)
  exact hB.ne h5 h4 rfl
theorem Tryz.Sys.lowTick {B hb rb:Nat} {σ:SS} {w:World} (hS:Sys B w hb rb σ):∀ q∈htBs σ.k rb σ.vx.due,B≤q:=fun q hq=>by
 simp only [htBs,tickBs,List.mem_append,List.mem_cons] at hq
 rcases hq with hq | rfl | e | e
 ·exact hS.low q hq
 ·exact hS.rlow
 ·simp [Value.ownBlock] at e
 ·exact(row_box hS.due (by simpa using e)).1
theorem tries_lease_fail {tm fl:Int} {tn ln:Nat} {l:LeaE} {c:List UInt8} {b:TS} (ho:(fl % 2==1)=true) (h:Tries tm ⟨⟨tn,ln,[rootE],[l]⟩,[⟨l.at_,2,l.n⟩],fl,c,[]⟩ b) (hln:l.n≤ln) (hb:b.q = []):b.s=⟨tn,ln,[rootE],[failL tm l]⟩∧b.cl = [(2,l.n)]:=by
 rcases h.head with rfl | ⟨a,h1,h2⟩
 ·cases hb
 ·cases h1 with
  | ok hs hp hl ho' hq=>rw [ho] at ho';cases ho'
  | @fail t q' q'' it tk n un hs hp hl ho' hq =>
   have hp1:=List.perm_singleton.1 hp;obtain⟨rfl,rfl⟩:=List.cons.inj hp1;obtain⟨x,hx,-,-,rfl,rfl,rfl,rfl⟩:=hs.of_lea rfl;have hxl:x=l:=List.mem_singleton.1 hx;subst hxl;have hq':q'' = []:=List.Perm.eq_nil hq;have:=h2.done hq';subst this;refine⟨?_,rfl⟩
   have e1:max ln x.n=ln:=by omega
   simp [Item.app,failL,putLea,e1]
def tk1 (tm f:Int) (l:LeaE):List LeaE × List (Int × Nat):=if l.at_≤tm then (if (f % 2==1)=true then ([failL tm l],[(2,l.n)]) else ([],[(2,l.n)])) else ([l],[])
theorem tree_one {tn ln:Nat} {l:LeaE} (hak:l.ak=1) (hau:l.au=0):Tree ⟨tn,ln,[rootE],[l]⟩:=
 ⟨by simp,by simp,fun t ht=>.inl (by rw [List.mem_singleton.1 ht];rfl),fun t ht=>⟨by rw [List.mem_singleton.1 ht];exact hak,rootE,by simp,by rw [List.mem_singleton.1 ht,hau];rfl⟩,fun t ht _=>by rw [List.mem_singleton.1 ht];rfl⟩
section
variable {B hb rb:Nat} {k:Blk} {vx:VX} {tm:Int} {tn ln:Nat} {tks:List TokE} {lks:List LeaE} {c:List UInt8} {w:World}
theorem Tryz.kTick1 {l:LeaE} (hS:Sys B w hb rb ⟨k,vx,tm,⟨tn,ln,[rootE],[l]⟩,c⟩) (hbw:B≤w.heap.size) (hak:l.ak=1) (hau:l.au=0) (htr:l.tr≤800000000) (hc:c.length≤890000000000) (f now:Int) (f0:0≤f) (f1:f≤18446744073709551615) (hn0:0≤now) (hn1:now≤18446744073709551615) (cc dd:Int) :
  Calls prog 22 #[.pointer (some ⟨hb,0,none⟩),.int .u64 now,.int .u64 f,fallV (-1) (-1) cc dd] w fun e w'=>∃ vx' v' c',e=.returned (.tuple #[v',.int .i64 0])∧Sys B w' hb rb ⟨k,vx',max tm now,⟨tn,ln,[rootE],(tk1 (max tm now) f l).1⟩,c'⟩∧w'.ownsRow B 9 1 v' (tk1 (max tm now) f l).2.length ((tk1 (max tm now) f l).2.map fun p=>.string ⟨(nmStr p.1 p.2).toArray⟩)∧c'.length≤c.length+3000000∧Spares (htBs k rb vx.due) w w':=by
 have h0:=(hS.wh.v.okL l (by simp)).r0;have hn:=hS.wh.v.nl l (by simp);simp only at hn;have hT:=hTick B hb rb _ w hS hbw (tree_one hak hau) (by simp) 800000000 (by omega) ⟨fun x hx=>by rw [List.mem_singleton.1 hx];exact⟨Int.le_refl _,show (0:Int)≤800000000 by decide⟩,fun x hx=>by rw [List.mem_singleton.1 hx];exact⟨h0,htr⟩⟩ hc f now f0 f1 hn0 hn1 cc dd;refine hT.mono ?_;rintro e w' ⟨vx',v',b,rfl,hTs,hbq,hS',hrow,-,⟨hb1,hb2,-⟩,hs⟩;simp only at hTs hb2
 have hd:([rootE]:List TokE).flatMap (dueT ⟨tn,ln,[rootE],[l]⟩ (max tm now)) ++ [l].flatMap (dueL (max tm now))=dueL (max tm now) l:=by simp [dueT,rootE]
 rw [hd] at hTs;obtain⟨bs,bq,bf,bc,bcl⟩:=b;simp only at hS' hrow hbq hb1 hb2;refine⟨vx',v',bc,rfl,?_⟩
 have key:bs=⟨tn,ln,[rootE],(tk1 (max tm now) f l).1⟩∧bcl=(tk1 (max tm now) f l).2:=by
  unfold tk1
  by_cases hdue:l.at_≤max tm now
  ·rw [if_pos hdue]
   unfold dueL at hTs;rw [if_pos hdue] at hTs
   by_cases hf:(f % 2==1)=true
   ·rw [if_pos hf]
    exact tries_lease_fail hf hTs hn hbq
   ·rw [if_neg hf]
    exact tries_lease hau (by simpa using hf) hTs hbq
  ·rw [if_neg hdue]
   unfold dueL at hTs;rw [if_neg hdue] at hTs;have:=hTs.done rfl;simp only [TS.mk.injEq] at this;exact⟨this.1,this.2.2.2.2⟩
 obtain⟨rfl,rfl⟩:=key;exact⟨hS',hrow,by omega,hs⟩
theorem Tryz.kRenewNo (hS:Sys B w hb rb ⟨k,vx,tm,⟨tn,ln,tks,lks⟩,c⟩) (l:LeaE) (hl:l∈lks) (hlv:(!l.pd&&decide (tm<l.at_))=false) (ttl:Int) (cc dd:Int) :
  Calls prog 20 #[.pointer (some ⟨hb,0,none⟩),.string ⟨(nmStr 2 l.n).toArray⟩,.int .u64 ttl,fallV (-1) (-1) cc dd] w fun e w'=>e=.returned (.tuple #[.int .u64 0,.int .i64 5])∧Below B w w'∧Spares k.turns w w':=by
 have hlim:=(hS.wh.v.va.ok.limL l hl).1
 have h:=hRenew B hb rb _ w hS (nmStr 2 l.n) ttl cc dd (.int .u64 0) (errV 5) 5 (toldK 5 (.inr (by simp [ErrK]))) (fun _=>True)
  (fun W _ hV=>by
   have hP:=parse ⟨(nmStr 2 l.n).toArray⟩ (by simpa [ByteArray.size] using nm_len hlim) W hV.v.va.env hV.v.va.six;simp only [parse_lea hlim] at hP
   refine(vRenew_miss k.vb W (nmStr 2 l.n) ttl _ l.ak l.au l.at_ l.tr l.pd l.pth l.last hP (fun W2 hb2=>by
    have:=liveLease_hit k.vb k.mt k.ml vx tm tn ln tks lks W2 (hV.v.va.below hb2) l hl;rw [hlv] at this
    exact this)).mono ?_
   rintro e w' ⟨rfl,hb'⟩
   exact⟨rfl,⟨⟨k,vx,tm,⟨tn,ln,tks,lks⟩,c⟩,-1,-1,⟨trivial,rfl,rfl⟩,hV.below hb'⟩,Spares.of_below hb'⟩)
 refine h.mono ?_;rintro e w' ⟨rfl,-,hs⟩;exact⟨rfl,hs.below (Nat.le_of_lt (Nat.lt_of_le_of_lt hS.hlow hS.host.lt)) (fun b hb=>hS.low b hb),hs⟩
end
def leaP (at_ last:Int):LeaE:=⟨2,1,0,at_,0,false,[112],last⟩
theorem tk1_fail (W la:Int):tk1 W 1 (leaP W la)=([failL W (leaP W la)],[(2,2)]):=by
 have h1:(leaP W la).at_≤W:=Int.le_refl W;unfold tk1;rw [if_pos h1,if_pos (by decide)];rfl
theorem Tryz.timed (x y z u:Int) (x0 : -9223372036854775808≤x) (x1:x≤9223372036854775807) (y0 : -9223372036854775808≤y) (y1:y≤9223372036854775807) (z0 : -9223372036854775808≤z) (z1:z≤9223372036854775807) (u0 : -9223372036854775808≤u) (u1:u≤9223372036854775807) (w:World) (h9:9≤w.heap.size) (hE:Env w) (hT:ErrT w) :
  Calls prog 8 #[.int .i64 x,.int .i64 y,.int .i64 z,.int .i64 u] w fun e w'=>e=.returned (.bool true)∧Below w.heap.size w w':=by
 have hw:=fun W=>well W
 unfold fallV at hw;obtain⟨a,ha,ha5⟩:=pick_nat y 500 (by omega);obtain⟨t,ht,ht5⟩:=pick_nat x (1+a) (by omega);obtain⟨r,hr,hr8⟩:=pick_nat z 800 (by omega)
 have hP1:=fun W=>kPick y 500 y0 y1 (by omega) (by omega) W
 have hP2:=fun W=>kPick x (1+a) x0 x1 (by omega) (by omega) W
 have hP3:=fun W=>kPick z 800 z0 z1 (by omega) (by omega) W
 rw [ha] at hP1;rw [ht] at hP2;rw [hr] at hP3;clear ha ht hr x0 x1 y0 y1 z0 z1;go_enter func8,ntmps8
 go_wp2_with (go_at_call 15;refine(opened _ h9 hE hT).mono ?_;rintro e w1 ⟨hb,rb,kk,vx,c,rfl,hS1,hc,hb1⟩)
 refine(hw _).mono ?_;rintro e w2 ⟨rfl,hb2⟩;have hba:Below w2.heap.size w2 (w2.alloc (.cells #[.int .i64 (-1),.int .i64 (-1),.int .i64 0,.int .i64 0] 29)):=(Below.refl _ w2).alloc (Nat.le_refl _) _;have hb13:=hb2.trans (hba.mono hb2.size);have hS3:=hS1.below hb13;have bF3:=BoxN.new w2 29 #[.int .i64 (-1),.int .i64 (-1),.int .i64 0,.int .i64 0];have hb03:=hb1.trans (hb13.mono hb1.size);clear hw hS1 hb2 hba hb13;have g0:=bF3.cell 0 (v:=.int .i64 (-1)) rfl;have g1:=bF3.cell 1 (v:=.int .i64 (-1)) rfl;have g2:=bF3.cell 2 (v:=.int .i64 0) rfl;have g3:=bF3.cell 3 (v:=.int .i64 0) rfl;generalize hfb:w2.heap.size=fb at *;have hI:=kIssue hS3 rootE (by simp) rfl [112] (by decide) (1+t) (1+a) (by omega) (by omega) (by omega) (by simp) (by omega) (by omega) (by omega) 0 0;rw [show (rootE.n)=0 from rfl,nm_t0] at hI;unfold fallV at hI
 go_wp2_with (first
  | (go_at_call_of 17 (Value.int .i64 y);refine(hP1 _).mono ?_;rintro e w3 ⟨rfl,rfl⟩)
  | (go_at_call_of 17 (Value.int .i64 x);refine(hP2 _).mono ?_;rintro e w4 ⟨rfl,rfl⟩)
  | (go_at_call 18;refine hI.mono ?_;rintro e w6 ⟨rfl,⟨c6,hc6,hS6⟩,hs6⟩))
 have bF6:=hs6.box bF3 (hS3.wh.no bF3 (by decide) (by decide));have hb06:Below w.heap.size w w6:=hb03.trans (hs6.below hb03.size (fun q hq=>hS3.low q hq))
 have hS6':Sys w.heap.size w6 hb rb ⟨kk,vx,100,⟨0,2,[rootE],[leaP (101+t) (101+a)]⟩,c6⟩:=by
  have e1:plusI 100 (1+t)=101+t:=by unfold plusI;split <;> omega
  have e2:plusI 100 (1+a)=101+a:=by unfold plusI;split <;> omega
  rw [e1,e2] at hS6;exact hS6
 clear hS6 hs6 hI hS3 bF3 hb03 g0 g1 g2 g3;have hF1:=kFail hS6' hb06.size (hS6'.cne (by simp)) (by show c6.length<4294967281;omega) 100 (by simp) (by omega) u u0 u1 0 (by omega);refine hF1.mono ?_;rintro e w7 ⟨rfl,⟨k7,vx7,tm7,htm7,hS7⟩,hB7,bs7,hs7,hq7⟩;have bF7:=hs7.box bF6 (fun hm=>by rcases hq7 _ hm _ _ bF6 with e | e <;> exact absurd e (by decide));have hb07:Below w.heap.size w w7:=hb06.trans hB7
 obtain rfl:tm7=100:=by simpa using htm7
 simp only at hS7;clear hF1 hS6' bF6 hb06 hB7 hs7 hq7 htm7;have g0:=bF7.cell 0 (v:=.int .i64 (-1)) rfl;have g1:=bF7.cell 1 (v:=.int .i64 (-1)) rfl;have g2:=bF7.cell 2 (v:=.int .i64 0) rfl;have g3:=bF7.cell 3 (v:=.int .i64 0) rfl;have hRn:=kRenew hS7 0 (leaP (101+t) (101+a)) rfl (by show (!false&&decide ((100:Int)<101+t))=true;simp;omega) r (by omega) (by omega) (show 1<500 by decide) (by omega) 0 0;rw [show (leaP (101+t) (101+a)).n=2 from rfl] at hRn;unfold fallV at hRn
 have e1:plusI 100 r=100+r:=by unfold plusI;split <;> omega
 have hren:renewL 100 (r:Int) (leaP (101+(t:Int)) (101+(a:Int)))=max (101+(t:Int)) (min (100+(r:Int)) (101+(a:Int))):=by
  show max (101+(t:Int)) (min (plusI 100 r) (101+a))=_
  rw [e1]
 obtain⟨W,hW⟩:∃ W:Int,max (101+(t:Int)) (min (100+(r:Int)) (101+(a:Int)))=W:=⟨_,rfl⟩
 rw [hren,hW] at hRn;clear hren e1;simp only [List.set_cons_zero] at hRn
 have hS8f:∀ {w':World} {c':List UInt8},Sys w.heap.size w' hb rb ⟨k7,vx7,100,⟨0,2,[rootE],[{ leaP (101+t) (101+a) with at_:=W }]⟩,c'⟩→Sys w.heap.size w' hb rb ⟨k7,vx7,100,⟨0,2,[rootE],[leaP W (101+a)]⟩,c'⟩:=fun h=>h
 go_wp2_with (first
  | (go_at_call 17;refine(hP3 _).mono ?_;rintro e w8 ⟨rfl,rfl⟩)
  | (go_at_call 20;refine hRn.mono ?_;rintro e w9 ⟨rfl,⟨c9,hc9,hS9⟩,hs9⟩))
 all_goals
  have hW1:101≤W∧W≤1000:=by omega
  first
   | rw [show 100+(1+(a:Int))=W by omega]
   | rw [show 100+(1+(t:Int))=W by omega]
   | rw [show 100+(r:Int)=W by omega]
  have hS9':=hS8f hS9;have bF9:=hs9.box bF7 (hS7.wh.no bF7 (by decide) (by decide));have hb09:Below w.heap.size w w9:=hb07.trans (hs9.below hb07.size (fun q hq=>hS7.low q hq));clear hS9 hs9 hRn hS7 bF7 hb07 g0 g1 g2 g3 hS8f hP1 hP2 hP3;refine(kFail hS9' hb09.size (hS9'.cne (by simp)) (by show c9.length<4294967281;omega) 100 (by simp) (by omega) u u0 u1 1 (by omega)).mono ?_;rintro e w10 ⟨rfl,⟨k10,vx10,tm10,htm10,hS10⟩,hB10,bs10,hs10,hq10⟩;have bF10:=hs10.box bF9 (fun hm=>by rcases hq10 _ hm _ _ bF9 with e | e <;> exact absurd e (by decide));have hb010:Below w.heap.size w w10:=hb09.trans hB10
  obtain rfl:tm10=100:=by simpa using htm10
  try simp only at hS10
  clear hS9' bF9 hb09 hB10 hs10 hq10 htm10;have hNx:=hNext hb k10.vb k10.mt k10.ml vx10 100 _ _ [rootE] [leaP W (101+a)] w10 _ _ hS10.host hS10.wh.v.va
  have hmin:minAt (infosOf 100 [rootE] [leaP W (101+a)])=W:=by
   simp [minAt,infosOf,TokE.info,LeaE.info,rootE,leaP,neverI];omega
  rw [hmin] at hNx
  go_wp2_with fail
  refine hNx.mono ?_;rintro e w11 ⟨rfl,hb11⟩;have hS11:=hS10.below hb11;have bF11:=bF10.below hb11 bF10.lt;have hb011:=hb010.trans (hb11.mono hb010.size);clear hNx hmin hS10 bF10 hb010 hb11;have g0:=bF11.cell 0 (v:=.int .i64 (-1)) rfl;have g1:=bF11.cell 1 (v:=.int .i64 (-1)) rfl;have g2:=bF11.cell 2 (v:=.int .i64 0) rfl;have g3:=bF11.cell 3 (v:=.int .i64 0) rfl;have hT1:=kTick1 hS11 hb011.size rfl rfl (show (0:Int)≤800000000 by decide) (by omega) 0 (W-1) (by omega) (by omega) (by omega) (by omega) 0 0;rw [show max 100 (W-1)=W-1 by omega,show tk1 (W-1) 0 (leaP W (101+a))=([leaP W (101+a)],[]) from if_neg (by show ¬ W≤W-1;omega)] at hT1;unfold fallV at hT1
  go_wp2_with (go_at_call 22;refine hT1.mono ?_;rintro e w12 ⟨vx12,v12,c12,rfl,hS12,-,hc12,hs12⟩)
  have bF12:=hs12.box bF11 (hS11.notTick bF11 (by decide) (by decide) (by decide) (by decide));have hb012:Below w.heap.size w w12:=hb011.trans (hs12.below hb011.size hS11.lowTick);clear hT1 hs12 hS11 bF11 hb011 g0 g1 g2 g3;have hA1:=kAuth hS12 (leaP W (101+a)) (by simp) [112];rw [show (((!(leaP W (101+a)).pd&&decide (W-1<(leaP W (101+a)).at_))&&((leaP W (101+a)).pth == [112])))=true by show ((!false&&decide (W-1<W))&&([112] == [112]))=true;simp;omega,show (leaP W (101+a)).n=2 from rfl] at hA1;refine hA1.mono ?_;rintro e w13 ⟨rfl,hb13⟩;have hS13:=hS12.below hb13;have bF13:=bF12.below hb13 bF12.lt;have hb013:=hb012.trans (hb13.mono hb012.size);clear hA1 hS12 bF12 hb012 hb13;have hF3:=kFail hS13 hb013.size (hS13.cne (by simp)) (by show c12.length<4294967281;omega) (W-1) (by simp) (by omega) u u0 u1 2 (by omega)
  go_wp2_with (go_at_call 19;refine hF3.mono ?_;rintro e w14 ⟨rfl,⟨k14,vx14,tm14,htm14,hS14⟩,hB14,bs14,hs14,hq14⟩)
  have bF14:=hs14.box bF13 (fun hm=>by rcases hq14 _ hm _ _ bF13 with e | e <;> exact absurd e (by decide));have hb014:Below w.heap.size w w14:=hb013.trans hB14
  obtain rfl:tm14=W-1:=by simpa using htm14
  try simp only at hS14
  clear hF3 hS13 bF13 hb013 hB14 hs14 hq14 htm14;have hA2:=kAuth hS14 (leaP W (101+a)) (by simp) [112];rw [show (((!(leaP W (101+a)).pd&&decide (W-1<(leaP W (101+a)).at_))&&((leaP W (101+a)).pth == [112])))=true by show ((!false&&decide (W-1<W))&&([112] == [112]))=true;simp;omega,show (leaP W (101+a)).n=2 from rfl] at hA2;refine hA2.mono ?_;rintro e w15 ⟨rfl,hb15⟩;have hS15:=hS14.below hb15;have hA3:=kAuth hS15 (leaP W (101+a)) (by simp) [113];rw [show (((!(leaP W (101+a)).pd&&decide (W-1<(leaP W (101+a)).at_))&&((leaP W (101+a)).pth == [113])))=false by show ((!false&&decide (W-1<W))&&([112] == [113]))=false;simp,show (leaP W (101+a)).n=2 from rfl] at hA3
  go_wp2_with fail
  refine hA3.mono ?_;rintro e w16 ⟨rfl,hb16⟩;have hb46:=hb15.trans (hb16.mono hb15.size);have hS16:=hS14.below hb46;have bF16:=bF14.below hb46 bF14.lt;have hb016:=hb014.trans (hb46.mono hb014.size);clear hA2 hA3 hS14 hS15 bF14 hb014 hb15 hb16 hb46;have g0:=bF16.cell 0 (v:=.int .i64 (-1)) rfl;have g1:=bF16.cell 1 (v:=.int .i64 (-1)) rfl;have g2:=bF16.cell 2 (v:=.int .i64 0) rfl;have g3:=bF16.cell 3 (v:=.int .i64 0) rfl;have hT2:=kTick1 hS16 hb016.size rfl rfl (show (0:Int)≤800000000 by decide) (by omega) 1 W (by omega) (by omega) (by omega) (by omega) 0 0;rw [show max (W-1) W=W by omega,tk1_fail W (101+a)] at hT2;unfold fallV at hT2
  go_wp2_with (go_at_call 22;refine hT2.mono ?_;rintro e w17 ⟨vx17,v17,c17,rfl,hS17,hrow,hc17,hs17⟩)
  have bF17:=hs17.box bF16 (hS16.notTick bF16 (by decide) (by decide) (by decide) (by decide));have hb017:Below w.heap.size w w17:=hb016.trans (hs17.below hb016.size hS16.lowTick);obtain⟨g,cap,rfl⟩:=row_some hrow (by simp);have s17:w17.cell? ⟨g,0,none⟩=some (.string ⟨(nmStr 2 2).toArray⟩):=hrow.cellAt 0 (by simp);obtain⟨-,cs17,bG17⟩:=row_box hrow (g:=g) rfl;clear hT2 hs17 hS16 bF16 hb016 g0 g1 g2 g3 hrow;have hA4:=kAuth hS17 (failL W (leaP W (101+a))) (by simp) [112];rw [show (((!(failL W (leaP W (101+a))).pd&&decide (W<(failL W (leaP W (101+a))).at_))&&((failL W (leaP W (101+a))).pth == [112])))=false by show ((!true&&_)&&_)=false;simp,show (failL W (leaP W (101+a))).n=2 from rfl] at hA4;refine hA4.mono ?_;rintro e w18 ⟨rfl,hb18⟩;have hS18:=hS17.below hb18;have bF18:=bF17.below hb18 bF17.lt;have hb018:=hb017.trans (hb18.mono hb017.size);have s18:=cell_later hb18 s17;have bG18:=bG17.below hb18 bG17.lt;clear hA4 hS17 bF17 hb017 hb18 s17 bG17;have g0:=bF18.cell 0 (v:=.int .i64 (-1)) rfl;have g1:=bF18.cell 1 (v:=.int .i64 (-1)) rfl;have g2:=bF18.cell 2 (v:=.int .i64 0) rfl;have g3:=bF18.cell 3 (v:=.int .i64 0) rfl;have hR5:=kRenewNo hS18 (failL W (leaP W (101+a))) (by simp) (by show (!true&&_)=false;simp) 5 0 0;rw [show (failL W (leaP W (101+a))).n=2 from rfl] at hR5;unfold fallV at hR5
  go_wp2_with (go_at_call 20;refine hR5.mono ?_;rintro e w19 ⟨rfl,hB19,hs19⟩;have s19:w19.cell? ⟨g,0,none⟩=some (.string ⟨(nmStr 2 2).toArray⟩):=(cell_of_block (hs19.block g bG18.lt (hS18.wh.no bG18 (by decide) (by decide))) 0).1.trans s18)
  go_ret;exact⟨rfl,hb018.trans hB19⟩
end Go.Proofs
