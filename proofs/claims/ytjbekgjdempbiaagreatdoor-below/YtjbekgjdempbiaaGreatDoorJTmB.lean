import Derived.Test.YtjbekgjdempbiaaGreatDoorJLawA
import Derived.Test.YtjbekgjdempbiaaGreatDoorJQueA
set_option maxRecDepth 100000
set_option maxHeartbeats 8000000
namespace Go.Proofs
open Go.RowKit Go.Sort Go.Lib Go.Shelf Go.Maps Go.WideMaps
def pickI (c n:Int):Int:=(if c<0 then -(c+1) else c) % n
theorem Tryz.kPick (c n:Int) (h0 : -9223372036854775808≤c) (h1:c≤9223372036854775807) (hn:0<n) (hn1:n≤1000) (w:World) :
  Calls prog 17 #[.int .i64 c,.int .i64 n] w fun e w'=>e=.returned (.int .i64 (pickI c n))∧w'=w:=by
 by_cases hc:c<0
 ·have hp:Hid (pickI c n = -(c+1) % n):=hid_intro (by simp [pickI,hc])
  generalize pickI c n=r at *;go_enter func17,ntmps17;go_wp2;go_ret;refine⟨ret_int ?_,rfl⟩;rw [hid_elim hp,← Int.neg_tmod,Int.tmod_eq_emod_of_nonneg (by omega)]
 ·have hp:Hid (pickI c n=c % n):=hid_intro (by simp [pickI,hc])
  generalize pickI c n=r at *;go_enter func17,ntmps17;go_wp2;go_ret;exact⟨ret_int (hid_elim hp).symm,rfl⟩
theorem pick_nat (c n:Int) (hn:0<n):∃ k:Nat,pickI c n=(k:Int)∧(k:Int)<n:=by
 have h1:=Int.emod_nonneg (if c<0 then -(c+1) else c) (show n≠0 by omega);have h2:=Int.emod_lt_of_pos (if c<0 then -(c+1) else c) hn;exact⟨(pickI c n).toNat,by unfold pickI;omega,by unfold pickI;omega⟩
theorem tmL_eq:∀ {ls:List LineD} {now:Int},(∀ l∈ls,l.tm≤now)→tmL now ls=now
 | [],_,_=>rfl
 | a :: ls,now,h=>by
  have h1:=h a (by simp)
  show tmL (max now a.tm) ls=now
  rw [show max now a.tm=now by omega];exact tmL_eq (fun l hl=>h l (List.mem_cons_of_mem _ hl))
theorem oldS_some {fd:Option (Nat × List UInt8)} {c:List UInt8} (h:oldS fd=c) (hc:c ≠ []):∃ b,fd=some (b,c):=by
 cases fd with
 | none=>exact absurd h.symm hc
 | some p =>
  obtain⟨b,x⟩:=p;have:x=c:=h;exact⟨b,by rw [this]⟩
theorem boxN_type {W:World} {b:Nat} {t t':TypeId} {cs cs':Array Value} (h:BoxN W b t cs) (h':BoxN W b t' cs'):t=t':=by
 have e:=h.symm.trans h';simp at e;exact e.2
theorem Tryz.lost {B hb rb:Nat} {σ:SS} {w:World} (hS:Sys B w hb rb σ) (hbw:B≤w.heap.size) (hc:σ.c ≠ []) (hl:σ.c.length<4294967281) (now:Int) (htm:σ.tm≤now) (hn1:now≤18446744073709551615) (ke pa:Int) (p0 : -9223372036854775808≤pa) (p1:pa≤9223372036854775807) :
  Calls prog 32 #[.pointer (some ⟨hb,0,none⟩),.int .i64 ke,.int .i64 pa] w fun e w1=>e=.returned (.tuple #[])∧Spares [hb,σ.k.db] w w1∧∀ w2,Below w1.heap.size w1 w2→∀ cc dd:Int,
   Calls prog 33 #[.pointer (some ⟨hb,0,none⟩),.int .u64 now,fallV (-1) (-1) cc dd] w2 fun e w'=>e=.returned (.int .i64 0)∧(∃ k vx,Sys B w' hb rb ⟨k,vx,now,σ.s,σ.c⟩)∧Below B w2 w'∧Spares [hb,σ.k.db] w2 w':=by
 obtain⟨k,vx,tm,s,c⟩:=σ;simp only at hc hl htm ⊢;obtain⟨fd,fn,hD,e1,e2⟩:=hS.wh.d;obtain⟨bd,rfl⟩:=oldS_some e1 hc;obtain⟨ls,hok,hs,hcc,hle⟩:=hS.wh.log.ex;simp only at hs hcc hle
 have hnel:ls ≠ []:=fun e=>by rw [e] at hcc;exact hc hcc
 obtain⟨ra,rc,hR⟩:=hS.rvb;have t0:=hS.wh.v.t0;simp only at t0;have hh:=hS.host;simp only at hh;have hdb:=hD.box;have ltm:=hS.wh.turns9;have b9:=hS.b9;have lo:=hS.low;have hlow:=hS.hlow;have low1:B≤k.db:=lo k.db (by simp [Blk.turns]);have low2:B≤k.md:=lo k.md (by simp [Blk.turns]);have hnr:=hh.ne hR (by decide);have hdr:=hdb.ne hR (by decide);refine(hLose_one hb k.db rb k.md k.mn bd _ c fn _ _ ke pa p0 p1 w hh hD).mono ?_;rintro e w1 ⟨rfl,bH1,mn',hge,hD1,hS1⟩;refine⟨rfl,hS1,fun w2 hb2 cc dd=>?_⟩;have hz:=hS1.size
 have hBw:Below B w w2:=(hS1.below hbw (fun b hb=>by
  simp only [List.mem_cons,List.not_mem_nil,or_false] at hb
  rcases hb with rfl | rfl
  ·exact hlow
  ·exact low1)).trans (hb2.mono (by omega))
 have hR2:=(hS1.box hR (by simp only [List.mem_cons,List.not_mem_nil,or_false,not_or];exact⟨Ne.symm hnr,Ne.symm hdr⟩)).below hb2 (Nat.lt_of_lt_of_le hR.lt hz);subst hs hcc;have h:=hOpen_one B hb k.db rb k.md mn' bd bd _ ra rc (-1) (-1) now cc dd ls hok hnel hl w2 (bH1.below hb2 bH1.lt) (hD1.below hb2) hR2 ⟨hlow,low1,hS.rlow,low2,by omega⟩ (by have:=hb2.size;omega) b9 (hS.wh.v.va.env.below hBw (Nat.le_trans (by decide) b9)) (hS.err.below (hBw.mono b9)) (by omega) hn1;rw [tmL_eq (fun l hl=>Int.le_trans (hle l hl) htm)] at h;exact h
theorem Tryz.kFail {B hb rb:Nat} {σ:SS} {w:World} (hS:Sys B w hb rb σ) (hbw:B≤w.heap.size) (hc:σ.c ≠ []) (hl:σ.c.length<4294967281) (now:Int) (htm:σ.tm≤now) (hn1:now≤18446744073709551615) (lose:Int) (l0 : -9223372036854775808≤lose) (l1:lose≤9223372036854775807) (i:Nat) (hi:i<8) :
  Calls prog 19 #[.pointer (some ⟨hb,0,none⟩),.int .i64 lose,.int .i64 i,.int .u64 now] w fun e w'=>e=.returned (.bool true)∧(∃ k vx tm',(tm'=σ.tm∨tm'=now)∧Sys B w' hb rb ⟨k,vx,tm',σ.s,σ.c⟩)∧Below B w w'∧∃ bs,Spares bs w w'∧∀ b∈bs,∀ t cs,BoxN w b t cs→t=78∨t=100:=by
 have hP:=fun W=>kPick lose 256 l0 l1 (by omega) (by omega) W
 have hw:=fun W=>well W
 have hL:=lost hS hbw hc hl now htm hn1 lose 0 (by omega) (by omega);obtain⟨p,hp,hp256⟩:=pick_nat lose 256 (by omega);rw [hp] at hP;unfold fallV at hw hL;go_enter func19,ntmps19
 go_wp2_with (go_at_call 17;refine(hP _).mono ?_;rintro e w1 ⟨rfl,rfl⟩)
 rotate_left
 ·refine hL.mono ?_
  rintro e w2 ⟨rfl,hS2,hO⟩
  go_wp2_with fail
  refine(hw _).mono ?_;rintro e w3 ⟨rfl,hb3⟩;have hO3:=hO w3 hb3 0 0
  go_wp2_with (go_at_call 33;refine hO3.mono ?_;rintro e w4 ⟨rfl,⟨k',vx',hS4⟩,hB4,hS4'⟩)
  go_ret;have hSp:Spares [hb,σ.k.db] w1 w4:=(hS2.trans (Spares.of_below hb3)).trans hS4';obtain⟨fd,fn,hD,-,-⟩:=hS.wh.d;refine⟨rfl,⟨k',vx',now,.inr rfl,hS4⟩,hSp.below hbw (fun b hb'=>?_),_,hSp,fun b hb' t cs hB=>?_⟩
  ·simp only [List.mem_cons,List.not_mem_nil,or_false] at hb'
   rcases hb' with rfl | rfl
   ·exact hS.hlow
   ·exact hS.low _ (by simp [Blk.turns])
  ·simp only [List.mem_cons,List.not_mem_nil,or_false] at hb'
   rcases hb' with rfl | rfl
   ·exact .inl (boxN_type hB hS.host)
   ·exact .inr (boxN_type hB hD.box)
 ·go_ret
  exact⟨rfl,⟨σ.k,σ.vx,σ.tm,.inl rfl,hS⟩,Below.refl _ _,[],Spares.of_below (Below.refl _ _),by simp⟩
theorem Tryz.Sys.cne {B hb rb:Nat} {σ:SS} {w:World} (hS:Sys B w hb rb σ) (h:σ.s.ln≠0):σ.c ≠ []:=fun e=>by
 obtain⟨ls,-,hs,hc,-⟩:=hS.wh.log.ex;rw [hc] at e;have h1:=lines_le ls;rw [e] at h1;have h2:ls = []:=List.eq_nil_of_length_eq_zero (by simpa using h1);rw [hs,h2] at h;exact h rfl
def tk1 (tm f:Int) (l:LeaE):List LeaE × List (Int × Nat):=if l.at_≤tm then (if (f % 2==1)=true then ([failL tm l],[(2,l.n)]) else ([],[(2,l.n)])) else ([l],[])
section
variable {B hb rb:Nat} {k:Blk} {vx:VX} {tm:Int} {tn ln:Nat} {tks:List TokE} {lks:List LeaE} {c:List UInt8} {w:World}
end
def leaP (at_ last:Int):LeaE:=⟨2,1,0,at_,0,false,[112],last⟩
end Go.Proofs
