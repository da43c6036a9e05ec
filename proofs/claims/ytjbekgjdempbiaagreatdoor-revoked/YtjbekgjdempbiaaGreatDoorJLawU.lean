import Derived.Test.YtjbekgjdempbiaaGreatDoorJInvE
import Derived.Test.YtjbekgjdempbiaaGreatDoorJTkM
import Derived.Test.YtjbekgjdempbiaaGreatDoorJRefR
import Derived.BigQuiet
import Derived.Deep.AppendLies
import Derived.Test.YtjbekgjdempbiaaGreatDoorJAskTree
set_option maxRecDepth 100000
set_option maxHeartbeats 8000000
namespace Go.Proofs
open Go.RowKit Go.Sort Go.Lib Go.Shelf Go.Maps Go.WideMaps
theorem strRow_of {W:World} {B n:Nat} {v:Value} {xs:List (List UInt8)} (h:W.ownsRow B 9 1 v n (xs.map fun x=>.string ⟨x.toArray⟩)) (hn:xs.length=n):StrRow W v xs:=by
 rcases h.2 with⟨rfl,h0⟩ | ⟨g,cap,cur,rfl,-,hB,-⟩
 ·obtain rfl:xs = []:=List.length_eq_zero_iff.1 (by omega)
  exact⟨none,0,rfl,fun k x hk=>by simp at hk⟩
 ·refine⟨some ⟨g,0,none⟩,cap,by rw [hn],fun k x hk=>⟨g,rfl,BoxN.lt (show BoxN W g 9 cur from hB),?_⟩⟩
  have hk':=(List.getElem?_eq_some_iff.1 hk).1;have:=h.cellAt k (by omega)
  simpa [List.getElem?_map,hk] using this
theorem Tryz.htBs_own {B hb rb:Nat} {σ:SS} {W:World} (h:Sys B W hb rb σ):∀ b∈htBs σ.k rb σ.vx.due,B≤b∧¬ Foreign W b:=fun b hm=>by
 obtain⟨ra,rc,hr⟩:=h.rvb;simp only [htBs,tickBs,List.mem_append,List.mem_cons] at hm
 rcases hm with hm | rfl | e | e
 ·exact⟨h.low b hm,h.turns_own b hm⟩
 ·exact⟨h.rlow,fun hF=>hF.ne hr (by decide) rfl⟩
 ·simp [Value.ownBlock] at e
 ·obtain⟨hlo,cs,hB⟩:=row_box h.due (g:=b) (by simpa using e)
  exact⟨hlo,fun hF=>hF.ne hB (by decide) rfl⟩
abbrev TickP (wb hb sb:Nat) (ff ke pa:Int) (W:World):Prop:=(W.cell? ⟨wb,0,none⟩=some (.pointer (some ⟨hb,0,none⟩))∧W.cell? ⟨sb,5,none⟩=some (.int .u64 ff))∧W.cell? ⟨sb,6,none⟩=some (.int .i64 (-1))∧W.cell? ⟨sb,7,none⟩=some (.int .i64 (-1))∧W.cell? ⟨sb,8,none⟩=some (.int .i64 ke)∧W.cell? ⟨sb,9,none⟩=some (.int .i64 pa)
theorem tries_tm {tm:Int} {a b:TS} (_:Tries tm a b):∃ t,t=tm:=⟨_,rfl⟩
theorem TickP.drew {wb hb sb:Nat} {ff ke pa:Int} {W:World} (h:TickP wb hb sb ff ke pa W):TickP wb hb sb ff ke pa W.drew:=h
theorem Spares.thenL {bs bs':List Nat} {W W' W'':World} (h:Spares bs W W') (h':Spares bs' W' W'') (hg:∀ b∈bs',b∈bs∨W.heap.size≤b):Spares bs W W'':=
 ⟨h'.os.trans h.os,h'.tape.trans h.tape,h'.output.trans h.output,Nat.le_trans h.size h'.size,fun k hk hn=>(h'.block k (Nat.lt_of_lt_of_le hk h.size) (fun e=>by
  rcases hg k e with e1 | e1
  ·exact hn e1
  ·omega)).trans (h.block k hk hn)⟩
theorem ne_row {W:World} {o:Obj} {v:Value} {wb g:Nat} (hat:v.ownBlock=some g∨g=(W.alloc o).heap.size) (hnr:some wb≠v.ownBlock) (hl:wb<W.heap.size):g≠wb:=by
 rcases hat with e | e
 ·exact fun e'=>hnr (by rw [e,e'])
 ·rw [World.size_alloc] at e;omega
section
variable {B wb S j g6 cap6 g7 cap7:Nat} {wr w3 w4 w5 w6 w7 w8:World} {u9:Value} {ys:List Value} {L' L2:List ThingD} {tmx tr lr:Int} {cs:Array Value}
theorem Tryz.tickRow (hb4:Below wr.heap.size wr w4) (hb5:Below w4.heap.size w4 w5) (hb6:Below w5.heap.size w5 w6) (hsp7:Spares [w5.heap.size,g6] w6 w7) (hR6:RVAt w5.heap.size w6 w5.heap.size g6 cap6 L' tmx tr lr) (hrow:wr.ownsRow S 9 1 u9 j ys) (bW6:BoxN w6 wb 69 cs) (hwb:wb<wr.heap.size) :
  w7.ownsRow S 9 1 u9 j ys∧BoxN w7 wb 69 cs∧some wb≠u9.ownBlock∧wr.heap.size≤w5.heap.size∧w5.heap.size<w7.heap.size:=by
 have h4:=hb4.size;have h5:=hb5.size;have gl:=hR6.glow
 have hrl:∀ x,u9.ownBlock=some x→x<wr.heap.size:=fun x e=>by obtain⟨-,cs,hc⟩:=row_box hrow (g:=x) e;exact hc.lt
 have bW7:=hsp7.box bW6 (by simp;omega);have hrow7:=hsp7.row' (ownsRow_below (ownsRow_below (ownsRow_below hrow hb4) hb5) hb6) (fun x e=>by have:=hrl x e;simp;omega);exact⟨hrow7,bW7,bW7.not_row (e:=9) (by decide) hrow7,by omega,Nat.lt_of_lt_of_le hR6.v.lt hsp7.size⟩
theorem Tryz.tickRound {id:List UInt8} {vv:Value} (hgrow:(w7.alloc (.cells #[.string ⟨id.toArray⟩] 9)).grownBy w8 u9.ownBlock) (hR7:RVAt w5.heap.size w7 w5.heap.size g7 cap7 L2 tmx tr lr) (h4:wr.heap.size≤w4.heap.size) (h5:w4.heap.size≤w5.heap.size) (hwr:w3.heap.size≤wr.heap.size) (hrow:wr.ownsRow w3.heap.size 9 1 u9 j ys) (hspr:Spares [wb] w3 wr) (hb4:Below wr.heap.size wr w4) (hb5:Below w4.heap.size w4 w5) (hb6:Below w5.heap.size w5 w6) (hsp7:Spares [w5.heap.size,g6] w6 w7) (hR6:RVAt w5.heap.size w6 w5.heap.size g6 cap6 L' tmx tr lr) (hwb:wb<wr.heap.size) {g8 cap8 n8:Nat} {zs:List Value} (hg8:g8≠wb) :
  (w8.ownsRow w3.heap.size 9 1 (.slice (some ⟨g8,0,none⟩) n8 cap8) n8 zs→(w8.setCell ⟨wb,1,none⟩ vv).ownsRow w3.heap.size 9 1 (.slice (some ⟨g8,0,none⟩) n8 cap8) n8 zs)∧RVAt w5.heap.size (w8.setCell ⟨wb,1,none⟩ vv) w5.heap.size g7 cap7 L2 tmx tr lr∧Spares [wb] w3 (w8.setCell ⟨wb,1,none⟩ vv):=by
 have hrl:∀ x,u9.ownBlock=some x→w3.heap.size≤x∧x<wr.heap.size:=fun x e=>by obtain⟨h,cs,hc⟩:=row_box hrow (g:=x) e;exact⟨h,hc.lt⟩
 have hs8:Spares (wb :: u9.ownBlock.toList) w7 (w8.setCell ⟨wb,1,none⟩ vv):=(((Spares.of_below (Below.refl _ w7)).alloc _).trans (Spares.of_grown' hgrow (fun b hb=>by rw [hb];simp))).set (by simp) _ _
 have hmem:∀ x,x∈wb :: u9.ownBlock.toList→x=wb∨w3.heap.size≤x∧x<wr.heap.size:=fun x hx=>by
  rcases List.mem_cons.1 hx with e | e
  ·exact .inl e
  ·exact .inr (hrl x (by simpa using e))
 have gl7:=hR7.glow;have gl6:=hR6.glow;refine⟨fun h=>h.kept (grown_set w8 wb 1 vv) (.inr (by simp [Value.ownBlock];exact hg8)),hR7.spares hs8 (fun hx=>?_) (fun hx=>?_),((((hspr.trans (Spares.of_below hb4)).trans (Spares.of_below hb5)).trans (Spares.of_below hb6)).thenL hsp7 (fun b hb=>?_)).thenL hs8 (fun b hb=>?_)⟩
 ·rcases hmem _ hx with e | e <;> omega
 ·rcases hmem _ hx with e | e <;> omega
 ·simp only [List.mem_cons,List.not_mem_nil,or_false] at hb
  right
  omega
 ·rcases hmem _ hb with e | e
  ·left;simp [e]
  ·exact .inr e.1
end
theorem Tryz.tickInv {w0 w wr:World} {B N wb hb rb ra' g' cap':Nat} {σ:SS} {L L':List ThingD} {xs:List (List UInt8)} {tmx ff:Int} {k:Blk} {vx':VX} {b:TS} (hI:Inv w0 B N wb hb w) (hn:Nums N σ L) (hB:Below B w wr)
  (hS:Sys B wr hb rb ⟨k,vx',tmx,b.s,b.c⟩) (hR:RVAt B wr ra' g' cap' L' tmx ((σ.s.tn+1:Nat):Int) ((σ.s.ln+1:Nat):Int)) (hW:BoxN wr wb 69 #[.pointer (some ⟨hb,0,none⟩),.pointer (some ⟨ra',0,none⟩),.pointer none,.bool false,.bool false]) (hra:B≤ra')
  (hTs:Tries tmx ⟨σ.s,σ.s.tks.flatMap (dueT σ.s tmx)++σ.s.lks.flatMap (dueL tmx),ff,σ.c,[]⟩ b) (hT:Tk tmx ((48*N:Nat):Int) b b L' xs) (f0:0≤ff) (f1:ff≤18446744073709551615) (hc:b.cl.length≤150∧b.c.length≤σ.c.length+20000*b.cl.length)
  (hs:b.s.tn=σ.s.tn∧b.s.ln=σ.s.ln∧b.s.tks.length≤σ.s.tks.length∧b.s.lks.length≤σ.s.lks.length):Inv w0 B (N+1) wb hb wr:=by
 obtain⟨s1,s2,s3,s4⟩:=hs;obtain⟨c1,c2⟩:=hc;have nt:=hn.nt;have nl:=hn.nl;have hmost:=(hTs.most (M:=((48*N:Nat):Int)) ⟨hn.al.tree,QOk.start hn.al.tree,QNz.start hn.al.tree,hn.al.tr,f0,f1⟩).2
 have hq0:(σ.s.tks.flatMap (dueT σ.s tmx)++σ.s.lks.flatMap (dueL tmx)).length≤σ.s.tks.length+σ.s.lks.length:=by
  have h1:=flatDue_len (dueT σ.s tmx) (fun x=>by unfold dueT;split <;> simp) σ.s.tks;have h2:=flatDue_len (dueL tmx) (fun x=>by unfold dueL;split <;> simp) σ.s.lks;rw [List.length_append];omega
 have hcl:b.cl.length≤48:=by
  simp only [List.length_nil] at hmost;omega
 have hpos:0<b.s.tks.length:=by
  obtain⟨x,x1,x2,-⟩:=hT.hd;obtain⟨z,hz,-⟩:=hT.inv.rel.tok_mem (List.mem_of_getElem? x1) x2;exact List.length_pos_of_mem hz
 refine⟨hI.bel.trans hB,Nat.le_trans hI.hB hB.size,hI.bw,⟨rb,_,ra',g',cap',L',hS,by rw [s1,s2];exact hR,hT.inv.rel,hW,⟨?_,?_,hpos,?_,?_,?_,⟨hT.go.tree,?_,hT.old⟩,hT.hd⟩,hra⟩⟩
 ·show b.s.tks.length≤10;omega
 ·show b.s.lks.length≤14;omega
 ·have:=hn.tn;show b.s.tn≤N+1;omega
 ·have:=hn.ln;show b.s.ln≤N+1;omega
 ·have:=hn.c;show b.c.length≤(N+1)*40000000;omega
 ·have:=hT.go.tr
  exact⟨fun x hx=>by have:=this.1 x hx;omega,fun x hx=>by have:=this.2 x hx;omega⟩
theorem Tryz.okTick {w0:World} {B N wb hb:Nat} (w:World) (hI:Inv w0 B N wb hb w) (hN:N<16384) (ss tt:List UInt8) (aa bb ff:Int) (ha0:0≤aa) (ha1:aa≤18446744073709551615) (hb0':0≤bb) (hf0:0≤ff) (hf1:ff≤18446744073709551615) (ke pa:Int) :
  Calls prog 61 #[.pointer (some ⟨wb,0,none⟩),.agg (StepD.cells ⟨8,ss,tt,aa,bb,ff,-1,-1,ke,pa⟩)] w fun e w'=>e=.returned (.bool true)∧Inv w0 B (N+1) wb hb w':=by
 obtain⟨rb,σ,ra,g,cap,L,hS,hR,hl,hW,hn,hra⟩:=hI.ex
 obtain⟨tm,htm⟩:∃ tm,tm=σ.tm:=⟨_,rfl⟩
 have t0:=hS.wh.v.t0;have t1:=hS.wh.v.t1;rw [← htm] at t0 t1;have lW:=hW.lt;have hb0:Below w.heap.size w (w.alloc (.cells (StepD.cells ⟨8,ss,tt,aa,bb,ff,-1,-1,ke,pa⟩) 72)):=(Below.refl _ w).alloc (Nat.le_refl _) _;have bS:=BoxN.new w 72 (StepD.cells ⟨8,ss,tt,aa,bb,ff,-1,-1,ke,pa⟩);have bW0:=hW.alloc (.cells (StepD.cells ⟨8,ss,tt,aa,bb,ff,-1,-1,ke,pa⟩) 72);have w1c:=bW0.cell 1 (v:=.pointer (some ⟨ra,0,none⟩)) rfl;have hR0:=hR.below hb0;have r1c:=hR0.v.cell 1 (v:=.int .u64 tm) (by rw [htm];rfl);have s3c:=bS.cell 3 (v:=.int .u64 aa) rfl;have s4c:=bS.cell 4 (v:=.int .u64 bb) rfl
 have hT:=fun(W:World) (now:Int) (hSW:Sys B W hb rb σ) (hbw:B≤W.heap.size) (h0:0≤now) (h1:now≤18446744073709551615)=>hTick B hb rb σ W hSW hbw hn.al.tree (by have:=hn.nt;have:=hn.nl;omega) ((48*N:Nat):Int) (by omega) hn.al.tr (by have:=hn.c;omega) ff now hf0 hf1 h0 h1 ke pa
 unfold fallV at hT;have b9:=hS.b9;have hBw:=hI.hB;have hbw:=hI.bw;have HI:=hid_intro hI;simp only [StepD.cells] at *
 have key:∃ now:Int,0≤now∧now≤18446744073709551615∧(bb % 2=1∧now=aa∨bb % 2=0∧now=IntKind.u64.wrap (σ.tm+aa)):=by
  by_cases hodd:bb % 2=1
  ·exact⟨aa,ha0,ha1,.inl ⟨hodd,rfl⟩⟩
  ·refine⟨_,?_,?_,.inr ⟨by omega,rfl⟩⟩
   ·rw [IntKind.wrap_u64];omega
   ·rw [IntKind.wrap_u64];omega
 obtain⟨now,n0,n1,hnow⟩:=key
 rcases hnow with⟨hodd,hnow⟩ | ⟨hodd,hnow⟩
 all_goals
  replace hnow:=hnow.symm;subst hnow;go_enter func61,ntmps61
  go_wp2_with fail
  go_quiet (fail)
  go_wp2_with fail
  have hb1:=below_drewN hb0 nq;have bS1:=bS.below (below_drewN (Below.refl _ _) nq) bS.lt;have bW1:=bW0.below (below_drewN (Below.refl _ _) nq) bW0.lt;have hR1:=hR.below hb1.drew;have hS1:=hS.below hb1.drew;generalize (w.alloc (.cells #[.int .i64 8,.string ⟨ss.toArray⟩,.string ⟨tt.toArray⟩,.int .u64 aa,.int .u64 bb,.int .u64 ff,.int .i64 (-1),.int .i64 (-1),.int .i64 ke,.int .i64 pa] 72)).drewN nq=w1 at *
  have hP1:TickP wb hb w.heap.size ff ke pa w1:=⟨⟨bW1.cell 0 rfl,bS1.cell 5 rfl⟩,bS1.cell 6 rfl,bS1.cell 7 rfl,bS1.cell 8 rfl,bS1.cell 9 rfl⟩
  have hTk:=hT w1.drew _ hS1 (by have:=hb1.size;exact Nat.le_trans hBw this) n0 n1
  have fW:Foreign w1.drew wb:=⟨by omega,_,_,bW1,by decide⟩
  have fS:Foreign w1.drew w.heap.size:=⟨by omega,_,_,bS1,by decide⟩
  obtain⟨fA,fG⟩:=hR1.foreign b9 (by omega);have hown:=htBs_own hS1;have HB1:=hid_intro hb1;clear hT w1c hR0 r1c s3c s4c bW0 bS hb0 hb1;simp only [TickP] at hP1
  go_region_held3 (TickP wb hb w.heap.size ff ke pa) (first
   | with_reducible exact TickP.drew hP1
   | with_reducible assumption) (first | (go_at_call 22;refine hTk.mono ?_;rintro e w2 ⟨vx',v',b,rfl,hTs,hbq,hS2,hrow2,hgo2,hcl2,hsp2⟩;have bW2:=Spares.box (W:=w1.drew) hsp2 bW1 (fun hx=>(hown _ hx).2 fW);have bS2:=Spares.box (W:=w1.drew) hsp2 bS1 (fun hx=>(hown _ hx).2 fS);have hP2:TickP wb hb w.heap.size ff ke pa w2:=⟨⟨bW2.cell 0 rfl,bS2.cell 5 rfl⟩,bS2.cell 6 rfl,bS2.cell 7 rfl,bS2.cell 8 rfl,bS2.cell 9 rfl⟩))
  have hR2:=hR1.spares hsp2 (fun hx=>(hown _ hx).2 fA) (fun hx=>(hown _ hx).2 fG);have hB2:Below B w w2:=((hid_elim HB1).mono hBw).drew.trans (hsp2.below (by have:=(hid_elim HB1).size;exact Nat.le_trans hBw this) (fun b hb=>(hown b hb).1));have HB2:=hid_intro hB2;have lra:=hR.v.lt;have lgg:=hR.glt
  have ngw:wb≠g:=fun e=>by obtain⟨c,hc⟩:=hR2.gbox;exact bW2.ne hc (by decide) e
  have nrw:wb≠ra:=bW2.ne hR2.v (by decide);obtain⟨⟨q0,q5⟩,-⟩:=hP2;obtain⟨tmx,etm⟩:=tries_tm hTs;rw [← etm] at hTs hS2 hgo2;have gg:=hR.glow;clear hsp2 hown fW fS fA fG hB2 hP1 HB1 bW1 bS1 hR1 hS1 hTk;have q12:=bW2.cell 1 (v:=.pointer (some ⟨ra,0,none⟩)) rfl
  have hrd:=fun g' (e:v'.ownBlock=some g')=>row_box hrow2 (g:=g') e
  go_upto_region 9 with(first
   | (go_at_call 102;refine(rTell B ra g cap L σ.tm _ _ _ w2 hR2 hra hR2.ne).mono ?_;rintro e w3 ⟨rfl,hR3,-,hsp3⟩;rw [← etm] at hR3;have bW3:=hsp3.box bW2 (by simp [ngw,nrw]);have bS3:=hsp3.box bS2 (by simp;omega);have q53:=bS3.cell 5 (v:=.int .u64 ff) rfl;have q13:=bW3.cell 1 (v:=.pointer (some ⟨ra,0,none⟩)) rfl))
  have hrow3:=hsp3.row' hrow2 (fun g' e=>by
   obtain⟨-,cs,hc⟩:=hrd g' e;obtain⟨c,hg2⟩:=hR2.gbox;simp only [List.mem_cons,List.not_mem_nil,or_false,not_or]
   exact⟨hc.ne hR2.v (by decide),hc.ne hg2 (by decide)⟩)
  obtain⟨p,ccap,rfl,hcs⟩:=strRow_of (xs:=b.cl.map fun p=>nmStr p.1 p.2) (by rw [List.map_map];exact hrow3) (by simp)
  have hS3:Sys B w3 hb rb ⟨σ.k,vx',tmx,b.s,b.c⟩:=(loneSys B hb rb _).other hS2 hsp3 (fun x hx=>by
   obtain⟨f1,f2⟩:=hR2.foreign b9 (by omega);simp only [List.mem_cons,List.not_mem_nil,or_false] at hx
   rcases hx with rfl | rfl
   ·exact f1
   ·exact f2)
  obtain⟨n,hnn⟩:∃ n,b.cl.length=n:=⟨_,rfl⟩
  rw [List.length_map,hnn];rw [List.length_map,hnn] at hrow3;have hst:=Tk.start (M:=((48*N:Nat):Int)) hTs hbq hn.al rfl ⟨hS.wh.v.va.ok,hS.wh.v.nt,hS.wh.v.nl⟩ hl hn.hd hf0 hf1
  have hB3:Below B w w3:=(hid_elim HB2).trans (hsp3.below (by have:=(hid_elim HB2).size;omega) (fun b hb=>by
   simp only [List.mem_cons,List.not_mem_nil,or_false] at hb
   rcases hb with rfl | rfl <;> omega))
  have hfin:=fun(wr:World) (ra' g' cap':Nat) (L':List ThingD) (xs:List (List UInt8)) (hb':Below B w wr) (hS':Sys B wr hb rb ⟨σ.k,vx',tmx,b.s,b.c⟩) (hR':RVAt B wr ra' g' cap' L' tmx ((σ.s.tn+1:Nat):Int) ((σ.s.ln+1:Nat):Int)) hW' hra' (hT:Tk tmx ((48*N:Nat):Int) b b L' xs) hs'=>tickInv (w:=w) hI hn hb' hS' hR' hW' hra' hTs hT hf0 hf1 ⟨hcl2.1,hcl2.2.1⟩ hs'
  have h150:=hcl2.1;rw [hnn] at h150
  have htm0:0≤tmx:=by rw [etm];omega
  have hN1:=hN;have Hrow:=hid_intro hrow3;have HS3:=hid_intro hS3;have Hst:=hid_intro hst;have HB3:=hid_intro hB3;have Hfin:=hid_intro hfin;have Hnn:=hid_intro hnn;have l3:w.heap.size≤w3.heap.size:=hB3.size;clear hfin hrow3 hS3 hst hB3 hS hS2 hrow2 hR hR2 HB2 bW2 bS2 bS3 hW hl hn hI HI hcl2 hbq hgo2 hTs hrd hcs q0 q5 q12 hsp3 q53 hnn q13;go_wp2
  go_loopw [8,9,10,11] (fun fv tv bp iv wr=>∃(j:Nat) (a:TS) (L':List ThingD) (xs:List (List UInt8)) (ra' g' cap' pb:Nat),j≤n∧iv=.int .i64 j∧fv=.int .u64 a.fl∧bp=.pointer (some ⟨pb,0,none⟩)∧a.cl.length=j∧Hid (Tk tmx ((48*N:Nat):Int) b a L' xs)∧wr.ownsRow w3.heap.size 9 1 tv j (xs.map fun x=>.string ⟨x.toArray⟩)∧RVAt B wr ra' g' cap' L' tmx ((σ.s.tn+1:Nat):Int) ((σ.s.ln+1:Nat):Int)∧B≤ra'∧BoxN wr wb 69 #[.pointer (some ⟨hb,0,none⟩),.pointer (some ⟨ra',0,none⟩),.pointer none,.bool false,.bool false]∧Spares [wb] w3 wr∧Hid (a.s.tn=σ.s.tn∧a.s.ln=σ.s.ln∧a.s.tks.length≤σ.s.tks.length∧a.s.lks.length≤σ.s.lks.length)) (fun _ _ _ iv _=>n-(intOf iv).toNat)
  case atStart=>exact⟨0,_,L,[],ra,g,cap,ra,Nat.zero_le _,rfl,rfl,rfl,rfl,Hst,World.ownsRow_nil _ _ _ _,hR3,hra,bW3,Spares.of_below (Below.refl _ _),hid_intro ⟨rfl,rfl,Nat.le_refl _,Nat.le_refl _⟩⟩
  case round =>
   obtain⟨j,a,L',xs,ra',g',cap',pb,hj,rfl,rfl,rfl,haj,HT,hrow,hRr,hra',bWr,hspr,Hs⟩:=hrel;have hxl:xs.length=j:=(hid_elim HT).len.trans haj;have hDu:=rDue B ra' g' cap' L' tmx _ _ xs u9 wr hRr (strRow_of hrow hxl) (by omega);have c1:=bWr.cell 1 (v:=.pointer (some ⟨ra',0,none⟩)) rfl
   by_cases hjn:j<n
   ·obtain⟨c,i,th,kd,nm,hi,hdue,hcn,hid,hi0,⟨hm,ht0,ht1⟩,hcf,hccl,hcs,hbr⟩:=(hid_elim HT).step (by have:=hid_elim Hnn;omega)
    rw [hdue] at hDu;simp only [dueV] at hDu;have hil:i<L'.length:=(List.getElem?_eq_some_iff.1 hi).1;have hlim:=hRr.lim
    have hrc:∃ q,p=some ⟨q,0,none⟩∧q<wr.heap.size∧wr.cell? ⟨q,j,none⟩=some (.string ⟨th.id.toArray⟩):=by
     have hr:=hspr.row' (hid_elim Hrow) (fun g'' e=>by
      obtain⟨-,cs,hc⟩:=row_box (hid_elim Hrow) (g:=g'') e;simp only [List.mem_cons,List.not_mem_nil,or_false]
      exact hc.ne bW3 (by decide))
     obtain⟨p2,cap2,e2,h2⟩:=strRow_of (xs:=b.cl.map fun p=>nmStr p.1 p.2) (by rw [List.map_map];exact hr) (by rw [List.length_map];exact hid_elim Hnn);cases e2;have:=h2 j (nmStr kd nm) (by rw [List.getElem?_map,← haj,hcn];rfl);rw [← hid] at this;exact this
    obtain⟨q,rfl,hq,hqc⟩:=hrc;have hnum:=hRr.num th hm
    have hId:=fun W=>rId th hnum W
    have lra':=hRr.v.lt
    obtain⟨len,hlen⟩:∃ len,L'.length=len:=⟨_,rfl⟩
    have Hlen:=hid_intro hlen;rw [hlen] at hil hlim;clear hlen;have Hbr:=hid_intro hbr;have Hcs:=hid_intro hcs;have Hi:=hid_intro hi;simp only [ThingD.cells] at hId;have hf0:0≤a.fl:=(hid_elim HT).go.f0;have hf1:a.fl≤18446744073709551615:=(hid_elim HT).go.f1
    have hft:th.tries<1000000:=by omega
    clear hbr hcs hm hdue hid hcn
    obtain⟨idv,hidv⟩:∃ idv,th.id=idv:=⟨_,rfl⟩
    rw [hidv] at hqc;have Hidv:=hid_intro hidv;simp only [hidv] at hId;clear hidv;have bWl:=bWr.lt
    have hrl:∀ x,u9.ownBlock=some x→x<wr.heap.size:=fun x e=>by obtain⟨-,cs,hc⟩:=row_box hrow (g:=x) e;exact hc.lt
    obtain⟨i0,hi',hz0,hz1,hz2⟩:=info_parts strInfo
    have hfl2:a.fl % 2=1∨a.fl % 2=0:=by omega
    rcases hfl2 with hfl | hfl
    ·have hfl':(a.fl % 2==1)=true:=by simp [hfl]
     go_wp2_with (first
      | (go_at_call 104;refine hDu.mono ?_;rintro e w4 ⟨rfl,hb4⟩;have bW4:=bWr.below hb4 bWr.lt;have hR4:=hRr.below hb4;have d1:=bW4.cell 1 (v:=.pointer (some ⟨ra',0,none⟩)) rfl;have d4:=bW4.cell 4 (v:=.bool false) rfl;have d3:=bW4.cell 3 (v:=.bool false) rfl;have e0:=hR4.v.cell 0 (v:=.slice (some ⟨g',0,none⟩) len cap') (by rw [← hid_elim Hlen];rfl);obtain⟨x0,x1,x2,x3,x4,x5,x6,x7⟩:=hR4.cells (hid_elim Hi);have qc4:=(hb4.cell (p:=⟨q,j,none⟩) hq).trans hqc)
      | (go_at_call 105;refine(hId _).mono ?_;rintro e w5 ⟨rfl,hb5⟩;have bW5:=bW4.below hb5 bW4.lt;have hR5:=hR4.below hb5;have qc5:=(hb5.cell (p:=⟨q,j,none⟩) (Nat.lt_of_lt_of_le hq hb4.size)).trans qc4;have d15:=bW5.cell 1 (v:=.pointer (some ⟨ra',0,none⟩)) rfl)
      | (go_at_call 106;refine(rCopy B ra' g' cap' L' tmx _ _ _ hR5 (by rw [hid_elim Hlen];omega)).mono ?_;rintro e w6 ⟨g6,cap6,rfl,hR6,hb6⟩;have bW6:=bW5.below hb6 bW5.lt)
      | (go_at_call 107;refine(rTried_fail _ _ g6 cap6 L' tmx _ _ _ hR6 hb6.size hR6.ne htm0 i th (hid_elim Hi) ht0 hft).mono ?_;rintro e w7 ⟨rfl,hR7,hb7,hsp7⟩;obtain⟨hrow7,bW7,hnr,l5,l7⟩:=tickRow hb4 hb5 hb6 hsp7 hR6 hrow bW6 bWr.lt;have bS7:=BoxN.new w7 9 #[.string ⟨idv.toArray⟩])
      | (at_builtin;refine wpList_append_lies _ rfl _ _ 40 rfl w3.heap.size 9 i0 _ 1 16 underlying40 hi' hz0 hz1 hz2 rfl (by decide) _ _ _ rfl (hrow7.alloc _) ⟨w7.heap.size,0,none⟩ 1 1 [.string ⟨idv.toArray⟩] rfl rfl (World.news_of_block bS7) (by simp [Value.oneCell']) (by omega) (by unfold maxLen;omega) (by omega) (by have:=hspr.size;simp;omega) _ rfl ?_;intro g8 cap8 w8 hown hgrow hat hlt;have bW8:=(bW7.alloc (.cells #[.string ⟨idv.toArray⟩] 9)).kept hgrow hnr;have fz:=bW8.frozen 1;have d18:=bW8.cell 1 (v:=.pointer (some ⟨ra',0,none⟩)) rfl;have hg8:=ne_row hat hnr bW7.lt;have Hown:=hid_intro hown;have Hgrow:=hid_intro hgrow;clear hown hgrow hat hlt))
     go_roundw
     case rel =>
      have hT':Tk tmx ((48*N:Nat):Int) b c (L'.set i (failAt tmx th)) (xs ++ [th.id]):=by
       rcases hid_elim Hbr with⟨e1,hT⟩ | ⟨e1,hT⟩
       ·first
        | exact hT
        | (rw [hfl'] at e1;cases e1)
       ·first
        | exact hT
        | (rw [hfl'] at e1;cases e1)
      obtain⟨z1,z2,z3⟩:=tickRound (hid_elim Hgrow) hR7 hb4.size hb5.size hspr.size hrow hspr hb4 hb5 hb6 hsp7 hR6 bWr.lt hg8;obtain⟨y1,y2,y3,y4⟩:=hid_elim Hs;obtain⟨v1,v2,v3,v4⟩:=hid_elim Hcs;exact⟨j+1,c,_,_,_,_,_,ra',hjn,rfl,by rw [hcf],rfl,by omega,hid_intro hT',by rw [List.map_append,List.map_cons,List.map_nil,hid_elim Hidv];exact z1 (hid_elim Hown),z2.lower (by omega),by omega,bW8.set 1 _,z3,hid_intro ⟨v1.trans y1,v2.trans y2,by omega,by omega⟩⟩
     case measure=>simp [intOf];omega
    ·have hfl':(a.fl % 2==1)=false:=by simp [hfl]
     go_wp2_with (first
      | (go_at_call 104;refine hDu.mono ?_;rintro e w4 ⟨rfl,hb4⟩;have bW4:=bWr.below hb4 bWr.lt;have hR4:=hRr.below hb4;have d1:=bW4.cell 1 (v:=.pointer (some ⟨ra',0,none⟩)) rfl;have d4:=bW4.cell 4 (v:=.bool false) rfl;have d3:=bW4.cell 3 (v:=.bool false) rfl;have e0:=hR4.v.cell 0 (v:=.slice (some ⟨g',0,none⟩) len cap') (by rw [← hid_elim Hlen];rfl);obtain⟨x0,x1,x2,x3,x4,x5,x6,x7⟩:=hR4.cells (hid_elim Hi);have qc4:=(hb4.cell (p:=⟨q,j,none⟩) hq).trans hqc)
      | (go_at_call 105;refine(hId _).mono ?_;rintro e w5 ⟨rfl,hb5⟩;have bW5:=bW4.below hb5 bW4.lt;have hR5:=hR4.below hb5;have qc5:=(hb5.cell (p:=⟨q,j,none⟩) (Nat.lt_of_lt_of_le hq hb4.size)).trans qc4;have d15:=bW5.cell 1 (v:=.pointer (some ⟨ra',0,none⟩)) rfl)
      | (go_at_call 106;refine(rCopy B ra' g' cap' L' tmx _ _ _ hR5 (by rw [hid_elim Hlen];omega)).mono ?_;rintro e w6 ⟨g6,cap6,rfl,hR6,hb6⟩;have bW6:=bW5.below hb6 bW5.lt)
      | (go_at_call 107;refine(rTried_ok _ _ g6 cap6 L' tmx _ _ _ hR6 hb6.size (Nat.le_refl _) i hi0 (by rw [hid_elim Hlen];exact hil)).mono ?_;rintro e w7 ⟨g7,cap7,rfl,hR7,-,hb7,hsp7⟩;obtain⟨hrow7,bW7,hnr,l5,l7⟩:=tickRow hb4 hb5 hb6 hsp7 hR6 hrow bW6 bWr.lt;have bS7:=BoxN.new w7 9 #[.string ⟨idv.toArray⟩])
      | (at_builtin;refine wpList_append_lies _ rfl _ _ 40 rfl w3.heap.size 9 i0 _ 1 16 underlying40 hi' hz0 hz1 hz2 rfl (by decide) _ _ _ rfl (hrow7.alloc _) ⟨w7.heap.size,0,none⟩ 1 1 [.string ⟨idv.toArray⟩] rfl rfl (World.news_of_block bS7) (by simp [Value.oneCell']) (by omega) (by unfold maxLen;omega) (by omega) (by have:=hspr.size;simp;omega) _ rfl ?_;intro g8 cap8 w8 hown hgrow hat hlt;have bW8:=(bW7.alloc (.cells #[.string ⟨idv.toArray⟩] 9)).kept hgrow hnr;have fz:=bW8.frozen 1;have d18:=bW8.cell 1 (v:=.pointer (some ⟨ra',0,none⟩)) rfl;have hg8:=ne_row hat hnr bW7.lt;have Hown:=hid_intro hown;have Hgrow:=hid_intro hgrow;clear hown hgrow hat hlt))
     go_roundw
     case rel =>
      have hT':Tk tmx ((48*N:Nat):Int) b c (L'.eraseIdx i) (xs ++ [th.id]):=by
       rcases hid_elim Hbr with⟨e1,hT⟩ | ⟨e1,hT⟩
       ·first
        | exact hT
        | (rw [hfl'] at e1;cases e1)
       ·first
        | exact hT
        | (rw [hfl'] at e1;cases e1)
      obtain⟨z1,z2,z3⟩:=tickRound (hid_elim Hgrow) hR7 hb4.size hb5.size hspr.size hrow hspr hb4 hb5 hb6 hsp7 hR6 bWr.lt hg8;obtain⟨y1,y2,y3,y4⟩:=hid_elim Hs;obtain⟨v1,v2,v3,v4⟩:=hid_elim Hcs;exact⟨j+1,c,_,_,_,_,_,ra',hjn,rfl,by rw [hcf],rfl,by omega,hid_intro hT',by rw [List.map_append,List.map_cons,List.map_nil,hid_elim Hidv];exact z1 (hid_elim Hown),z2.lower (by omega),by omega,bW8.set 1 _,z3,hid_intro ⟨v1.trans y1,v2.trans y2,by omega,by omega⟩⟩
     case measure=>simp [intOf];omega
   ·obtain⟨hab,hdn⟩:=(hid_elim HT).stop (by have:=hid_elim Hnn;omega)
    rw [hdn] at hDu;simp only [dueV] at hDu;rw [hab] at HT Hs;clear hab
    go_wp2_with (go_at_call 104;refine hDu.mono ?_;rintro e w4 ⟨rfl,hb4⟩)
    go_ret;have hw4:=hb4.size;have hw3:=hspr.size;exact⟨rfl,hid_elim Hfin w4 ra' g' cap' L' xs ((hid_elim HB3).trans ((hspr.below (by omega) (fun x hx=>by rw [List.mem_singleton.1 hx];exact hbw)).trans (hb4.mono (by omega)))) (((loneSys B hb rb _).other (hid_elim HS3) hspr (fun x hx=>by rw [List.mem_singleton.1 hx];exact⟨by omega,_,_,bW3,by decide⟩)).below hb4) (hRr.below hb4) (bWr.below hb4 bWr.lt) hra' (hid_elim HT) (hid_elim Hs)⟩
end Go.Proofs
namespace Go.Proofs
open Go.RowKit Go.Sort Go.Lib Go.Shelf Go.Maps
theorem Tryz.stepT {w0:World} {B N M wb hb:Nat} (w:World) (hI:Inv w0 B N wb hb w) (ss tt:List UInt8) (aa bb ff fl fu ke pa:Int)
  (hA:∀ W,Inv w0 B N wb hb W→Calls prog 61 #[.pointer (some ⟨wb,0,none⟩),.agg (StepD.cells ⟨8,ss,tt,aa,bb,ff,-1,-1,0,0⟩)] W fun e w'=>e=.returned (.bool true)∧Inv w0 B M wb hb w') :
  Calls prog 39 #[.pointer (some ⟨wb,0,none⟩),.agg (StepD.cells ⟨8,ss,tt,aa,bb,ff,fl,fu,ke,pa⟩),.bool false] w fun e w'=>e=.returned (.bool true)∧Inv w0 B M wb hb w':=by
 obtain⟨rb,σ,ra,g,cap,L,-,-,-,hW,-⟩:=hI.ex;have lW:=hW.lt;have c3:=hW.cell 3 (v:=.bool false) rfl;have f3:=hW.frozen 3
 have hI3:=fun W (b:Below w.heap.size w W)=>(hI.below b).sick
 have hWl:=fun W=>well W
 unfold fallV at hWl;have hb0:Below w.heap.size w (w.alloc (.cells (StepD.cells ⟨8,ss,tt,aa,bb,ff,fl,fu,ke,pa⟩) 72)):=(Below.refl _ w).alloc (Nat.le_refl _) _;have bS:=BoxN.new w 72 (StepD.cells ⟨8,ss,tt,aa,bb,ff,fl,fu,ke,pa⟩);simp only [StepD.cells] at *;go_enter func39,ntmps39
 go_wp2_with (first
  | (go_at_call 16;refine(hWl _).mono ?_;rintro e w1 ⟨rfl,hb1⟩;have bS1:=bS.below hb1 (by simp);have y0:=bS1.cell 0 (v:=.int .i64 8) rfl;have y1:=bS1.cell 1 (v:=.string ⟨ss.toArray⟩) rfl;have y2:=bS1.cell 2 (v:=.string ⟨tt.toArray⟩) rfl;have y3:=bS1.cell 3 (v:=.int .u64 aa) rfl;have y4:=bS1.cell 4 (v:=.int .u64 bb) rfl;have y5:=bS1.cell 5 (v:=.int .u64 ff) rfl;have y6:=bS1.cell 6 (v:=.int .i64 fl) rfl;have y7:=bS1.cell 7 (v:=.int .i64 fu) rfl;have y8:=bS1.cell 8 (v:=.int .i64 ke) rfl;have y9:=bS1.cell 9 (v:=.int .i64 pa) rfl;have z6:=bS1.frozen 6;have z7:=bS1.frozen 7;have z8:=bS1.frozen 8;have z9:=bS1.frozen 9;have bW1:=(hW.alloc (.cells #[.int .i64 8,.string ⟨ss.toArray⟩,.string ⟨tt.toArray⟩,.int .u64 aa,.int .u64 bb,.int .u64 ff,.int .i64 fl,.int .i64 fu,.int .i64 ke,.int .i64 pa] 72)).below hb1 (by simp;omega);have x3:=bW1.cell 3 (v:=.bool false) rfl;have x3f:=bW1.frozen 3)
  | (go_at_call 61;refine(hA _ (hI3 _ (((((hb0.trans (hb1.mono (by simp))).setCell (p:=⟨w.heap.size,6,none⟩) (Nat.le_refl _) _).setCell (p:=⟨w.heap.size,7,none⟩) (Nat.le_refl _) _).setCell (p:=⟨w.heap.size,8,none⟩) (Nat.le_refl _) _).setCell (p:=⟨w.heap.size,9,none⟩) (Nat.le_refl _) _))).mono ?_;rintro e w2 ⟨rfl,hI2⟩;obtain⟨rb2,σ2,ra2,g2,cap2,L2,hS2,hR2,hl2,hW2,-⟩:=hI2.ex;have q0:=hW2.cell 0 (v:=.pointer (some ⟨hb,0,none⟩)) rfl;have q1:=hW2.cell 1 (v:=.pointer (some ⟨ra2,0,none⟩)) rfl)
  | (go_at_call 36;refine(hIs hb _ _ _ w2 hS2.host).mono ?_;rintro e w3 ⟨rfl,rfl⟩)
  | (go_at_call 38;refine(looks B wb hb ra2 g2 cap2 σ2.k.vb σ2.k.mt σ2.k.ml σ2.vx σ2.tm σ2.s.tn σ2.s.ln _ _ σ2.s.tks σ2.s.lks L2 _ _ _ _ _ _ _ hW2 hS2.host hS2.wh.v.va hR2 hl2).mono ?_;rintro e w4 ⟨rfl,hb4⟩))
 go_ret;exact⟨rfl,hI2.below hb4⟩
theorem Tryz.okAll {w0:World} {B N wb hb:Nat} (w:World) (hI:Inv w0 B N wb hb w) (hN:N<16384) (st:StepD) (hk:st.kind ∈ [1,2,3,4,5,6,7]) (hz:StepSmall st) (ho:StepOk st) :
  Calls prog 62 #[.pointer (some ⟨wb,0,none⟩),.agg (StepD.cells ⟨st.kind,st.s,st.t,st.a,st.b,st.f,-1,-1,0,0⟩)] w fun e w'=>e=.returned (.bool true)∧Inv w0 B (N+1) wb hb w':=by
 obtain⟨kind,ss,tt,aa,bb,ff,fl,fu,ke,pa⟩:=st;obtain⟨⟨o1,o2⟩,⟨o3,o4⟩,-⟩:=ho;unfold StepSmall at hz;simp only at hz o1 o2 o3 o4 hk ⊢;simp only [List.mem_cons,List.not_mem_nil,or_false] at hk
 rcases hk with rfl | rfl | rfl | rfl | rfl | rfl | rfl
 ·exact okToken w hI (by omega) ss tt (by omega) aa bb ff 0 0
 ·exact okIssue w hI (by omega) ss tt (by omega) (by omega) aa bb ff 0 0 o1 o2 o3 o4
 ·exact okRenew w hI (by omega) ss tt (by omega) aa bb ff 0 0 o1 o2
 ·exact okAuth w hI ss tt (by omega) aa bb ff (-1) (-1) 0 0
 ·exact okRevoke w hI (by omega) ss tt (by omega) aa bb ff 0 0
 ·exact okPrefix w hI (by omega) ss tt (by omega) aa bb ff 0 0
 ·exact okTree w hI (by omega) ss tt (by omega) aa bb ff 0 0
theorem Tryz.keepsRevoked (w:World) (S:List StepD):Keeps w S [1,2,3,4,5,6,7,8] false (fun wb hb k W=>Inv w w.heap.size k wb hb W) where
 bel h:=h.bel
 later h hb:=h.below hb
 more h:=h.more (by omega)
 start h:=h
 step:=fun {wb hb k W st} hk _ hz ho hin h=>by
  by_cases h8:st.kind=8
  ·obtain⟨kind,ss,tt,aa,bb,ff,fl,fu,ke,pa⟩:=st
   obtain⟨⟨o1,o2⟩,⟨o3,o4⟩,o5,o6⟩:=ho;simp only at h8 o1 o2 o3 o4 o5 o6;subst h8;exact stepT W h ss tt aa bb ff fl fu ke pa (fun W' h'=>okTick W' h' hk ss tt aa bb ff o1 o2 o3 o5 o6 0 0)
  ·simp only [List.mem_cons,List.not_mem_nil,or_false] at hin
   exact step W h st.kind (by simpa using h8) (by simp;omega) st.s st.t st.a st.b st.f st.fl st.fu st.ke st.pa (fun W' h'=>okAll W' h' hk st (by simp only [List.mem_cons,List.not_mem_nil,or_false];omega) hz ho)
theorem Tryz.revoked (p:Option Addr) (cap:Nat) (S:List StepD) (w:World) (hS:SliceAt w p S) (hpl:S ≠ []→∀ a,p=some a→a.block<w.heap.size) (hl:S.length≤281474976710656) (hz:∀ st∈S,st.s.length≤281474976710656∧st.t.length≤281474976710656) (hok:∀ st∈S,StepOk st) (h9:9≤w.heap.size) (hE:Env w) (hT:ErrT w) :
  Calls prog 4 #[.slice p S.length cap] w fun e w'=>e=.returned (.bool true)∧Below w.heap.size w w':=by
 have hb0:Below w.heap.size w (w.alloc (.cells #[.int .i64 1,.int .i64 2,.int .i64 3,.int .i64 4,.int .i64 5,.int .i64 6,.int .i64 7,.int .i64 8] 3)):=(Below.refl _ w).alloc (Nat.le_refl _) _;have bK:=BoxN.new w 3 #[.int .i64 1,.int .i64 2,.int .i64 3,.int .i64 4,.int .i64 5,.int .i64 6,.int .i64 7,.int .i64 8]
 have hP:=playsG p cap w.heap.size [1,2,3,4,5,6,7,8] false S _ _ (hS.below hb0 hpl) (fun hne a e=>by have:=hpl hne a e;simp;omega) hl hz hok (fun j v hv=>bK.cell j (by
  match j,hv with
  | 0,hv | 1,hv | 2,hv | 3,hv | 4,hv | 5,hv | 6,hv | 7,hv=>simpa using hv)) bK.lt (by decide) (by simp;omega) (hE.below hb0 (Nat.le_trans (by decide) h9)) (hT.below (hb0.mono h9)) (keepsRevoked _ S)
 go_enter func4,ntmps4
 go_wp2_with (go_at_call 14;refine hP.mono ?_;rintro e w1 ⟨rfl,hb1⟩)
 go_ret;exact⟨rfl,hb0.trans (hb1.mono (by simp))⟩
end Go.Proofs
