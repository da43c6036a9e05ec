import Derived.Test.YtjbekgjdempbiaaGreatDoorJInvE
import Derived.Test.YtjbekgjdempbiaaGreatDoorJRefR
import Derived.Test.YtjbekgjdempbiaaGreatDoorJKpB
import Derived.Test.YtjbekgjdempbiaaGreatDoorJRefQ
import Derived.BigQuiet
import Derived.Deep.AppendLies
set_option maxRecDepth 100000
set_option maxHeartbeats 8000000
namespace Go.Proofs
open Go.RowKit Go.Sort Go.Lib Go.Shelf Go.Maps Go.WideMaps
theorem Up {W:World} {B n:Nat} {v:Value} {xs:List (List UInt8)} (h:W.ownsRow B 9 1 v n (xs.map fun x=>.string ⟨x.toArray⟩)) (hn:xs.length=n):Xrq W v xs:=by
 rcases h.2 with⟨rfl,h0⟩ | ⟨g,cap,cur,rfl,-,hB,-⟩
 ·obtain rfl:xs = []:=List.length_eq_zero_iff.1 (by omega)
  exact⟨none,0,rfl,fun k x hk=>by simp at hk⟩
 refine⟨some ⟨g,0,none⟩,cap,by rw [hn],fun k x hk=>⟨g,rfl,BoxN.lt (show BoxN W g 9 cur from hB),?_⟩⟩;have hk':=(List.getElem?_eq_some_iff.1 hk).1;have:=h.cellAt k (by omega)
 simpa [List.getElem?_map,hk] using this
theorem Tryz.Xkb {B hb rb:Nat} {σ:SS} {W:World} (h:Sys B W hb rb σ):∀ b∈Xis σ.k rb σ.vx.due,B<=b/\¬ X1 W b:=fun b hm=>by
 obtain⟨ra,rc,hr⟩:=h.rvb;simp only [Xis,X8,List.mem_append,List.mem_cons] at hm
 rcases hm with hm | rfl | e | e
 ·exact⟨h.low b hm,h.Xhm b hm⟩
 ·exact⟨h.rlow,fun hF=>hF.ne hr (by decide) rfl⟩
 ·simp [Value.ownBlock] at e
 obtain⟨hlo,cs,hB⟩:=Xm h.due (g:=b) (by simpa using e);exact⟨hlo,fun hF=>hF.ne hB (by decide) rfl⟩
abbrev Xdd (wb hb sb:Nat) (ff ke pa:Int) (W:World):Prop:=(W.cell? ⟨wb,0,none⟩=some (.pointer (some ⟨hb,0,none⟩))/\W.cell? ⟨sb,5,none⟩=some (.int .u64 ff))/\W.cell? ⟨sb,6,none⟩=some (.int .i64 (-1))/\W.cell? ⟨sb,7,none⟩=some (.int .i64 (-1))/\W.cell? ⟨sb,8,none⟩=some (.int .i64 ke)/\W.cell? ⟨sb,9,none⟩=some (.int .i64 pa)
theorem Xpy {tm:Int} {a b:TS} (_:Jv tm a b):∃ t,t=tm:=⟨_,rfl⟩
theorem Xdd.drew {wb hb sb:Nat} {ff ke pa:Int} {W:World} (h:Xdd wb hb sb ff ke pa W):Xdd wb hb sb ff ke pa W.drew:=h
theorem Spares.Xnw {bs bs':List Nat} {W W' W'':World} (h:Spares bs W W') (h':Spares bs' W' W'') (hg:∀ b∈bs',b∈bs\/W.heap.size<=b):Spares bs W W'':=
 ⟨h'.os.trans h.os,h'.tape.trans h.tape,h'.output.trans h.output,Nat.le_trans h.size h'.size,fun k hk hn=>(h'.block k (Nat.lt_of_lt_of_le hk h.size) (fun e=>by
  rcases hg k e with e1 | e1
  ·exact hn e1
  omega)).trans (h.block k hk hn)⟩
theorem Xp6 {W:World} {o:Obj} {v:Value} {wb g:Nat} (hat:v.ownBlock=some g\/g=(W.alloc o).heap.size) (hnr:some wb≠v.ownBlock) (hl:wb<W.heap.size):g≠wb:=by
 rcases hat with e | e
 ·exact fun e'=>hnr (by rw [e,e'])
 rw [World.size_alloc] at e;omega
section
variable {B wb S j g6 cap6 g7 cap7:Nat} {wr w3 w4 w5 w6 w7 w8:World} {u9:Value} {ys:List Value} {L' L2:List ThingD} {tmx tr lr:Int} {cs:Array Value}
theorem Tryz.Xnt (hb4:Below wr.heap.size wr w4) (hb5:Below w4.heap.size w4 w5) (hb6:Below w5.heap.size w5 w6) (hsp7:Spares [w5.heap.size,g6] w6 w7) (hR6:Xk w5.heap.size w6 w5.heap.size g6 cap6 L' tmx tr lr) (hrow:wr.ownsRow S 9 1 u9 j ys) (bW6:BoxN w6 wb 69 cs) (hwb:wb<wr.heap.size) :
  w7.ownsRow S 9 1 u9 j ys/\BoxN w7 wb 69 cs/\some wb≠u9.ownBlock/\wr.heap.size<=w5.heap.size/\w5.heap.size<w7.heap.size:=by
 have h4:=hb4.size;have h5:=hb5.size;have gl:=hR6.Xpf
 have hrl:∀ x,u9.ownBlock=some x->x<wr.heap.size:=fun x e=>by obtain⟨-,cs,hc⟩:=Xm hrow (g:=x) e;exact hc.lt
 have bW7:=hsp7.box bW6 (by simp;omega);have hrow7:=hsp7.J2 (ownsRow_below (ownsRow_below (ownsRow_below hrow hb4) hb5) hb6) (fun x e=>by have:=hrl x e;simp;omega);exact⟨hrow7,bW7,bW7.not_row (e:=9) (by decide) hrow7,by omega,Nat.lt_of_lt_of_le hR6.v.lt hsp7.size⟩
theorem Tryz.Xhd {id:List UInt8} {vv:Value} (hgrow:(w7.alloc (.cells #[.string ⟨id.toArray⟩] 9)).grownBy w8 u9.ownBlock) (hR7:Xk w5.heap.size w7 w5.heap.size g7 cap7 L2 tmx tr lr) (h4:wr.heap.size<=w4.heap.size) (h5:w4.heap.size<=w5.heap.size) (hwr:w3.heap.size<=wr.heap.size) (hrow:wr.ownsRow w3.heap.size 9 1 u9 j ys) (hspr:Spares [wb] w3 wr) (hb4:Below wr.heap.size wr w4) (hb5:Below w4.heap.size w4 w5) (hb6:Below w5.heap.size w5 w6) (hsp7:Spares [w5.heap.size,g6] w6 w7) (hR6:Xk w5.heap.size w6 w5.heap.size g6 cap6 L' tmx tr lr) (hwb:wb<wr.heap.size) {g8 cap8 n8:Nat} {zs:List Value} (hg8:g8≠wb) :
  (w8.ownsRow w3.heap.size 9 1 (.slice (some ⟨g8,0,none⟩) n8 cap8) n8 zs->(w8.setCell ⟨wb,1,none⟩ vv).ownsRow w3.heap.size 9 1 (.slice (some ⟨g8,0,none⟩) n8 cap8) n8 zs)/\Xk w5.heap.size (w8.setCell ⟨wb,1,none⟩ vv) w5.heap.size g7 cap7 L2 tmx tr lr/\Spares [wb] w3 (w8.setCell ⟨wb,1,none⟩ vv):=by
 have hrl:∀ x,u9.ownBlock=some x->w3.heap.size<=x/\x<wr.heap.size:=fun x e=>by obtain⟨h,cs,hc⟩:=Xm hrow (g:=x) e;exact⟨h,hc.lt⟩
 have hs8:Spares (wb :: u9.ownBlock.toList) w7 (w8.setCell ⟨wb,1,none⟩ vv):=(((Spares.of_below (Below.refl _ w7)).alloc _).trans (Spares.Xaw hgrow (fun b hb=>by rw [hb];simp))).set (by simp) _ _
 have hmem:∀ x,x∈wb :: u9.ownBlock.toList->x=wb\/w3.heap.size<=x/\x<wr.heap.size:=fun x hx=>by
  rcases List.mem_cons.1 hx with e | e
  ·exact .inl e
  exact .inr (hrl x (by simpa using e))
 have gl7:=hR7.Xpf;have gl6:=hR6.Xpf;refine⟨fun h=>h.kept (Vw w8 wb 1 vv) (.inr (by simp [Value.ownBlock];exact hg8)),hR7.Zz hs8 (fun hx=>?_) (fun hx=>?_),((((hspr.trans (Spares.of_below hb4)).trans (Spares.of_below hb5)).trans (Spares.of_below hb6)).Xnw hsp7 (fun b hb=>?_)).Xnw hs8 (fun b hb=>?_)⟩
 ·rcases hmem _ hx with e | e <;> omega
 ·rcases hmem _ hx with e | e <;> omega
 ·simp only [List.mem_cons,List.not_mem_nil,or_false] at hb
  right
  omega
 rcases hmem _ hb with e | e
 ·left;simp [e]
 exact .inr e.1
end
theorem Xeo.most {N:Nat} {σ:SS} {L:List ThingD} (hn:Xeo N σ L) {tmx ff:Int} {b:TS} (hTs:Jv tmx ⟨σ.s,σ.s.tks.flatMap (Yv σ.s tmx)++σ.s.lks.flatMap (Zw tmx),ff,σ.c,[]⟩ b) (f0:0<=ff) (f1:ff<=18446744073709551615):b.cl.length<=48:=by
 have nt:=hn.nt;have nl:=hn.nl;have hmost:=(hTs.most (M:=((48*N:Nat):Int)) ⟨hn.al.tree,QOk.start hn.al.tree,QNz.start hn.al.tree,hn.al.tr,f0,f1⟩).2;have h1:=Y0 (Yv σ.s tmx) (fun x=>by unfold Yv;split <;> simp) σ.s.tks;have h2:=Y0 (Zw tmx) (fun x=>by unfold Zw;split <;> simp) σ.s.lks;simp only [List.length_nil,List.length_append] at hmost;omega
theorem Tryz.Xnp {w0 wr:World} {B N wb hb rb ra' g' cap':Nat} {σ:SS} {L L':List ThingD} {xs:List (List UInt8)} {tmx ff:Int} {k:Blk} {vx':VX} {b:TS} (hbel:Below B w0 wr) (hB:B<=wr.heap.size) (hbw:B<=wb) (hn:Xeo N σ L)
  (hS:Sys B wr hb rb ⟨k,vx',tmx,b.s,b.c⟩) (hR:Xk B wr ra' g' cap' L' tmx ((σ.s.tn+1:Nat):Int) ((σ.s.ln+1:Nat):Int)) (hW:BoxN wr wb 69 #[.pointer (some ⟨hb,0,none⟩),.pointer (some ⟨ra',0,none⟩),.pointer none,.bool false,.bool false]) (hra:B<=ra')
  (hTs:Jv tmx ⟨σ.s,σ.s.tks.flatMap (Yv σ.s tmx)++σ.s.lks.flatMap (Zw tmx),ff,σ.c,[]⟩ b) (hT:Tk tmx ((48*N:Nat):Int) b b L' xs) (f0:0<=ff) (f1:ff<=18446744073709551615) (hc:b.cl.length<=150/\b.c.length<=σ.c.length+2600*b.cl.length)
  (hs:b.s.tn=σ.s.tn/\b.s.ln=σ.s.ln/\b.s.tks.length<=σ.s.tks.length/\b.s.lks.length<=σ.s.lks.length):Inv w0 B (N+1) wb hb wr:=by
 obtain⟨s1,s2,s3,s4⟩:=hs;obtain⟨c1,c2⟩:=hc;have nt:=hn.nt;have nl:=hn.nl;have hcl:=hn.most hTs f0 f1
 have hpos:0<b.s.tks.length:=by
  obtain⟨x,x1,x2,-⟩:=hT.hd;obtain⟨z,hz,-⟩:=hT.inv.rel.Zj (List.mem_of_getElem? x1) x2;exact List.length_pos_of_mem hz
 refine⟨hbel,hB,hbw,⟨rb,_,ra',g',cap',L',hS,by rw [s1,s2];exact hR,hT.inv.rel,hW,⟨?_,?_,hpos,?_,?_,?_,⟨hT.go.tree,?_,hT.old⟩,hT.hd⟩,hra⟩⟩
 ·show b.s.tks.length<=10;omega
 ·show b.s.lks.length<=14;omega
 ·have:=hn.tn;show b.s.tn<=N+1;omega
 ·have:=hn.ln;show b.s.ln<=N+1;omega
 ·have:=hn.c;show b.c.length<=(N+1)*150000;omega
 have:=hT.go.tr;exact⟨fun x hx=>by have:=this.1 x hx;omega,fun x hx=>by have:=this.2 x hx;omega⟩
theorem Tryz.Xva {w0:World} {B N wb hb:Nat} (w:World) (hI:Inv w0 B N wb hb w) (hN:N<16384) (ss tt:List UInt8) (aa bb ff:Int) (ha0:0<=aa) (ha1:aa<=18446744073709551615) (hb0':0<=bb) (hf0:0<=ff) (hf1:ff<=18446744073709551615) (ke pa:Int) :
  Calls prog 61 #[.pointer (some ⟨wb,0,none⟩),.agg (Xo.cells ⟨8,ss,tt,aa,bb,ff,-1,-1,ke,pa⟩)] w fun e w'=>e=.returned (.bool true)/\Inv w0 B (N+1) wb hb w':=by
 obtain⟨rb,σ,ra,g,cap,L,hS,hR,hl,hW,hn,hra⟩:=hI.ex
 obtain⟨tm,htm⟩:∃ tm,tm=σ.tm:=⟨_,rfl⟩
 have t0:=hS.wh.v.t0;have t1:=hS.wh.v.t1;rw [<- htm] at t0 t1;have lW:=hW.lt;have hb0:Below w.heap.size w (w.alloc (.cells (Xo.cells ⟨8,ss,tt,aa,bb,ff,-1,-1,ke,pa⟩) 72)):=(Below.refl _ w).alloc (Nat.le_refl _) _;have bS:=BoxN.new w 72 (Xo.cells ⟨8,ss,tt,aa,bb,ff,-1,-1,ke,pa⟩);have bW0:=hW.alloc (.cells (Xo.cells ⟨8,ss,tt,aa,bb,ff,-1,-1,ke,pa⟩) 72);have w1c:=bW0.cell 1 (v:=.pointer (some ⟨ra,0,none⟩)) rfl;have hR0:=hR.below hb0;have r1c:=hR0.v.cell 1 (v:=.int .u64 tm) (by rw [htm];rfl);have s3c:=bS.cell 3 (v:=.int .u64 aa) rfl;have s4c:=bS.cell 4 (v:=.int .u64 bb) rfl
 have hT:=fun(W:World) (now:Int) (hSW:Sys B W hb rb σ) (hbw:B<=W.heap.size) (h0:0<=now) (h1:now<=18446744073709551615)=>Xun B hb rb σ W hSW hbw hn.al.tree (by have:=hn.nt;have:=hn.nl;omega) ((48*N:Nat):Int) (by omega) hn.al.tr (by have:=hn.c;omega) ff now hf0 hf1 h0 h1 ke pa
 unfold Yn at hT;have b9:=hS.b9;have hBw:=hI.hB;have hbw:=hI.bw;have HI:=Xb hI;simp only [Xo.cells] at *
 have key:∃ now:Int,0<=now/\now<=18446744073709551615/\(bb % 2=1/\now=aa\/bb % 2=0/\now=IntKind.u64.wrap (σ.tm+aa)):=by
  by_cases hodd:bb % 2=1
  ·exact⟨aa,ha0,ha1,.inl ⟨hodd,rfl⟩⟩
  refine⟨_,?_,?_,.inr ⟨by omega,rfl⟩⟩
  ·rw [IntKind.wrap_u64];omega
  rw [IntKind.wrap_u64];omega
 obtain⟨now,n0,n1,hnow⟩:=key
 rcases hnow with⟨hodd,hnow⟩ | ⟨hodd,hnow⟩
 all_goals
  replace hnow:=hnow.symm;subst hnow;go_enter func61,ntmps61
  go_wp2_with fail
  go_quiet (fail)
  go_wp2_with fail
  have hb1:=below_drewN hb0 nq;have bS1:=bS.below (below_drewN (Below.refl _ _) nq) bS.lt;have bW1:=bW0.below (below_drewN (Below.refl _ _) nq) bW0.lt;have hR1:=hR.below hb1.drew;have hS1:=hS.below hb1.drew;generalize (w.alloc (.cells #[.int .i64 8,.string ⟨ss.toArray⟩,.string ⟨tt.toArray⟩,.int .u64 aa,.int .u64 bb,.int .u64 ff,.int .i64 (-1),.int .i64 (-1),.int .i64 ke,.int .i64 pa] 72)).drewN nq=w1 at *
  have hP1:Xdd wb hb w.heap.size ff ke pa w1:=⟨⟨bW1.cell 0 rfl,bS1.cell 5 rfl⟩,bS1.cell 6 rfl,bS1.cell 7 rfl,bS1.cell 8 rfl,bS1.cell 9 rfl⟩
  have hTk:=hT w1.drew _ hS1 (by have:=hb1.size;exact Nat.le_trans hBw this) n0 n1
  have fW:X1 w1.drew wb:=⟨by omega,_,_,bW1,by decide⟩
  have fS:X1 w1.drew w.heap.size:=⟨by omega,_,_,bS1,by decide⟩
  obtain⟨fA,fG⟩:=hR1.foreign b9 (by omega);have hown:=Xkb hS1;have HB1:=Xb hb1;clear hT w1c hR0 r1c s3c s4c bW0 bS hb0 hb1;simp only [Xdd] at hP1
  go_region_held3 (Xdd wb hb w.heap.size ff ke pa) (first
   | with_reducible exact Xdd.drew hP1
   | with_reducible assumption) (first | (go_at_call 22;refine hTk.mono ?_;rintro e w2 ⟨vx',v',b,rfl,hTs,hbq,hS2,hrow2,hgo2,hcl2,hsp2⟩;have bW2:=Spares.box (W:=w1.drew) hsp2 bW1 (fun hx=>(hown _ hx).2 fW);have bS2:=Spares.box (W:=w1.drew) hsp2 bS1 (fun hx=>(hown _ hx).2 fS);have hP2:Xdd wb hb w.heap.size ff ke pa w2:=⟨⟨bW2.cell 0 rfl,bS2.cell 5 rfl⟩,bS2.cell 6 rfl,bS2.cell 7 rfl,bS2.cell 8 rfl,bS2.cell 9 rfl⟩))
  have hR2:=hR1.Zz hsp2 (fun hx=>(hown _ hx).2 fA) (fun hx=>(hown _ hx).2 fG);have hB2:Below B w w2:=((Xa HB1).mono hBw).drew.trans (hsp2.below (by have:=(Xa HB1).size;exact Nat.le_trans hBw this) (fun b hb=>(hown b hb).1));have HB2:=Xb hB2;have lra:=hR.v.lt;have lgg:=hR.glt
  have ngw:wb≠g:=fun e=>by obtain⟨c,hc⟩:=hR2.Xbn;exact bW2.ne hc (by decide) e
  have nrw:wb≠ra:=bW2.ne hR2.v (by decide);obtain⟨⟨q0,q5⟩,-⟩:=hP2;obtain⟨tmx,etm⟩:=Xpy hTs;rw [<- etm] at hTs hS2 hgo2;have gg:=hR.Xpf;clear hsp2 hown fW fS fA fG hB2 hP1 HB1 bW1 bS1 hR1 hS1 hTk;have q12:=bW2.cell 1 (v:=.pointer (some ⟨ra,0,none⟩)) rfl
  have hrd:=fun g' (e:v'.ownBlock=some g')=>Xm hrow2 (g:=g') e
  go_upto_region 9 with(first
   | (go_at_call 102;refine(rTell B ra g cap L σ.tm _ _ _ w2 hR2 hra hR2.ne).mono ?_;rintro e w3 ⟨rfl,hR3,-,hsp3⟩;rw [<- etm] at hR3;have bW3:=hsp3.box bW2 (by simp [ngw,nrw]);have bS3:=hsp3.box bS2 (by simp;omega);have q53:=bS3.cell 5 (v:=.int .u64 ff) rfl;have q13:=bW3.cell 1 (v:=.pointer (some ⟨ra,0,none⟩)) rfl))
  have hrow3:=hsp3.J2 hrow2 (fun g' e=>by
   obtain⟨-,cs,hc⟩:=hrd g' e;obtain⟨c,hg2⟩:=hR2.Xbn;simp only [List.mem_cons,List.not_mem_nil,or_false,not_or]
   exact⟨hc.ne hR2.v (by decide),hc.ne hg2 (by decide)⟩)
  obtain⟨p,ccap,rfl,hcs⟩:=Up (xs:=b.cl.map fun p=>nmStr p.1 p.2) (by rw [List.map_map];exact hrow3) (by simp)
  have hS3:Sys B w3 hb rb ⟨σ.k,vx',tmx,b.s,b.c⟩:=(Y9 B hb rb _).other hS2 hsp3 (fun x hx=>by
   obtain⟨f1,f2⟩:=hR2.foreign b9 (by omega);simp only [List.mem_cons,List.not_mem_nil,or_false] at hx
   rcases hx with rfl | rfl
   ·exact f1
   exact f2)
  obtain⟨n,hnn⟩:∃ n,b.cl.length=n:=⟨_,rfl⟩
  rw [List.length_map,hnn];rw [List.length_map,hnn] at hrow3;have hst:=Tk.start (M:=((48*N:Nat):Int)) hTs hbq hn.al rfl ⟨hS.wh.v.va.ok,hS.wh.v.nt,hS.wh.v.nl⟩ hl hn.hd hf0 hf1
  have hB3:Below B w w3:=(Xa HB2).trans (hsp3.below (by have:=(Xa HB2).size;omega) (fun b hb=>by
   simp only [List.mem_cons,List.not_mem_nil,or_false] at hb
   rcases hb with rfl | rfl <;> omega))
  have hfin:=fun(wr:World) (ra' g' cap':Nat) (L':List ThingD) (xs:List (List UInt8)) (hb':Below B w wr) (hS':Sys B wr hb rb ⟨σ.k,vx',tmx,b.s,b.c⟩) (hR':Xk B wr ra' g' cap' L' tmx ((σ.s.tn+1:Nat):Int) ((σ.s.ln+1:Nat):Int)) hW' hra' (hT:Tk tmx ((48*N:Nat):Int) b b L' xs) hs'=>Xnp (hI.bel.trans hb') (Nat.le_trans hI.hB hb'.size) hI.bw hn hS' hR' hW' hra' hTs hT hf0 hf1 ⟨hcl2.1,hcl2.2.1⟩ hs'
  have h150:=hcl2.1;rw [hnn] at h150
  have htm0:0<=tmx:=by rw [etm];omega
  have hN1:=hN;have Hrow:=Xb hrow3;have HS3:=Xb hS3;have Hst:=Xb hst;have HB3:=Xb hB3;have Hfin:=Xb hfin;have Hnn:=Xb hnn;have l3:w.heap.size<=w3.heap.size:=hB3.size;clear hfin hrow3 hS3 hst hB3 hS hS2 hrow2 hR hR2 HB2 bW2 bS2 bS3 hW hl hn hI HI hcl2 hbq hgo2 hTs hrd hcs q0 q5 q12 hsp3 q53 hnn q13;go_wp2
  go_loopw [8,9,10,11] (fun fv tv bp iv wr=>∃(j:Nat) (a:TS) (L':List ThingD) (xs:List (List UInt8)) (ra' g' cap' pb:Nat),j<=n/\iv=.int .i64 j/\fv=.int .u64 a.fl/\bp=.pointer (some ⟨pb,0,none⟩)/\a.cl.length=j/\Hid (Tk tmx ((48*N:Nat):Int) b a L' xs)/\wr.ownsRow w3.heap.size 9 1 tv j (xs.map fun x=>.string ⟨x.toArray⟩)/\Xk B wr ra' g' cap' L' tmx ((σ.s.tn+1:Nat):Int) ((σ.s.ln+1:Nat):Int)/\B<=ra'/\BoxN wr wb 69 #[.pointer (some ⟨hb,0,none⟩),.pointer (some ⟨ra',0,none⟩),.pointer none,.bool false,.bool false]/\Spares [wb] w3 wr/\Hid (a.s.tn=σ.s.tn/\a.s.ln=σ.s.ln/\a.s.tks.length<=σ.s.tks.length/\a.s.lks.length<=σ.s.lks.length)) (fun _ _ _ iv _=>n-(intOf iv).toNat)
  case atStart=>exact⟨0,_,L,[],ra,g,cap,ra,Nat.zero_le _,rfl,rfl,rfl,rfl,Hst,World.ownsRow_nil _ _ _ _,hR3,hra,bW3,Spares.of_below (Below.refl _ _),Xb ⟨rfl,rfl,Nat.le_refl _,Nat.le_refl _⟩⟩
  case round =>
   obtain⟨j,a,L',xs,ra',g',cap',pb,hj,rfl,rfl,rfl,haj,HT,hrow,hRr,hra',bWr,hspr,Hs⟩:=hrel;have hxl:xs.length=j:=(Xa HT).len.trans haj;have hDu:=rDue B ra' g' cap' L' tmx _ _ xs u9 wr hRr (Up hrow hxl) (by omega);have c1:=bWr.cell 1 (v:=.pointer (some ⟨ra',0,none⟩)) rfl
   by_cases hjn:j<n
   ·obtain⟨c,i,th,kd,nm,hi,hdue,hcn,hid,hi0,⟨hm,ht0,ht1⟩,hcf,hccl,hcs,hbr⟩:=(Xa HT).step (by have:=Xa Hnn;omega)
    rw [hdue] at hDu;simp only [Xi0] at hDu;have hil:i<L'.length:=(List.getElem?_eq_some_iff.1 hi).1;have hlim:=hRr.lim
    have hrc:∃ q,p=some ⟨q,0,none⟩/\q<wr.heap.size/\wr.cell? ⟨q,j,none⟩=some (.string ⟨th.id.toArray⟩):=by
     have hr:=hspr.J2 (Xa Hrow) (fun g'' e=>by
      obtain⟨-,cs,hc⟩:=Xm (Xa Hrow) (g:=g'') e;simp only [List.mem_cons,List.not_mem_nil,or_false]
      exact hc.ne bW3 (by decide))
     obtain⟨p2,cap2,e2,h2⟩:=Up (xs:=b.cl.map fun p=>nmStr p.1 p.2) (by rw [List.map_map];exact hr) (by rw [List.length_map];exact Xa Hnn);cases e2;have:=h2 j (nmStr kd nm) (by rw [List.getElem?_map,<- haj,hcn];rfl);rw [<- hid] at this;exact this
    obtain⟨q,rfl,hq,hqc⟩:=hrc;have hnum:=hRr.num th hm
    have hId:=fun W=>rId th hnum W
    have lra':=hRr.v.lt
    obtain⟨len,hlen⟩:∃ len,L'.length=len:=⟨_,rfl⟩
    have Hlen:=Xb hlen;rw [hlen] at hil hlim;clear hlen;have Hbr:=Xb hbr;have Hcs:=Xb hcs;have Hi:=Xb hi;simp only [ThingD.cells] at hId;have hf0:0<=a.fl:=(Xa HT).go.f0;have hf1:a.fl<=18446744073709551615:=(Xa HT).go.f1
    have hft:th.tries<1000000:=by omega
    clear hbr hcs hm hdue hid hcn
    obtain⟨idv,hidv⟩:∃ idv,th.id=idv:=⟨_,rfl⟩
    rw [hidv] at hqc;have Hidv:=Xb hidv;simp only [hidv] at hId;clear hidv;have bWl:=bWr.lt
    have hrl:∀ x,u9.ownBlock=some x->x<wr.heap.size:=fun x e=>by obtain⟨-,cs,hc⟩:=Xm hrow (g:=x) e;exact hc.lt
    obtain⟨i0,hi',hz0,hz1,hz2⟩:=info_parts Xb6
    have hfl2:a.fl % 2=1\/a.fl % 2=0:=by omega
    rcases hfl2 with hfl | hfl
    ·have hfl':(a.fl % 2==1)=true:=by simp [hfl]
     go_wp2_with (first
      | (go_at_call 104;refine hDu.mono ?_;rintro e w4 ⟨rfl,hb4⟩;have bW4:=bWr.below hb4 bWr.lt;have hR4:=hRr.below hb4;have d1:=bW4.cell 1 (v:=.pointer (some ⟨ra',0,none⟩)) rfl;have d4:=bW4.cell 4 (v:=.bool false) rfl;have d3:=bW4.cell 3 (v:=.bool false) rfl;have e0:=hR4.v.cell 0 (v:=.slice (some ⟨g',0,none⟩) len cap') (by rw [<- Xa Hlen];rfl);obtain⟨x0,x1,x2,x3,x4,x5,x6,x7⟩:=hR4.cells (Xa Hi);have qc4:=(hb4.cell (p:=⟨q,j,none⟩) hq).trans hqc)
      | (go_at_call 105;refine(hId _).mono ?_;rintro e w5 ⟨rfl,hb5⟩;have bW5:=bW4.below hb5 bW4.lt;have hR5:=hR4.below hb5;have qc5:=(hb5.cell (p:=⟨q,j,none⟩) (Nat.lt_of_lt_of_le hq hb4.size)).trans qc4;have d15:=bW5.cell 1 (v:=.pointer (some ⟨ra',0,none⟩)) rfl)
      | (go_at_call 106;refine(Xgf B ra' g' cap' L' tmx _ _ _ hR5 (by rw [Xa Hlen];omega)).mono ?_;rintro e w6 ⟨g6,cap6,rfl,hR6,hb6⟩;have bW6:=bW5.below hb6 bW5.lt)
      | (go_at_call 107;refine(Xiy _ _ g6 cap6 L' tmx _ _ _ hR6 hb6.size hR6.ne htm0 i th (Xa Hi) ht0 hft).mono ?_;rintro e w7 ⟨rfl,hR7,hb7,hsp7⟩;obtain⟨hrow7,bW7,hnr,l5,l7⟩:=Xnt hb4 hb5 hb6 hsp7 hR6 hrow bW6 bWr.lt;have bS7:=BoxN.new w7 9 #[.string ⟨idv.toArray⟩])
      | (at_builtin;refine wpList_append_lies _ rfl _ _ 40 rfl w3.heap.size 9 i0 _ 1 16 underlying40 hi' hz0 hz1 hz2 rfl (by decide) _ _ _ rfl (hrow7.alloc _) ⟨w7.heap.size,0,none⟩ 1 1 [.string ⟨idv.toArray⟩] rfl rfl (World.news_of_block bS7) (by simp [Value.oneCell']) (by omega) (by unfold maxLen;omega) (by omega) (by have:=hspr.size;simp;omega) _ rfl ?_;intro g8 cap8 w8 hown hgrow hat hlt;have bW8:=(bW7.alloc (.cells #[.string ⟨idv.toArray⟩] 9)).kept hgrow hnr;have fz:=bW8.frozen 1;have d18:=bW8.cell 1 (v:=.pointer (some ⟨ra',0,none⟩)) rfl;have hg8:=Xp6 hat hnr bW7.lt;have Hown:=Xb hown;have Hgrow:=Xb hgrow;clear hown hgrow hat hlt))
     go_roundw
     case rel =>
      have hT':Tk tmx ((48*N:Nat):Int) b c (L'.set i (Ue tmx th)) (xs ++ [th.id]):=by
       rcases Xa Hbr with⟨e1,hT⟩ | ⟨e1,hT⟩
       ·first
        | exact hT
        | (rw [hfl'] at e1;cases e1)
       first
       | exact hT
       | (rw [hfl'] at e1;cases e1)
      obtain⟨z1,z2,z3⟩:=Xhd (Xa Hgrow) hR7 hb4.size hb5.size hspr.size hrow hspr hb4 hb5 hb6 hsp7 hR6 bWr.lt hg8;obtain⟨y1,y2,y3,y4⟩:=Xa Hs;obtain⟨v1,v2,v3,v4⟩:=Xa Hcs;exact⟨j+1,c,_,_,_,_,_,ra',hjn,rfl,by rw [hcf],rfl,by omega,Xb hT',by rw [List.map_append,List.map_cons,List.map_nil,Xa Hidv];exact z1 (Xa Hown),z2.lower (by omega),by omega,bW8.set 1 _,z3,Xb ⟨v1.trans y1,v2.trans y2,by omega,by omega⟩⟩
     case measure=>simp [intOf];omega
    ·have hfl':(a.fl % 2==1)=false:=by simp [hfl]
     go_wp2_with (first
      | (go_at_call 104;refine hDu.mono ?_;rintro e w4 ⟨rfl,hb4⟩;have bW4:=bWr.below hb4 bWr.lt;have hR4:=hRr.below hb4;have d1:=bW4.cell 1 (v:=.pointer (some ⟨ra',0,none⟩)) rfl;have d4:=bW4.cell 4 (v:=.bool false) rfl;have d3:=bW4.cell 3 (v:=.bool false) rfl;have e0:=hR4.v.cell 0 (v:=.slice (some ⟨g',0,none⟩) len cap') (by rw [<- Xa Hlen];rfl);obtain⟨x0,x1,x2,x3,x4,x5,x6,x7⟩:=hR4.cells (Xa Hi);have qc4:=(hb4.cell (p:=⟨q,j,none⟩) hq).trans hqc)
      | (go_at_call 105;refine(hId _).mono ?_;rintro e w5 ⟨rfl,hb5⟩;have bW5:=bW4.below hb5 bW4.lt;have hR5:=hR4.below hb5;have qc5:=(hb5.cell (p:=⟨q,j,none⟩) (Nat.lt_of_lt_of_le hq hb4.size)).trans qc4;have d15:=bW5.cell 1 (v:=.pointer (some ⟨ra',0,none⟩)) rfl)
      | (go_at_call 106;refine(Xgf B ra' g' cap' L' tmx _ _ _ hR5 (by rw [Xa Hlen];omega)).mono ?_;rintro e w6 ⟨g6,cap6,rfl,hR6,hb6⟩;have bW6:=bW5.below hb6 bW5.lt)
      | (go_at_call 107;refine(Xgk _ _ g6 cap6 L' tmx _ _ _ hR6 hb6.size (Nat.le_refl _) i hi0 (by rw [Xa Hlen];exact hil)).mono ?_;rintro e w7 ⟨g7,cap7,rfl,hR7,-,hb7,hsp7⟩;obtain⟨hrow7,bW7,hnr,l5,l7⟩:=Xnt hb4 hb5 hb6 hsp7 hR6 hrow bW6 bWr.lt;have bS7:=BoxN.new w7 9 #[.string ⟨idv.toArray⟩])
      | (at_builtin;refine wpList_append_lies _ rfl _ _ 40 rfl w3.heap.size 9 i0 _ 1 16 underlying40 hi' hz0 hz1 hz2 rfl (by decide) _ _ _ rfl (hrow7.alloc _) ⟨w7.heap.size,0,none⟩ 1 1 [.string ⟨idv.toArray⟩] rfl rfl (World.news_of_block bS7) (by simp [Value.oneCell']) (by omega) (by unfold maxLen;omega) (by omega) (by have:=hspr.size;simp;omega) _ rfl ?_;intro g8 cap8 w8 hown hgrow hat hlt;have bW8:=(bW7.alloc (.cells #[.string ⟨idv.toArray⟩] 9)).kept hgrow hnr;have fz:=bW8.frozen 1;have d18:=bW8.cell 1 (v:=.pointer (some ⟨ra',0,none⟩)) rfl;have hg8:=Xp6 hat hnr bW7.lt;have Hown:=Xb hown;have Hgrow:=Xb hgrow;clear hown hgrow hat hlt))
     go_roundw
     case rel =>
      have hT':Tk tmx ((48*N:Nat):Int) b c (L'.eraseIdx i) (xs ++ [th.id]):=by
       rcases Xa Hbr with⟨e1,hT⟩ | ⟨e1,hT⟩
       ·first
        | exact hT
        | (rw [hfl'] at e1;cases e1)
       first
       | exact hT
       | (rw [hfl'] at e1;cases e1)
      obtain⟨z1,z2,z3⟩:=Xhd (Xa Hgrow) hR7 hb4.size hb5.size hspr.size hrow hspr hb4 hb5 hb6 hsp7 hR6 bWr.lt hg8;obtain⟨y1,y2,y3,y4⟩:=Xa Hs;obtain⟨v1,v2,v3,v4⟩:=Xa Hcs;exact⟨j+1,c,_,_,_,_,_,ra',hjn,rfl,by rw [hcf],rfl,by omega,Xb hT',by rw [List.map_append,List.map_cons,List.map_nil,Xa Hidv];exact z1 (Xa Hown),z2.lower (by omega),by omega,bW8.set 1 _,z3,Xb ⟨v1.trans y1,v2.trans y2,by omega,by omega⟩⟩
     case measure=>simp [intOf];omega
   obtain⟨hab,hdn⟩:=(Xa HT).stop (by have:=Xa Hnn;omega);rw [hdn] at hDu;simp only [Xi0] at hDu;rw [hab] at HT Hs;clear hab
   go_wp2_with (go_at_call 104;refine hDu.mono ?_;rintro e w4 ⟨rfl,hb4⟩)
   go_ret;have hw4:=hb4.size;have hw3:=hspr.size;exact⟨rfl,Xa Hfin w4 ra' g' cap' L' xs ((Xa HB3).trans ((hspr.below (by omega) (fun x hx=>by rw [List.mem_singleton.1 hx];exact hbw)).trans (hb4.mono (by omega)))) (((Y9 B hb rb _).other (Xa HS3) hspr (fun x hx=>by rw [List.mem_singleton.1 hx];exact⟨by omega,_,_,bW3,by decide⟩)).below hb4) (hRr.below hb4) (bWr.below hb4 bWr.lt) hra' (Xa HT) (Xa Hs)⟩
end Go.Proofs
