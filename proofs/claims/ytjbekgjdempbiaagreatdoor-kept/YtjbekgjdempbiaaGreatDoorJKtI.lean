import Derived.Test.YtjbekgjdempbiaaGreatDoorJKtH
import Derived.Test.YtjbekgjdempbiaaGreatDoorJRefR
set_option maxRecDepth 100000
set_option maxHeartbeats 8000000
namespace Go.Proofs
open Go.RowKit Go.Sort Go.Lib Go.Shelf Go.Maps Go.WideMaps
structure Tryz.KB (w0:World) (B N wb hb:Nat) (tm:Int) (s:VSt) (c:List UInt8) (ra:Nat) (W:World):Prop where
 bel:Below B w0 W
 hB:B<=W.heap.size
 bw:B<=wb
 hra:B<=ra
 b9:9<=B
 ex:∃ g cap L,Tryz.Xk B W ra g cap L tm ((s.tn+1:Nat):Int) ((s.ln+1:Nat):Int)/\Rel s.tks s.lks L/\∀ k vx,Xeo N ⟨k,vx,tm,s,c⟩ L
 box:BoxN W wb 69 #[.pointer (some ⟨hb,0,none⟩),.pointer (some ⟨ra,0,none⟩),.pointer none,.bool false,.bool false]
structure Tryz.Ag (w0:World) (B N wb hb:Nat) (tm:Int) (s:VSt) (c:List UInt8) (ra sb:Nat) (cs:Array Value) (W:World):Prop where
 k:Tryz.KB w0 B N wb hb tm s c ra W
 st:BoxN W sb 72 cs
 sl:9<=sb
section
variable {w0 W W':World} {B N wb hb ra sb:Nat} {tm:Int} {s:VSt} {c:List UInt8} {cs:Array Value}
theorem Tryz.Ag.kept (h:Ag w0 B N wb hb tm s c ra sb cs W) {bs:List Nat} (hs:Spares bs W W') (hB:Below B W W') (hq:∀ b∈bs,¬ X1 W b):Ag w0 B N wb hb tm s c ra sb cs W':=by
 obtain⟨g,cap,L,hR,hl,hn⟩:=h.k.ex;have b9:=h.k.b9;obtain⟨fA,fG⟩:=hR.foreign b9 (Nat.le_trans b9 h.k.hra);have fW:X1 W wb:=X1.of h.k.box (Nat.le_trans b9 h.k.bw) (by decide);have fS:X1 W sb:=X1.of h.st h.sl (by decide);exact⟨{ h.k with bel:=h.k.bel.trans hB,hB:=Nat.le_trans h.k.hB hB.size,ex:=⟨g,cap,L,hR.Zz hs (fun hx=>hq _ hx fA) (fun hx=>hq _ hx fG),hl,hn⟩,box:=hs.box h.k.box (fun hx=>hq _ hx fW) },hs.box h.st (fun hx=>hq _ hx fS),h.sl⟩
theorem Tryz.Ag.host (h:Ag w0 B N wb hb tm s c ra sb cs W) (hsp:Z8 B W W'):Ag w0 B N wb hb tm s c ra sb cs W':=by
 have hB:=hsp.below h.k.hB;obtain⟨hs,h1,h2⟩:=hsp;exact h.kept h1 hB (fun b hb=>(h2 b hb).2)
theorem Tryz.Ag.below (h:Ag w0 B N wb hb tm s c ra sb cs W) (hb':Below W.heap.size W W'):Ag w0 B N wb hb tm s c ra sb cs W':=h.kept (bs:=[]) (Spares.of_below hb') (hb'.mono h.k.hB) (by simp)
theorem Tryz.KB.below (h:KB w0 B N wb hb tm s c ra W) (hb':Below W.heap.size W W'):KB w0 B N wb hb tm s c ra W':=by
 obtain⟨g,cap,L,hR,hl,hn⟩:=h.ex;exact { h with bel:=h.bel.trans (hb'.mono h.hB),hB:=Nat.le_trans h.hB hb'.size,ex:=⟨g,cap,L,hR.below hb',hl,hn⟩,box:=h.box.below hb' h.box.lt }
theorem Tryz.Ag.set (h:Ag w0 B N wb hb tm s c ra sb cs W):Ag w0 B N wb hb tm s c ra sb cs (((W.setCell ⟨wb,2,none⟩ (.pointer none)).setCell ⟨wb,3,none⟩ (.bool false)).setCell ⟨wb,4,none⟩ (.bool false))/\Spares [wb] W (((W.setCell ⟨wb,2,none⟩ (.pointer none)).setCell ⟨wb,3,none⟩ (.bool false)).setCell ⟨wb,4,none⟩ (.bool false)):=by
 obtain⟨g,cap,L,hR,hl,hn⟩:=h.k.ex;obtain⟨cc,hg2⟩:=hR.Xbn;have hs:Spares [wb] W (((W.setCell ⟨wb,2,none⟩ (.pointer none)).setCell ⟨wb,3,none⟩ (.bool false)).setCell ⟨wb,4,none⟩ (.bool false)):=(((Spares.of_below (Below.refl _ _)).set (by simp) _ _).set (by simp) _ _).set (by simp) _ _;have hB:Below B W (((W.setCell ⟨wb,2,none⟩ (.pointer none)).setCell ⟨wb,3,none⟩ (.bool false)).setCell ⟨wb,4,none⟩ (.bool false)):=hs.below h.k.hB (fun b hb=>by rw [List.mem_singleton.1 hb];exact h.k.bw);exact⟨⟨{ h.k with bel:=h.k.bel.trans hB,hB:=Nat.le_trans h.k.hB hB.size,ex:=⟨g,cap,L,hR.Zz hs (fun hm=>hR.v.ne h.k.box (by decide) (List.mem_singleton.1 hm)) (fun hm=>hg2.ne h.k.box (by decide) (List.mem_singleton.1 hm)),hl,hn⟩,box:=((h.k.box.set 2 _).set 3 _).set 4 _ },hs.box h.st (fun hm=>h.st.ne h.k.box (by decide) (List.mem_singleton.1 hm)),h.sl⟩,hs⟩
end
abbrev AgP (wb hb ra sb:Nat) (tm fl fu ke pa:Int) (W:World):Prop:=((W.cell? ⟨wb,0,none⟩=some (.pointer (some ⟨hb,0,none⟩))/\W.cell? ⟨wb,1,none⟩=some (.pointer (some ⟨ra,0,none⟩)))/\W.cell? ⟨ra,1,none⟩=some (.int .u64 tm))/\W.cell? ⟨sb,6,none⟩=some (.int .i64 fl)/\W.cell? ⟨sb,7,none⟩=some (.int .i64 fu)/\W.cell? ⟨sb,8,none⟩=some (.int .i64 ke)/\W.cell? ⟨sb,9,none⟩=some (.int .i64 pa)
theorem Tryz.Ag.p {w0 W:World} {B N wb hb ra sb:Nat} {tm:Int} {s:VSt} {c:List UInt8} {kd:Int} {ss tt:List UInt8} {aa bb ff fl fu ke pa:Int} (h:Ag w0 B N wb hb tm s c ra sb (Xo.cells ⟨kd,ss,tt,aa,bb,ff,fl,fu,ke,pa⟩) W):AgP wb hb ra sb tm fl fu ke pa W:=by
 obtain⟨g,cap,L,hR,-⟩:=h.k.ex;exact⟨⟨⟨h.k.box.cell 0 rfl,h.k.box.cell 1 rfl⟩,hR.v.cell 1 rfl⟩,h.st.cell 6 rfl,h.st.cell 7 rfl,h.st.cell 8 rfl,h.st.cell 9 rfl⟩
theorem AgP.drew {wb hb ra sb:Nat} {tm fl fu ke pa:Int} {W:World} (h:AgP wb hb ra sb tm fl fu ke pa W):AgP wb hb ra sb tm fl fu ke pa W.drew:=h
theorem Tryz.again {w0:World} {B N wb hb rb ra:Nat} {tm:Int} {s:VSt} {c:List UInt8} (w:World) (hD:Dn B w hb rb tm s c) (hK:KB w0 B N wb hb tm s c ra w) (hN:N<16384) (t0:0<=tm) (t1:tm<=18446744073709551615) (kd:Int) (ss tt:List UInt8) (aa bb ff fl fu ke pa:Int) (ha0:0<=aa) (ha1:aa<=18446744073709551615) (p0 : -9223372036854775808<=pa) (p1:pa<=9223372036854775807) :
  Calls prog 60 #[.pointer (some ⟨wb,0,none⟩),.agg (Xo.cells ⟨kd,ss,tt,aa,bb,ff,fl,fu,ke,pa⟩)] w fun e w'=>e=.returned (.bool true)/\Inv w0 B (N+1) wb hb w':=by
 have hb0:Below w.heap.size w (w.alloc (.cells (Xo.cells ⟨kd,ss,tt,aa,bb,ff,fl,fu,ke,pa⟩) 72)):=(Below.refl _ w).alloc (Nat.le_refl _) _;have bS:=BoxN.new w 72 (Xo.cells ⟨kd,ss,tt,aa,bb,ff,fl,fu,ke,pa⟩);have b9:=hK.b9;have hKB:=hK.hB;have hbw:=hK.bw;have hra:=hK.hra
 have hA0:Ag w0 B N wb hb tm s c ra w.heap.size _ _:=⟨hK.below hb0,bS,by omega⟩
 have hD0:=hD.below hb0;have hlen:=hD.len
 have hWl:=fun W=>Xtg W
 have hmx:max tm tm=tm:=by omega
 obtain⟨n,hn,hO1⟩:=Xue (B:=B) (hb:=hb) (rb:=rb) (tm:=tm) (s:=s) (c:=c) tm fl fu ke pa t0 t1 p0 p1;rw [hmx] at hO1
 have hLo:=fun W (h:Dn B W hb rb tm s c)=>Xqn h ke pa p0 p1
 have hO2:=fun W (h:Dn B W hb rb tm s c)=>Xmd h tm (-1) (-1) 0 0 t0 t1 (.inr ⟨by decide,by decide⟩)
 have hO3:=fun W (h:Dn B W hb rb tm s c)=>Xmd h 0 (-1) (-1) 0 0 (Int.le_refl _) (by decide) (.inr ⟨by decide,by decide⟩)
 have hI:=fun W (hA:Ag w0 B N wb hb tm s c ra w.heap.size (Xo.cells ⟨kd,ss,tt,aa,bb,ff,fl,fu,ke,pa⟩) W) k vx (hS:Sys B W hb rb ⟨k,vx,tm,s,c⟩)=>show Inv w0 B N wb hb W from by
  obtain⟨g,cap,L,hR,hl,hn⟩:=hA.k.ex;exact⟨hA.k.bel,hA.k.hB,hA.k.bw,⟨rb,_,ra,g,cap,L,hS,hR,hl,hA.k.box,hn k vx,hA.k.hra⟩⟩
 unfold Yn at hWl hO1 hO2 hO3;have s3:=bS.cell 3 (v:=.int .u64 aa) rfl;have HD0:=Xb hD0;clear hD hK hb0;simp only [Xo.cells] at *
 by_cases hodd:aa % 2=0
 focus
  have hod:(aa % 2==0)=true:=by simpa using hodd
  have hn':n=0\/(n=8/\¬ fl<0)\/(n=7/\¬ fl<0)\/(n=7/\fl<0/\¬ fu<0):=by omega
  clear hn
  rcases hn' with rfl | ⟨rfl,hfx⟩ | ⟨rfl,hfx⟩ | ⟨rfl,hfx,hfy⟩
  all_goals
   have hP0:=hA0.p;go_enter func60,ntmps60
   go_wp2_with fail
   generalize w.alloc (.cells #[.int .i64 kd,.string ⟨ss.toArray⟩,.string ⟨tt.toArray⟩,.int .u64 aa,.int .u64 bb,.int .u64 ff,.int .i64 fl,.int .i64 fu,.int .i64 ke,.int .i64 pa] 72)=x0 at *;have hD0d:=(Xa HD0).below (Below.refl _ x0).drew;have hA0d:=hA0.below (Below.refl _ x0).drew
   go_region_held3 (AgP wb hb ra w.heap.size tm fl fu ke pa) (first
    | with_reducible exact AgP.drew hP0
    | with_reducible exact hP1
    | with_reducible assumption) (first | (go_at_call 33;refine(hO1 _ hD0d).mono ?_;rintro e x1 ⟨rfl,hD1,hsp1⟩;have hA1:=hA0d.host hsp1;have hP1:=hA1.p))
   obtain⟨⟨⟨q0,q1⟩,q2⟩,q6,q7,q8,q9⟩:=hA1.p
   go_wp2_with fail
   have hP1':=hA1.p;have hD1d:=hD1.below (Below.refl _ x1).drew;have hA1d:=hA1.below (Below.refl _ x1).drew
   go_region_held3 (AgP wb hb ra w.heap.size tm fl fu ke pa) (first
    | with_reducible exact AgP.drew hP1'
    | with_reducible exact hP2
    | with_reducible assumption) (first | (go_at_call 32;refine(hLo _ hD1d).mono ?_;rintro e x2 ⟨rfl,hD2,hsp2⟩;have hA2:=hA1d.host hsp2;have hP2:=hA2.p))
   go_wp2_with fail
 rotate_left 4
 focus
  have hod:(aa % 2==0)=false:=by simpa using hodd
  have hP0:=hA0.p;go_enter func60,ntmps60
  go_wp2_with fail
  generalize w.alloc (.cells #[.int .i64 kd,.string ⟨ss.toArray⟩,.string ⟨tt.toArray⟩,.int .u64 aa,.int .u64 bb,.int .u64 ff,.int .i64 fl,.int .i64 fu,.int .i64 ke,.int .i64 pa] 72)=x2 at *;have hD2:=Xa HD0;have hA2:=hA0
 rotate_left
 all_goals
  have hDx:=(hD2.below (Below.refl _ x2).drew)
  have hAx:=(hA2.below (Below.refl _ x2).drew)
  have hPx:=hA2.p
  go_region_held3 (AgP wb hb ra w.heap.size tm fl fu ke pa) (first
   | with_reducible exact AgP.drew hPx
   | with_reducible exact hPy1
   | with_reducible exact hPy2
   | with_reducible assumption) (first
   | (go_at_call 16;refine(hWl _).mono ?_;rintro e y1 ⟨rfl,hy1⟩;have hAy1:=hAx.below hy1;have hDy1:=hDx.below hy1;have hPy1:=hAy1.p)
   | (go_at_call 33;refine(hO2 _ hDy1).mono ?_;rintro e y2 ⟨rfl,⟨k2,vx2,T2,hT2,hS2⟩,hsp2⟩;have hAy2:=hAy1.host hsp2;have hPy2:=hAy2.p))
  obtain rfl:tm=T2:=by omega
  have hI2:=hI y2 hAy2 k2 vx2 hS2;obtain⟨⟨⟨q0,q1⟩,q2⟩,-⟩:=hPy2;have hLk:=hI2.looksAt q1
  go_wp2_with (go_at_call 38;refine hLk.mono ?_;rintro e y3 ⟨rfl,hy3⟩;have hAy3:=hAy2.below hy3;have hS3:=hS2.below hy3;have c2:=hAy3.k.box.cell 2 (v:=.pointer none) rfl;have c3:=hAy3.k.box.cell 3 (v:=.bool false) rfl;have c4:=hAy3.k.box.cell 4 (v:=.bool false) rfl;have f2:=hAy3.k.box.frozen 2;have f3:=hAy3.k.box.frozen 3;have f4:=hAy3.k.box.frozen 4)
  obtain⟨hA4,hs4⟩:=hAy3.set;have hS4:=hS3.other hs4 (fun b hb=>by rw [List.mem_singleton.1 hb];exact X1.of hAy3.k.box (Nat.le_trans b9 hbw) (by decide));generalize ((y3.setCell ⟨wb,2,none⟩ (.pointer none)).setCell ⟨wb,3,none⟩ (.bool false)).setCell ⟨wb,4,none⟩ (.bool false)=y4 at *;clear c2 c3 c4 f2 f3 f4 q0 q1 q2 hLk hs4 hS3 hAy3 hS2 hsp2;have hD4:=(hS4.dn hA4.k.hB hlen).below (Below.refl _ y4).drew;have hA4d:=hA4.below (Below.refl _ y4).drew;have hP4:=hA4.p
  go_region_held3 (AgP wb hb ra w.heap.size tm fl fu ke pa) (first
   | with_reducible exact AgP.drew hP4
   | with_reducible exact hP5
   | with_reducible assumption) (first | (go_at_call 32;refine(hLo _ hD4).mono ?_;rintro e y5 ⟨rfl,hD5,hsp5⟩;have hA5:=hA4d.host hsp5;have hP5:=hA5.p))
  go_wp2_with fail
  have hD5d:=hD5.below (Below.refl _ y5).drew;have hA5d:=hA5.below (Below.refl _ y5).drew;have hP5':=hA5.p
  go_region_held3 (AgP wb hb ra w.heap.size tm fl fu ke pa) (first
   | with_reducible exact AgP.drew hP5'
   | with_reducible exact hP6
   | with_reducible exact hP7
   | with_reducible assumption) (first
   | (go_at_call 16;refine(hWl _).mono ?_;rintro e y6 ⟨rfl,hy6⟩;have hA6:=hA5d.below hy6;have hD6:=hD5d.below hy6;have hP6:=hA6.p)
   | (go_at_call 33;refine(hO3 _ hD6).mono ?_;rintro e y7 ⟨rfl,⟨k7,vx7,T7,hT7,hS7⟩,hsp7⟩;have hA7:=hA6.host hsp7;have hP7:=hA7.p))
  go_wp2_with fail
  have hS7d:=hS7.below (Below.refl _ y7).drew;have hA7d:=hA7.below (Below.refl _ y7).drew;have hP7':=hA7.p;obtain⟨g9,cap9,L9,-,hl9,hn9⟩:=hA7.k.ex;have hnm:=hn9 k7 vx7
  have hTk:=fun W (hS:Sys B W hb rb ⟨k7,vx7,T7,s,c⟩) (hbw:B<=W.heap.size)=>Xun B hb rb _ W hS hbw hnm.al.tree (show s.tks.length+s.lks.length<=50 by have h1:s.tks.length<=10:=hnm.nt;have h2:s.lks.length<=14:=hnm.nl;omega) ((48*N:Nat):Int) (by omega) hnm.al.tr (show c.length<=890000000000 by omega) 9223372036854775808 tm (by decide) (by decide) t0 t1 0 0
  simp only at hTk;rw [show max T7 tm=tm by omega] at hTk;unfold Yn at hTk
  go_region_held3 (AgP wb hb ra w.heap.size tm fl fu ke pa) (first
   | with_reducible exact AgP.drew hP7'
   | with_reducible exact hP8
   | with_reducible exact hP9
   | with_reducible assumption) (first
   | (go_at_call 16;refine(hWl _).mono ?_;rintro e y8 ⟨rfl,hy8⟩;have hA8:=hA7d.below hy8;have hS8:=hS7d.below hy8;have hP8:=hA8.p)
   | (go_at_call 22;refine(hTk _ hS8 hA8.k.hB).mono ?_;rintro e y9 ⟨vx9,v9,b,rfl,hTs,hbq,hS9,hrow9,hgo9,hcl9,hsp9⟩;have hown:=Xkb hS8;have hA9:=hA8.kept hsp9 (hsp9.below hA8.k.hB (fun b hb=>(hown b hb).1)) (fun b hb=>(hown b hb).2);have hP9:=hA9.p))
  obtain⟨g,cap,L,hR9,hl,hn⟩:=hA9.k.ex;have hnk:=hn k7 vx7;have hst:=Tk.start (M:=((48*N:Nat):Int)) hTs hbq hnk.al rfl ⟨hS8.wh.v.va.ok,hS8.wh.v.nt,hS8.wh.v.nl⟩ hl hnk.hd (by decide) (by decide);have hCa:=Xvu (N:=N) (nt:=s.tks.length) (nl:=s.lks.length) y9 b9 hA9.k.hB hbw hra hS9 hrow9 hR9 hA9.k.box hst (show (9223372036854775808:Int)=Xiu 0 by decide) rfl (hnk.most hTs (by decide) (by decide)) ⟨rfl,rfl,Nat.le_refl _,Nat.le_refl _⟩
  go_wp2_with (go_at_call 103;refine hCa.mono ?_;rintro e y10 ⟨rfl,g',cap',L',xs,hS10,hR10,hW10,hT10,hsz,hB10⟩)
  go_ret;exact⟨rfl,Xnp (hA9.k.bel.trans hB10) (Nat.le_trans hA9.k.hB hB10.size) hbw hnk hS10 hR10 hW10 hra hTs hT10 (by decide) (by decide) ⟨hcl9.1,hcl9.2.1⟩ hsz⟩
end Go.Proofs
