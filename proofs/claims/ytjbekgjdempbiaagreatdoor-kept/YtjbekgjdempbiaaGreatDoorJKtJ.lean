import Derived.Test.YtjbekgjdempbiaaGreatDoorJKtH
import Derived.Test.YtjbekgjdempbiaaGreatDoorJAskVT
import Derived.Test.YtjbekgjdempbiaaGreatDoorJLogA
set_option maxRecDepth 100000
set_option maxHeartbeats 8000000
namespace Go.Proofs
open Go.RowKit Go.Sort Go.Lib Go.Shelf Go.Maps Go.WideMaps
structure Tryz.KB (w0:World) (B N wb hb:Nat) (tm:Int) (s:VSt) (c:List UInt8) (ra:Nat) (W:World):Prop where
 bel:Below B w0 W
 hB:B<=W.heap.size
 bw:B<=wb
 hra:B<=ra
 b9:9<=B
 ex:∃ g cap L,Tryz.Xk B W ra g cap L tm ((s.tn+1:Nat):Int) ((s.ln+1:Nat):Int)/\Rel s.tks s.lks L/\∀ k vx,Xd9 N ⟨k,vx,tm,s,c⟩ L
 box:BoxN W wb 69 #[.pointer (some ⟨hb,0,none⟩),.pointer (some ⟨ra,0,none⟩),.pointer none,.bool false,.bool false]
structure Tryz.Ag (w0:World) (B N wb hb:Nat) (tm:Int) (s:VSt) (c:List UInt8) (ra sb:Nat) (cs:Array Value) (W:World):Prop where
 k:Tryz.KB w0 B N wb hb tm s c ra W
 st:BoxN W sb 72 cs
 sl:9<=sb
section
variable {w0 W W':World} {B N wb hb ra sb:Nat} {tm:Int} {s:VSt} {c:List UInt8} {cs:Array Value}
theorem Tryz.Ag.kept (h:Ag w0 B N wb hb tm s c ra sb cs W) {bs:List Nat} (hs:Spares bs W W') (hB:Below B W W') (hq:∀ b∈bs,¬ X2 W b):Ag w0 B N wb hb tm s c ra sb cs W':=by
 obtain⟨g,cap,L,hR,hl,hn⟩:=h.k.ex;have b9:=h.k.b9;obtain⟨fA,fG⟩:=hR.foreign b9 (Nat.le_trans b9 h.k.hra);have fW:X2 W wb:=X2.of h.k.box (Nat.le_trans b9 h.k.bw) (by decide);have fS:X2 W sb:=X2.of h.st h.sl (by decide);exact⟨{ h.k with bel:=h.k.bel.trans hB,hB:=Nat.le_trans h.k.hB hB.size,ex:=⟨g,cap,L,hR.Zz hs (fun hx=>hq _ hx fA) (fun hx=>hq _ hx fG),hl,hn⟩,box:=hs.box h.k.box (fun hx=>hq _ hx fW) },hs.box h.st (fun hx=>hq _ hx fS),h.sl⟩
theorem Tryz.Ag.host (h:Ag w0 B N wb hb tm s c ra sb cs W) (hsp:Z9 B W W'):Ag w0 B N wb hb tm s c ra sb cs W':=by
 have hB:=hsp.below h.k.hB;obtain⟨hs,h1,h2⟩:=hsp;exact h.kept h1 hB (fun b hb=>(h2 b hb).2)
theorem Tryz.Ag.below (h:Ag w0 B N wb hb tm s c ra sb cs W) (hb':Below W.heap.size W W'):Ag w0 B N wb hb tm s c ra sb cs W':=h.kept (bs:=[]) (Spares.of_below hb') (hb'.mono h.k.hB) (by simp)
theorem Tryz.KB.below (h:KB w0 B N wb hb tm s c ra W) (hb':Below W.heap.size W W'):KB w0 B N wb hb tm s c ra W':=by
 obtain⟨g,cap,L,hR,hl,hn⟩:=h.ex;exact { h with bel:=h.bel.trans (hb'.mono h.hB),hB:=Nat.le_trans h.hB hb'.size,ex:=⟨g,cap,L,hR.below hb',hl,hn⟩,box:=h.box.below hb' h.box.lt }
theorem Tryz.Ag.set (h:Ag w0 B N wb hb tm s c ra sb cs W):Ag w0 B N wb hb tm s c ra sb cs (((W.setCell ⟨wb,2,none⟩ (.pointer none)).setCell ⟨wb,3,none⟩ (.bool false)).setCell ⟨wb,4,none⟩ (.bool false))/\Spares [wb] W (((W.setCell ⟨wb,2,none⟩ (.pointer none)).setCell ⟨wb,3,none⟩ (.bool false)).setCell ⟨wb,4,none⟩ (.bool false)):=by
 obtain⟨g,cap,L,hR,hl,hn⟩:=h.k.ex;obtain⟨cc,hg2⟩:=hR.Xbn;have hs:Spares [wb] W (((W.setCell ⟨wb,2,none⟩ (.pointer none)).setCell ⟨wb,3,none⟩ (.bool false)).setCell ⟨wb,4,none⟩ (.bool false)):=(((Spares.of_below (Below.refl _ _)).set (by simp) _ _).set (by simp) _ _).set (by simp) _ _;have hB:Below B W (((W.setCell ⟨wb,2,none⟩ (.pointer none)).setCell ⟨wb,3,none⟩ (.bool false)).setCell ⟨wb,4,none⟩ (.bool false)):=hs.below h.k.hB (fun b hb=>by rw [List.mem_singleton.1 hb];exact h.k.bw);exact⟨⟨{ h.k with bel:=h.k.bel.trans hB,hB:=Nat.le_trans h.k.hB hB.size,ex:=⟨g,cap,L,hR.Zz hs (fun hm=>hR.v.ne h.k.box (by decide) (List.mem_singleton.1 hm)) (fun hm=>hg2.ne h.k.box (by decide) (List.mem_singleton.1 hm)),hl,hn⟩,box:=((h.k.box.set 2 _).set 3 _).set 4 _ },hs.box h.st (fun hm=>h.st.ne h.k.box (by decide) (List.mem_singleton.1 hm)),h.sl⟩,hs⟩
end
abbrev AgP (wb hb ra sb:Nat) (tm fl fu ke pa:Int) (W:World):Prop:=((W.cell? ⟨wb,0,none⟩=some (.pointer (some ⟨hb,0,none⟩))/\W.cell? ⟨wb,1,none⟩=some (.pointer (some ⟨ra,0,none⟩)))/\W.cell? ⟨ra,1,none⟩=some (.int .u64 tm))/\W.cell? ⟨sb,6,none⟩=some (.int .i64 fl)/\W.cell? ⟨sb,7,none⟩=some (.int .i64 fu)/\W.cell? ⟨sb,8,none⟩=some (.int .i64 ke)/\W.cell? ⟨sb,9,none⟩=some (.int .i64 pa)
theorem Tryz.Ag.p {w0 W:World} {B N wb hb ra sb:Nat} {tm:Int} {s:VSt} {c:List UInt8} {kd:Int} {ss tt:List UInt8} {aa bb ff fl fu ke pa:Int} (h:Ag w0 B N wb hb tm s c ra sb (Xn.cells ⟨kd,ss,tt,aa,bb,ff,fl,fu,ke,pa⟩) W):AgP wb hb ra sb tm fl fu ke pa W:=by
 obtain⟨g,cap,L,hR,-⟩:=h.k.ex;exact⟨⟨⟨h.k.box.cell 0 rfl,h.k.box.cell 1 rfl⟩,hR.v.cell 1 rfl⟩,h.st.cell 6 rfl,h.st.cell 7 rfl,h.st.cell 8 rfl,h.st.cell 9 rfl⟩
theorem AgP.drew {wb hb ra sb:Nat} {tm fl fu ke pa:Int} {W:World} (h:AgP wb hb ra sb tm fl fu ke pa W):AgP wb hb ra sb tm fl fu ke pa W.drew:=h
theorem Tryz.again {w0:World} {B N wb hb rb ra:Nat} {tm:Int} {s:VSt} {c:List UInt8} (w:World) (hD:Dn B w hb rb tm s c) (hK:KB w0 B N wb hb tm s c ra w) (hN:N<16384) (t0:0<=tm) (t1:tm<=18446744073709551615) (kd:Int) (ss tt:List UInt8) (aa bb ff fl fu ke pa:Int) (ha0:0<=aa) (ha1:aa<=18446744073709551615) (p0 : -9223372036854775808<=pa) (p1:pa<=9223372036854775807) :
  Calls prog 60 #[.pointer (some ⟨wb,0,none⟩),.agg (Xn.cells ⟨kd,ss,tt,aa,bb,ff,fl,fu,ke,pa⟩)] w fun e w'=>e=.returned (.bool true)/\Inv w0 B (N+1) wb hb w':=by
 have hb0:Below w.heap.size w (w.alloc (.cells (Xn.cells ⟨kd,ss,tt,aa,bb,ff,fl,fu,ke,pa⟩) 72)):=(Below.refl _ w).alloc (Nat.le_refl _) _;have bS:=BoxN.new w 72 (Xn.cells ⟨kd,ss,tt,aa,bb,ff,fl,fu,ke,pa⟩);have b9:=hK.b9;have hKB:=hK.hB;have hbw:=hK.bw;have hra:=hK.hra
 have hA0:Ag w0 B N wb hb tm s c ra w.heap.size _ _:=⟨hK.below hb0,bS,by omega⟩
 have hD0:=hD.below hb0;have hlen:=hD.len
 have hWl:=fun W=>Xss W
 have hmx:max tm tm=tm:=by omega
 obtain⟨n,hn,hO1⟩:=Xt0 (B:=B) (hb:=hb) (rb:=rb) (tm:=tm) (s:=s) (c:=c) tm fl fu ke pa t0 t1 p0 p1;rw [hmx] at hO1
 have hLo:=fun W (h:Dn B W hb rb tm s c)=>Xqo h ke pa p0 p1
 have hO2:=fun W (h:Dn B W hb rb tm s c)=>Xlq h tm (-1) (-1) 0 0 t0 t1 (.inr ⟨by decide,by decide⟩)
 have hO3:=fun W (h:Dn B W hb rb tm s c)=>Xlq h 0 (-1) (-1) 0 0 (Int.le_refl _) (by decide) (.inr ⟨by decide,by decide⟩)
 have hI:=fun W (hA:Ag w0 B N wb hb tm s c ra w.heap.size (Xn.cells ⟨kd,ss,tt,aa,bb,ff,fl,fu,ke,pa⟩) W) k vx (hS:Sys B W hb rb ⟨k,vx,tm,s,c⟩)=>show Inv w0 B N wb hb W from by
  obtain⟨g,cap,L,hR,hl,hn⟩:=hA.k.ex;exact⟨hA.k.bel,hA.k.hB,hA.k.bw,⟨rb,_,ra,g,cap,L,hS,hR,hl,hA.k.box,hn k vx,hA.k.hra⟩⟩
 unfold Yo at hWl hO1 hO2 hO3;have s3:=bS.cell 3 (v:=.int .u64 aa) rfl;have HD0:=Xb hD0;clear hD hK hb0;simp only [Xn.cells] at *
 by_cases hodd:aa % 2=0
 focus
  have hod:(aa % 2==0)=true:=by simpa using hodd
  have hn':n=0\/(n=8/\¬ fl<0)\/(n=7/\¬ fl<0)\/(n=7/\fl<0/\¬ fu<0):=by omega
  clear hn
  rcases hn' with rfl | ⟨rfl,hfx⟩ | ⟨rfl,hfx⟩ | ⟨rfl,hfx,hfy⟩
  all_goals
   have hP0:=hA0.p;go_enter func60,ntmps60
   go_wp2_with fail
   generalize w.alloc (.cells #[.int .i64 kd,.string ⟨ss.toArray⟩,.string ⟨tt.toArray⟩,.int .u64 aa,.int .u64 bb,.int .u64 ff,.int .i64 fl,.int .i64 fu,.int .i64 ke,.int .i64 pa] 72)=x0 at *;have hD0d:=(Xa HD0).below (Below.refl _ x0).drew;have hA0d:=hA0.below (Below.refl _ x0).drew
   go_region_held3 (AgP wb hb ra w.heap.size tm fl fu ke pa) (first
    | with_reducible exact AgP.drew hP0
    | with_reducible exact hP1
    | with_reducible assumption) (first | (go_at_call 33;refine(hO1 _ hD0d).mono ?_;rintro e x1 ⟨rfl,hD1,hsp1⟩;have hA1:=hA0d.host hsp1;have hP1:=hA1.p))
   obtain⟨⟨⟨q0,q1⟩,q2⟩,q6,q7,q8,q9⟩:=hA1.p
   go_wp2_with fail
   have hP1':=hA1.p;have hD1d:=hD1.below (Below.refl _ x1).drew;have hA1d:=hA1.below (Below.refl _ x1).drew
   go_region_held3 (AgP wb hb ra w.heap.size tm fl fu ke pa) (first
    | with_reducible exact AgP.drew hP1'
    | with_reducible exact hP2
    | with_reducible assumption) (first | (go_at_call 32;refine(hLo _ hD1d).mono ?_;rintro e x2 ⟨rfl,hD2,hsp2⟩;have hA2:=hA1d.host hsp2;have hP2:=hA2.p))
   go_wp2_with fail
 rotate_left 4
 focus
  have hod:(aa % 2==0)=false:=by simpa using hodd
  have hP0:=hA0.p;go_enter func60,ntmps60
  go_wp2_with fail
  generalize w.alloc (.cells #[.int .i64 kd,.string ⟨ss.toArray⟩,.string ⟨tt.toArray⟩,.int .u64 aa,.int .u64 bb,.int .u64 ff,.int .i64 fl,.int .i64 fu,.int .i64 ke,.int .i64 pa] 72)=x2 at *;have hD2:=Xa HD0;have hA2:=hA0
 rotate_left
 all_goals
  have hDx:=(hD2.below (Below.refl _ x2).drew)
  have hAx:=(hA2.below (Below.refl _ x2).drew)
  have hPx:=hA2.p
  go_region_held3 (AgP wb hb ra w.heap.size tm fl fu ke pa) (first
   | with_reducible exact AgP.drew hPx
   | with_reducible exact hPy1
   | with_reducible exact hPy2
   | with_reducible assumption) (first
   | (go_at_call 16;refine(hWl _).mono ?_;rintro e y1 ⟨rfl,hy1⟩;have hAy1:=hAx.below hy1;have hDy1:=hDx.below hy1;have hPy1:=hAy1.p)
   | (go_at_call 33;refine(hO2 _ hDy1).mono ?_;rintro e y2 ⟨rfl,⟨k2,vx2,T2,hT2,hS2⟩,hsp2⟩;have hAy2:=hAy1.host hsp2;have hPy2:=hAy2.p))
  obtain rfl:tm=T2:=by omega
  have hI2:=hI y2 hAy2 k2 vx2 hS2;obtain⟨⟨⟨q0,q1⟩,q2⟩,-⟩:=hPy2;have hLk:=hI2.looksAt q1
  go_wp2_with (go_at_call 38;refine hLk.mono ?_;rintro e y3 ⟨rfl,hy3⟩;have hAy3:=hAy2.below hy3;have hS3:=hS2.below hy3;have c2:=hAy3.k.box.cell 2 (v:=.pointer none) rfl;have c3:=hAy3.k.box.cell 3 (v:=.bool false) rfl;have c4:=hAy3.k.box.cell 4 (v:=.bool false) rfl;have f2:=hAy3.k.box.frozen 2;have f3:=hAy3.k.box.frozen 3;have f4:=hAy3.k.box.frozen 4)
  obtain⟨hA4,hs4⟩:=hAy3.set;have hS4:=hS3.other hs4 (fun b hb=>by rw [List.mem_singleton.1 hb];exact X2.of hAy3.k.box (Nat.le_trans b9 hbw) (by decide));generalize ((y3.setCell ⟨wb,2,none⟩ (.pointer none)).setCell ⟨wb,3,none⟩ (.bool false)).setCell ⟨wb,4,none⟩ (.bool false)=y4 at *;clear c2 c3 c4 f2 f3 f4 q0 q1 q2 hLk hs4 hS3 hAy3 hS2 hsp2;have hD4:=(hS4.dn hA4.k.hB hlen).below (Below.refl _ y4).drew;have hA4d:=hA4.below (Below.refl _ y4).drew;have hP4:=hA4.p
  go_region_held3 (AgP wb hb ra w.heap.size tm fl fu ke pa) (first
   | with_reducible exact AgP.drew hP4
   | with_reducible exact hP5
   | with_reducible assumption) (first | (go_at_call 32;refine(hLo _ hD4).mono ?_;rintro e y5 ⟨rfl,hD5,hsp5⟩;have hA5:=hA4d.host hsp5;have hP5:=hA5.p))
  go_wp2_with fail
  have hD5d:=hD5.below (Below.refl _ y5).drew;have hA5d:=hA5.below (Below.refl _ y5).drew;have hP5':=hA5.p
  go_region_held3 (AgP wb hb ra w.heap.size tm fl fu ke pa) (first
   | with_reducible exact AgP.drew hP5'
   | with_reducible exact hP6
   | with_reducible exact hP7
   | with_reducible assumption) (first
   | (go_at_call 16;refine(hWl _).mono ?_;rintro e y6 ⟨rfl,hy6⟩;have hA6:=hA5d.below hy6;have hD6:=hD5d.below hy6;have hP6:=hA6.p)
   | (go_at_call 33;refine(hO3 _ hD6).mono ?_;rintro e y7 ⟨rfl,⟨k7,vx7,T7,hT7,hS7⟩,hsp7⟩;have hA7:=hA6.host hsp7;have hP7:=hA7.p))
  go_wp2_with fail
  have hS7d:=hS7.below (Below.refl _ y7).drew;have hA7d:=hA7.below (Below.refl _ y7).drew;have hP7':=hA7.p;obtain⟨g9,cap9,L9,-,hl9,hn9⟩:=hA7.k.ex;have hnm:=hn9 k7 vx7
  have hTk:=fun W (hS:Sys B W hb rb ⟨k7,vx7,T7,s,c⟩) (hbw:B<=W.heap.size)=>Xuh B hb rb _ W hS hbw hnm.al.tree (show s.tks.length+s.lks.length<=50 by have h1:s.tks.length<=10:=hnm.nt;have h2:s.lks.length<=14:=hnm.nl;omega) ((48*N:Nat):Int) (by omega) hnm.al.tr (show c.length<=890000000000 by omega) 9223372036854775808 tm (by decide) (by decide) t0 t1 0 0
  simp only at hTk;rw [show max T7 tm=tm by omega] at hTk;unfold Yo at hTk
  go_region_held3 (AgP wb hb ra w.heap.size tm fl fu ke pa) (first
   | with_reducible exact AgP.drew hP7'
   | with_reducible exact hP8
   | with_reducible exact hP9
   | with_reducible assumption) (first
   | (go_at_call 16;refine(hWl _).mono ?_;rintro e y8 ⟨rfl,hy8⟩;have hA8:=hA7d.below hy8;have hS8:=hS7d.below hy8;have hP8:=hA8.p)
   | (go_at_call 22;refine(hTk _ hS8 hA8.k.hB).mono ?_;rintro e y9 ⟨vx9,v9,b,rfl,hTs,hbq,hS9,hrow9,hgo9,hcl9,hsp9⟩;have hown:=Xi5 hS8;have hA9:=hA8.kept hsp9 (hsp9.below hA8.k.hB (fun b hb=>(hown b hb).1)) (fun b hb=>(hown b hb).2);have hP9:=hA9.p))
  obtain⟨g,cap,L,hR9,hl,hn⟩:=hA9.k.ex;have hnk:=hn k7 vx7;have hst:=Tk.start (M:=((48*N:Nat):Int)) hTs hbq hnk.al rfl ⟨hS8.wh.v.va.ok,hS8.wh.v.nt,hS8.wh.v.nl⟩ hl hnk.hd (by decide) (by decide);have hCa:=Xvj (N:=N) (nt:=s.tks.length) (nl:=s.lks.length) y9 b9 hA9.k.hB hbw hra hS9 hrow9 hR9 hA9.k.box hst (show (9223372036854775808:Int)=Xj3 0 by decide) rfl (hnk.most hTs (by decide) (by decide)) ⟨rfl,rfl,Nat.le_refl _,Nat.le_refl _⟩
  go_wp2_with (go_at_call 103;refine hCa.mono ?_;rintro e y10 ⟨rfl,g',cap',L',xs,hS10,hR10,hW10,hT10,hsz,hB10⟩)
  go_ret;exact⟨rfl,Xm4 (hA9.k.bel.trans hB10) (Nat.le_trans hA9.k.hB hB10.size) hbw hnk hS10 hR10 hW10 hra hTs hT10 (by decide) (by decide) ⟨hcl9.1,hcl9.2.1⟩ hsz⟩
end Go.Proofs
namespace Go.Proofs
open Go.RowKit Go.Sort Go.Lib Go.Shelf Go.Maps
theorem Tryz.stepT {w0:World} {B N M wb hb:Nat} (w:World) (hI:Inv w0 B N wb hb w) (ss tt:List UInt8) (aa bb ff fl fu ke pa:Int)
  (hA:∀ W,Inv w0 B N wb hb W->Calls prog 61 #[.pointer (some ⟨wb,0,none⟩),.agg (Xn.cells ⟨8,ss,tt,aa,bb,ff,-1,-1,0,0⟩)] W fun e w'=>e=.returned (.bool true)/\Inv w0 B M wb hb w') :
  Calls prog 39 #[.pointer (some ⟨wb,0,none⟩),.agg (Xn.cells ⟨8,ss,tt,aa,bb,ff,fl,fu,ke,pa⟩),.bool false] w fun e w'=>e=.returned (.bool true)/\Inv w0 B M wb hb w':=by
 obtain⟨rb,σ,ra,g,cap,L,-,-,-,hW,-⟩:=hI.ex;have lW:=hW.lt;have c3:=hW.cell 3 (v:=.bool false) rfl;have f3:=hW.frozen 3
 have hI3:=fun W (b:Below w.heap.size w W)=>(hI.below b).sick
 have hWl:=fun W=>Xss W
 unfold Yo at hWl;have hb0:Below w.heap.size w (w.alloc (.cells (Xn.cells ⟨8,ss,tt,aa,bb,ff,fl,fu,ke,pa⟩) 72)):=(Below.refl _ w).alloc (Nat.le_refl _) _;have bS:=BoxN.new w 72 (Xn.cells ⟨8,ss,tt,aa,bb,ff,fl,fu,ke,pa⟩);simp only [Xn.cells] at *;go_enter func39,ntmps39
 go_wp2_with (first
  | (go_at_call 16;refine(hWl _).mono ?_;rintro e w1 ⟨rfl,hb1⟩;have bS1:=bS.below hb1 (by simp);have y0:=bS1.cell 0 (v:=.int .i64 8) rfl;have y1:=bS1.cell 1 (v:=.string ⟨ss.toArray⟩) rfl;have y2:=bS1.cell 2 (v:=.string ⟨tt.toArray⟩) rfl;have y3:=bS1.cell 3 (v:=.int .u64 aa) rfl;have y4:=bS1.cell 4 (v:=.int .u64 bb) rfl;have y5:=bS1.cell 5 (v:=.int .u64 ff) rfl;have y6:=bS1.cell 6 (v:=.int .i64 fl) rfl;have y7:=bS1.cell 7 (v:=.int .i64 fu) rfl;have y8:=bS1.cell 8 (v:=.int .i64 ke) rfl;have y9:=bS1.cell 9 (v:=.int .i64 pa) rfl;have z6:=bS1.frozen 6;have z7:=bS1.frozen 7;have z8:=bS1.frozen 8;have z9:=bS1.frozen 9;have bW1:=(hW.alloc (.cells #[.int .i64 8,.string ⟨ss.toArray⟩,.string ⟨tt.toArray⟩,.int .u64 aa,.int .u64 bb,.int .u64 ff,.int .i64 fl,.int .i64 fu,.int .i64 ke,.int .i64 pa] 72)).below hb1 (by simp;omega);have x3:=bW1.cell 3 (v:=.bool false) rfl;have x3f:=bW1.frozen 3)
  | (go_at_call 61;refine(hA _ (hI3 _ (((((hb0.trans (hb1.mono (by simp))).setCell (p:=⟨w.heap.size,6,none⟩) (Nat.le_refl _) _).setCell (p:=⟨w.heap.size,7,none⟩) (Nat.le_refl _) _).setCell (p:=⟨w.heap.size,8,none⟩) (Nat.le_refl _) _).setCell (p:=⟨w.heap.size,9,none⟩) (Nat.le_refl _) _))).mono ?_;rintro e w2 ⟨rfl,hI2⟩;obtain⟨rb2,σ2,ra2,g2,cap2,L2,hS2,hR2,hl2,hW2,-⟩:=hI2.ex;have q0:=hW2.cell 0 (v:=.pointer (some ⟨hb,0,none⟩)) rfl;have q1:=hW2.cell 1 (v:=.pointer (some ⟨ra2,0,none⟩)) rfl)
  | (go_at_call 36;refine(hIs hb _ _ _ w2 hS2.host).mono ?_;rintro e w3 ⟨rfl,rfl⟩)
  | (go_at_call 38;refine(looks B wb hb ra2 g2 cap2 σ2.k.vb σ2.k.mt σ2.k.ml σ2.vx σ2.tm σ2.s.tn σ2.s.ln _ _ σ2.s.tks σ2.s.lks L2 _ _ _ _ _ _ _ hW2 hS2.host hS2.wh.v.va hR2 hl2).mono ?_;rintro e w4 ⟨rfl,hb4⟩))
 go_ret;exact⟨rfl,hI2.below hb4⟩
theorem Tryz.okAll {w0:World} {B N wb hb:Nat} (w:World) (hI:Inv w0 B N wb hb w) (hN:N<16384) (st:Xn) (hk:st.kind ∈ [1,2,3,4,5,6,7]) (hz:Xct st) (ho:Xbb st) :
  Calls prog 62 #[.pointer (some ⟨wb,0,none⟩),.agg (Xn.cells ⟨st.kind,st.s,st.t,st.a,st.b,st.f,-1,-1,0,0⟩)] w fun e w'=>e=.returned (.bool true)/\Inv w0 B (N+1) wb hb w':=by
 obtain⟨kind,ss,tt,aa,bb,ff,fl,fu,ke,pa⟩:=st;obtain⟨⟨o1,o2⟩,⟨o3,o4⟩,-⟩:=ho;unfold Xct at hz;simp only at hz o1 o2 o3 o4 hk ⊢;simp only [List.mem_cons,List.not_mem_nil,or_false] at hk
 rcases hk with rfl | rfl | rfl | rfl | rfl | rfl | rfl
 ·exact Xsr w hI (by omega) ss tt (by omega) aa bb ff 0 0
 ·exact Xta w hI (by omega) ss tt (by omega) (by omega) aa bb ff 0 0 o1 o2 o3 o4
 ·exact Xs9 w hI (by omega) ss tt (by omega) aa bb ff 0 0 o1 o2
 ·exact Xvh w hI ss tt (by omega) aa bb ff (-1) (-1) 0 0
 ·exact Xq0 w hI (by omega) ss tt (by omega) aa bb ff 0 0
 ·exact Xri w hI (by omega) ss tt (by omega) aa bb ff 0 0
 exact Xvl w hI (by omega) ss tt (by omega) aa bb ff 0 0
theorem Tryz.Xht (w:World) (S:List Xn):Xqj w S [1,2,3,4,5,6,7,8] false (fun wb hb k W=>Inv w w.heap.size k wb hb W) where
 bel h:=h.bel
 later h hb:=h.below hb
 more h:=h.more (by omega)
 start h:=h
 step:=fun {wb hb k W st} hk _ hz ho hin h=>by
  by_cases h8:st.kind=8
  ·obtain⟨kind,ss,tt,aa,bb,ff,fl,fu,ke,pa⟩:=st
   obtain⟨⟨o1,o2⟩,⟨o3,o4⟩,⟨o5,o6⟩,-⟩:=ho;simp only at h8 o1 o2 o3 o4 o5 o6;subst h8;exact stepT W h ss tt aa bb ff fl fu ke pa (fun W' h'=>Xv5 W' h' hk ss tt aa bb ff o1 o2 o3 o5 o6 0 0)
  simp only [List.mem_cons,List.not_mem_nil,or_false] at hin;exact step W h st.kind (by simpa using h8) (by simp;omega) st.s st.t st.a st.b st.f st.fl st.fu st.ke st.pa (fun W' h'=>okAll W' h' hk st (by simp only [List.mem_cons,List.not_mem_nil,or_false];omega) hz ho)
end Go.Proofs
namespace Go.Proofs
open Go.RowKit Go.Sort Go.Lib Go.Shelf Go.Maps Go.WideMaps
theorem Tryz.stepL {w0:World} {B N wb hb:Nat} (w:World) (hI:Inv w0 B N wb hb w) (hN:N<16384) (ss tt:List UInt8) (aa bb ff fl fu ke pa:Int) (ha0:0<=aa) (ha1:aa<=18446744073709551615) (p0 : -9223372036854775808<=pa) (p1:pa<=9223372036854775807) :
  Calls prog 39 #[.pointer (some ⟨wb,0,none⟩),.agg (Xn.cells ⟨10,ss,tt,aa,bb,ff,fl,fu,ke,pa⟩),.bool false] w fun e w'=>e=.returned (.bool true)/\Inv w0 B (N+1) wb hb w':=by
 obtain⟨rb,σ,ra,g,cap,L,hS,hR,hl,hW,hn,hra⟩:=hI.ex;obtain⟨k,vx,tm,s,c⟩:=σ;have t0:0<=tm:=hS.wh.v.t0;have t1:tm<=18446744073709551615:=hS.wh.v.t1;have b9:=hS.b9
 have hlen:c.length<4294967281:=by have h1:c.length<=N*150000:=hn.c;omega
 have hD:Dn B w hb rb tm s c:=hS.dn hI.hB hlen
 have hK:KB w0 B N wb hb tm s c ra w:=⟨hI.bel,hI.hB,hI.bw,hra,b9,⟨g,cap,L,hR,hl,fun _ _=>⟨hn.nt,hn.nl,hn.pos,hn.tn,hn.ln,hn.c,hn.al,hn.hd⟩⟩,hW⟩
 have hb0:Below w.heap.size w (w.alloc (.cells (Xn.cells ⟨10,ss,tt,aa,bb,ff,fl,fu,ke,pa⟩) 72)):=(Below.refl _ w).alloc (Nat.le_refl _) _;have bS:=BoxN.new w 72 (Xn.cells ⟨10,ss,tt,aa,bb,ff,fl,fu,ke,pa⟩);have hKB:=hK.hB
 have hA0:Ag w0 B N wb hb tm s c ra w.heap.size _ _:=⟨hK.below hb0,bS,by omega⟩
 have hD0:=hD.below hb0
 have hLo:=fun W (h:Dn B W hb rb tm s c)=>Xqo h ke pa p0 p1
 have hAg:=fun W (h:Dn B W hb rb tm s c) (hk:KB w0 B N wb hb tm s c ra W)=>again W h hk hN t0 t1 10 ss tt aa bb ff fl fu ke pa ha0 ha1 p0 p1
 have s0:=bS.cell 0 (v:=.int .i64 10) rfl;have s3:=bS.cell 3 (v:=.int .u64 aa) rfl;have HD0:=Xb hD0;clear hS hR hl hW hn hI hD hK hb0;simp only [Xn.cells] at *
 by_cases hodd:aa % 2=0
 ·have hod:(aa % 2==0)=true:=by simpa using hodd
  have hP0:=hA0.p;go_enter func39,ntmps39
  go_wp2_with fail
  generalize w.alloc (.cells #[.int .i64 10,.string ⟨ss.toArray⟩,.string ⟨tt.toArray⟩,.int .u64 aa,.int .u64 bb,.int .u64 ff,.int .i64 fl,.int .i64 fu,.int .i64 ke,.int .i64 pa] 72)=x0 at *;have hD0d:=(Xa HD0).below (Below.refl _ x0).drew;have hA0d:=hA0.below (Below.refl _ x0).drew
  go_region_held3 (AgP wb hb ra w.heap.size tm fl fu ke pa) (first
   | with_reducible exact AgP.drew hP0
   | with_reducible exact hP1
   | with_reducible assumption) (first | (go_at_call 32;refine(hLo _ hD0d).mono ?_;rintro e x1 ⟨rfl,hD1,hsp1⟩;have hA1:=hA0d.host hsp1;have hP1:=hA1.p))
  have y0:=hA1.st.cell 0 (v:=.int .i64 10) rfl;have y1:=hA1.st.cell 1 (v:=.string ⟨ss.toArray⟩) rfl;have y2:=hA1.st.cell 2 (v:=.string ⟨tt.toArray⟩) rfl;have y3:=hA1.st.cell 3 (v:=.int .u64 aa) rfl;have y4:=hA1.st.cell 4 (v:=.int .u64 bb) rfl;have y5:=hA1.st.cell 5 (v:=.int .u64 ff) rfl;obtain⟨-,y6,y7,y8,y9⟩:=hA1.p;have hAg1:=hAg x1 hD1 hA1.k
  go_wp2_with (go_at_call 60;refine hAg1.mono ?_;rintro e x2 ⟨rfl,hI2⟩)
  go_ret;exact⟨rfl,hI2⟩
 have hod:(aa % 2==0)=false:=by simpa using hodd
 have hAg1:=hAg _ (Xa HD0) hA0.k;have y1:=bS.cell 1 (v:=.string ⟨ss.toArray⟩) rfl;have y2:=bS.cell 2 (v:=.string ⟨tt.toArray⟩) rfl;have y4:=bS.cell 4 (v:=.int .u64 bb) rfl;have y5:=bS.cell 5 (v:=.int .u64 ff) rfl;obtain⟨-,y6,y7,y8,y9⟩:=hA0.p;go_enter func39,ntmps39
 go_wp2_with (go_at_call 60;refine hAg1.mono ?_;rintro e x2 ⟨rfl,hI2⟩)
 go_ret;exact⟨rfl,hI2⟩
theorem Tryz.Xon (w:World) (S:List Xn):Xqj w S [1,2,3,4,5,6,7,8,10] false (fun wb hb k W=>Inv w w.heap.size k wb hb W) where
 bel h:=h.bel
 later h hb:=h.below hb
 more h:=h.more (by omega)
 start h:=h
 step:=fun {wb hb k W st} hk hin' hz ho hin h=>by
  by_cases h10:st.kind=10
  ·obtain⟨kind,ss,tt,aa,bb,ff,fl,fu,ke,pa⟩:=st
   obtain⟨⟨o1,o2⟩,-,-,o7,o8⟩:=ho;simp only at h10 o1 o2 o7 o8;subst h10;exact stepL W h hk ss tt aa bb ff fl fu ke pa o1 o2 o7 o8
  exact(Xht w S).step hk hin' hz ho (by simp only [List.mem_cons,List.not_mem_nil,or_false] at hin ⊢;omega) h
theorem Tryz.kept (p:Option Addr) (cap:Nat) (S:List Xn) (w:World) (hS:V9 w p S) (hpl:S ≠ []->∀ a,p=some a->a.block<w.heap.size) (hl:S.length<=281474976710656) (hz:∀ st∈S,st.s.length<=281474976710656/\st.t.length<=281474976710656) (hok:∀ st∈S,Xbb st) (h9:9<=w.heap.size) (hE:Env w) (hT:Ja w) :
  Calls prog 5 #[.slice p S.length cap] w fun e w'=>e=.returned (.bool true)/\Below w.heap.size w w':=by
 have hb0:Below w.heap.size w (w.alloc (.cells #[.int .i64 1,.int .i64 2,.int .i64 3,.int .i64 4,.int .i64 5,.int .i64 6,.int .i64 7,.int .i64 8,.int .i64 10] 3)):=(Below.refl _ w).alloc (Nat.le_refl _) _;have bK:=BoxN.new w 3 #[.int .i64 1,.int .i64 2,.int .i64 3,.int .i64 4,.int .i64 5,.int .i64 6,.int .i64 7,.int .i64 8,.int .i64 10]
 have hP:=Xu1 p cap w.heap.size [1,2,3,4,5,6,7,8,10] false S _ _ (hS.below hb0 hpl) (fun hne a e=>by have:=hpl hne a e;simp;omega) hl hz hok (fun j v hv=>bK.cell j (by
  match j,hv with
  | 0,hv | 1,hv | 2,hv | 3,hv | 4,hv | 5,hv | 6,hv | 7,hv | 8,hv=>simpa using hv)) bK.lt (by decide) (by simp;omega) (hE.below hb0 (Nat.le_trans (by decide) h9)) (hT.below (hb0.mono h9)) (Xon _ S)
 go_enter func5,ntmps5
 go_wp2_with (go_at_call 14;refine hP.mono ?_;rintro e w1 ⟨rfl,hb1⟩)
 go_ret;exact⟨rfl,hb0.trans (hb1.mono (by simp))⟩
end Go.Proofs
