import Derived.Test.YtjbekgjdempbiaaGreatDoorJKtI
import Derived.Test.YtjbekgjdempbiaaGreatDoorJLawU
set_option maxRecDepth 100000
set_option maxHeartbeats 8000000
namespace Go.Proofs
open Go.RowKit Go.Sort Go.Lib Go.Shelf Go.Maps Go.WideMaps
theorem Tryz.stepL {w0:World} {B N wb hb:Nat} (w:World) (hI:Inv w0 B N wb hb w) (hN:N<16384) (ss tt:List UInt8) (aa bb ff fl fu ke pa:Int) (ha0:0<=aa) (ha1:aa<=18446744073709551615) (p0 : -9223372036854775808<=pa) (p1:pa<=9223372036854775807) :
  Calls prog 39 #[.pointer (some ⟨wb,0,none⟩),.agg (Xo.cells ⟨10,ss,tt,aa,bb,ff,fl,fu,ke,pa⟩),.bool false] w fun e w'=>e=.returned (.bool true)/\Inv w0 B (N+1) wb hb w':=by
 obtain⟨rb,σ,ra,g,cap,L,hS,hR,hl,hW,hn,hra⟩:=hI.ex;obtain⟨k,vx,tm,s,c⟩:=σ;have t0:0<=tm:=hS.wh.v.t0;have t1:tm<=18446744073709551615:=hS.wh.v.t1;have b9:=hS.b9
 have hlen:c.length<4294967281:=by have h1:c.length<=N*150000:=hn.c;omega
 have hD:Dn B w hb rb tm s c:=hS.dn hI.hB hlen
 have hK:KB w0 B N wb hb tm s c ra w:=⟨hI.bel,hI.hB,hI.bw,hra,b9,⟨g,cap,L,hR,hl,fun _ _=>⟨hn.nt,hn.nl,hn.pos,hn.tn,hn.ln,hn.c,hn.al,hn.hd⟩⟩,hW⟩
 have hb0:Below w.heap.size w (w.alloc (.cells (Xo.cells ⟨10,ss,tt,aa,bb,ff,fl,fu,ke,pa⟩) 72)):=(Below.refl _ w).alloc (Nat.le_refl _) _;have bS:=BoxN.new w 72 (Xo.cells ⟨10,ss,tt,aa,bb,ff,fl,fu,ke,pa⟩);have hKB:=hK.hB
 have hA0:Ag w0 B N wb hb tm s c ra w.heap.size _ _:=⟨hK.below hb0,bS,by omega⟩
 have hD0:=hD.below hb0
 have hLo:=fun W (h:Dn B W hb rb tm s c)=>Xqn h ke pa p0 p1
 have hAg:=fun W (h:Dn B W hb rb tm s c) (hk:KB w0 B N wb hb tm s c ra W)=>again W h hk hN t0 t1 10 ss tt aa bb ff fl fu ke pa ha0 ha1 p0 p1
 have s0:=bS.cell 0 (v:=.int .i64 10) rfl;have s3:=bS.cell 3 (v:=.int .u64 aa) rfl;have HD0:=Xb hD0;clear hS hR hl hW hn hI hD hK hb0;simp only [Xo.cells] at *
 by_cases hodd:aa % 2=0
 ·have hod:(aa % 2==0)=true:=by simpa using hodd
  have hP0:=hA0.p;go_enter func39,ntmps39
  go_wp2_with fail
  generalize w.alloc (.cells #[.int .i64 10,.string ⟨ss.toArray⟩,.string ⟨tt.toArray⟩,.int .u64 aa,.int .u64 bb,.int .u64 ff,.int .i64 fl,.int .i64 fu,.int .i64 ke,.int .i64 pa] 72)=x0 at *;have hD0d:=(Xa HD0).below (Below.refl _ x0).drew;have hA0d:=hA0.below (Below.refl _ x0).drew
  go_region_held3 (AgP wb hb ra w.heap.size tm fl fu ke pa) (first
   | with_reducible exact AgP.drew hP0
   | with_reducible exact hP1
   | with_reducible assumption) (first | (go_at_call 32;refine(hLo _ hD0d).mono ?_;rintro e x1 ⟨rfl,hD1,hsp1⟩;have hA1:=hA0d.host hsp1;have hP1:=hA1.p))
  have y0:=hA1.st.cell 0 (v:=.int .i64 10) rfl;have y1:=hA1.st.cell 1 (v:=.string ⟨ss.toArray⟩) rfl;have y2:=hA1.st.cell 2 (v:=.string ⟨tt.toArray⟩) rfl;have y3:=hA1.st.cell 3 (v:=.int .u64 aa) rfl;have y4:=hA1.st.cell 4 (v:=.int .u64 bb) rfl;have y5:=hA1.st.cell 5 (v:=.int .u64 ff) rfl;obtain⟨-,y6,y7,y8,y9⟩:=hA1.p;have hAg1:=hAg x1 hD1 hA1.k
  go_wp2_with (go_at_call 60;refine hAg1.mono ?_;rintro e x2 ⟨rfl,hI2⟩)
  go_ret;exact⟨rfl,hI2⟩
 have hod:(aa % 2==0)=false:=by simpa using hodd
 have hAg1:=hAg _ (Xa HD0) hA0.k;have y1:=bS.cell 1 (v:=.string ⟨ss.toArray⟩) rfl;have y2:=bS.cell 2 (v:=.string ⟨tt.toArray⟩) rfl;have y4:=bS.cell 4 (v:=.int .u64 bb) rfl;have y5:=bS.cell 5 (v:=.int .u64 ff) rfl;obtain⟨-,y6,y7,y8,y9⟩:=hA0.p;go_enter func39,ntmps39
 go_wp2_with (go_at_call 60;refine hAg1.mono ?_;rintro e x2 ⟨rfl,hI2⟩)
 go_ret;exact⟨rfl,hI2⟩
theorem Tryz.Xoa (w:World) (S:List Xo):Xq6 w S [1,2,3,4,5,6,7,8,10] false (fun wb hb k W=>Inv w w.heap.size k wb hb W) where
 bel h:=h.bel
 later h hb:=h.below hb
 more h:=h.more (by omega)
 start h:=h
 step:=fun {wb hb k W st} hk hin' hz ho hin h=>by
  by_cases h10:st.kind=10
  ·obtain⟨kind,ss,tt,aa,bb,ff,fl,fu,ke,pa⟩:=st
   obtain⟨⟨o1,o2⟩,-,-,o7,o8⟩:=ho;simp only at h10 o1 o2 o7 o8;subst h10;exact stepL W h hk ss tt aa bb ff fl fu ke pa o1 o2 o7 o8
  exact(Xhp w S).step hk hin' hz ho (by simp only [List.mem_cons,List.not_mem_nil,or_false] at hin ⊢;omega) h
theorem Tryz.kept (p:Option Addr) (cap:Nat) (S:List Xo) (w:World) (hS:Me w p S) (hpl:S ≠ []->∀ a,p=some a->a.block<w.heap.size) (hl:S.length<=281474976710656) (hz:∀ st∈S,st.s.length<=281474976710656/\st.t.length<=281474976710656) (hok:∀ st∈S,Xbb st) (h9:9<=w.heap.size) (hE:Env w) (hT:Ja w) :
  Calls prog 5 #[.slice p S.length cap] w fun e w'=>e=.returned (.bool true)/\Below w.heap.size w w':=by
 have hb0:Below w.heap.size w (w.alloc (.cells #[.int .i64 1,.int .i64 2,.int .i64 3,.int .i64 4,.int .i64 5,.int .i64 6,.int .i64 7,.int .i64 8,.int .i64 10] 3)):=(Below.refl _ w).alloc (Nat.le_refl _) _;have bK:=BoxN.new w 3 #[.int .i64 1,.int .i64 2,.int .i64 3,.int .i64 4,.int .i64 5,.int .i64 6,.int .i64 7,.int .i64 8,.int .i64 10]
 have hP:=Xuw p cap w.heap.size [1,2,3,4,5,6,7,8,10] false S _ _ (hS.below hb0 hpl) (fun hne a e=>by have:=hpl hne a e;simp;omega) hl hz hok (fun j v hv=>bK.cell j (by
  match j,hv with
  | 0,hv | 1,hv | 2,hv | 3,hv | 4,hv | 5,hv | 6,hv | 7,hv | 8,hv=>simpa using hv)) bK.lt (by decide) (by simp;omega) (hE.below hb0 (Nat.le_trans (by decide) h9)) (hT.below (hb0.mono h9)) (Xoa _ S)
 go_enter func5,ntmps5
 go_wp2_with (go_at_call 14;refine hP.mono ?_;rintro e w1 ⟨rfl,hb1⟩)
 go_ret;exact⟨rfl,hb0.trans (hb1.mono (by simp))⟩
end Go.Proofs
