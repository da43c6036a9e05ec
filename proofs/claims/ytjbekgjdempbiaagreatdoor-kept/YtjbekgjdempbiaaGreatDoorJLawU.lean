import Derived.Test.YtjbekgjdempbiaaGreatDoorJLawT
import Derived.Test.YtjbekgjdempbiaaGreatDoorJRefR
set_option maxRecDepth 100000
set_option maxHeartbeats 8000000
namespace Go.Proofs
open Go.RowKit Go.Sort Go.Lib Go.Shelf Go.Maps
theorem Tryz.stepT {w0:World} {B N M wb hb:Nat} (w:World) (hI:Inv w0 B N wb hb w) (ss tt:List UInt8) (aa bb ff fl fu ke pa:Int)
  (hA:∀ W,Inv w0 B N wb hb W->Calls prog 61 #[.pointer (some ⟨wb,0,none⟩),.agg (Xo.cells ⟨8,ss,tt,aa,bb,ff,-1,-1,0,0⟩)] W fun e w'=>e=.returned (.bool true)/\Inv w0 B M wb hb w') :
  Calls prog 39 #[.pointer (some ⟨wb,0,none⟩),.agg (Xo.cells ⟨8,ss,tt,aa,bb,ff,fl,fu,ke,pa⟩),.bool false] w fun e w'=>e=.returned (.bool true)/\Inv w0 B M wb hb w':=by
 obtain⟨rb,σ,ra,g,cap,L,-,-,-,hW,-⟩:=hI.ex;have lW:=hW.lt;have c3:=hW.cell 3 (v:=.bool false) rfl;have f3:=hW.frozen 3
 have hI3:=fun W (b:Below w.heap.size w W)=>(hI.below b).sick
 have hWl:=fun W=>Xtg W
 unfold Yn at hWl;have hb0:Below w.heap.size w (w.alloc (.cells (Xo.cells ⟨8,ss,tt,aa,bb,ff,fl,fu,ke,pa⟩) 72)):=(Below.refl _ w).alloc (Nat.le_refl _) _;have bS:=BoxN.new w 72 (Xo.cells ⟨8,ss,tt,aa,bb,ff,fl,fu,ke,pa⟩);simp only [Xo.cells] at *;go_enter func39,ntmps39
 go_wp2_with (first
  | (go_at_call 16;refine(hWl _).mono ?_;rintro e w1 ⟨rfl,hb1⟩;have bS1:=bS.below hb1 (by simp);have y0:=bS1.cell 0 (v:=.int .i64 8) rfl;have y1:=bS1.cell 1 (v:=.string ⟨ss.toArray⟩) rfl;have y2:=bS1.cell 2 (v:=.string ⟨tt.toArray⟩) rfl;have y3:=bS1.cell 3 (v:=.int .u64 aa) rfl;have y4:=bS1.cell 4 (v:=.int .u64 bb) rfl;have y5:=bS1.cell 5 (v:=.int .u64 ff) rfl;have y6:=bS1.cell 6 (v:=.int .i64 fl) rfl;have y7:=bS1.cell 7 (v:=.int .i64 fu) rfl;have y8:=bS1.cell 8 (v:=.int .i64 ke) rfl;have y9:=bS1.cell 9 (v:=.int .i64 pa) rfl;have z6:=bS1.frozen 6;have z7:=bS1.frozen 7;have z8:=bS1.frozen 8;have z9:=bS1.frozen 9;have bW1:=(hW.alloc (.cells #[.int .i64 8,.string ⟨ss.toArray⟩,.string ⟨tt.toArray⟩,.int .u64 aa,.int .u64 bb,.int .u64 ff,.int .i64 fl,.int .i64 fu,.int .i64 ke,.int .i64 pa] 72)).below hb1 (by simp;omega);have x3:=bW1.cell 3 (v:=.bool false) rfl;have x3f:=bW1.frozen 3)
  | (go_at_call 61;refine(hA _ (hI3 _ (((((hb0.trans (hb1.mono (by simp))).setCell (p:=⟨w.heap.size,6,none⟩) (Nat.le_refl _) _).setCell (p:=⟨w.heap.size,7,none⟩) (Nat.le_refl _) _).setCell (p:=⟨w.heap.size,8,none⟩) (Nat.le_refl _) _).setCell (p:=⟨w.heap.size,9,none⟩) (Nat.le_refl _) _))).mono ?_;rintro e w2 ⟨rfl,hI2⟩;obtain⟨rb2,σ2,ra2,g2,cap2,L2,hS2,hR2,hl2,hW2,-⟩:=hI2.ex;have q0:=hW2.cell 0 (v:=.pointer (some ⟨hb,0,none⟩)) rfl;have q1:=hW2.cell 1 (v:=.pointer (some ⟨ra2,0,none⟩)) rfl)
  | (go_at_call 36;refine(hIs hb _ _ _ w2 hS2.host).mono ?_;rintro e w3 ⟨rfl,rfl⟩)
  | (go_at_call 38;refine(looks B wb hb ra2 g2 cap2 σ2.k.vb σ2.k.mt σ2.k.ml σ2.vx σ2.tm σ2.s.tn σ2.s.ln _ _ σ2.s.tks σ2.s.lks L2 _ _ _ _ _ _ _ hW2 hS2.host hS2.wh.v.va hR2 hl2).mono ?_;rintro e w4 ⟨rfl,hb4⟩))
 go_ret;exact⟨rfl,hI2.below hb4⟩
theorem Tryz.okAll {w0:World} {B N wb hb:Nat} (w:World) (hI:Inv w0 B N wb hb w) (hN:N<16384) (st:Xo) (hk:st.kind ∈ [1,2,3,4,5,6,7]) (hz:Xct st) (ho:Xbb st) :
  Calls prog 62 #[.pointer (some ⟨wb,0,none⟩),.agg (Xo.cells ⟨st.kind,st.s,st.t,st.a,st.b,st.f,-1,-1,0,0⟩)] w fun e w'=>e=.returned (.bool true)/\Inv w0 B (N+1) wb hb w':=by
 obtain⟨kind,ss,tt,aa,bb,ff,fl,fu,ke,pa⟩:=st;obtain⟨⟨o1,o2⟩,⟨o3,o4⟩,-⟩:=ho;unfold Xct at hz;simp only at hz o1 o2 o3 o4 hk ⊢;simp only [List.mem_cons,List.not_mem_nil,or_false] at hk
 rcases hk with rfl | rfl | rfl | rfl | rfl | rfl | rfl
 ·exact Xsz w hI (by omega) ss tt (by omega) aa bb ff 0 0
 ·exact Xsw w hI (by omega) ss tt (by omega) (by omega) aa bb ff 0 0 o1 o2 o3 o4
 ·exact Xta w hI (by omega) ss tt (by omega) aa bb ff 0 0 o1 o2
 ·exact Xvc w hI ss tt (by omega) aa bb ff (-1) (-1) 0 0
 ·exact Xqu w hI (by omega) ss tt (by omega) aa bb ff 0 0
 ·exact Xrk w hI (by omega) ss tt (by omega) aa bb ff 0 0
 exact Xvt w hI (by omega) ss tt (by omega) aa bb ff 0 0
theorem Tryz.Xhp (w:World) (S:List Xo):Xq6 w S [1,2,3,4,5,6,7,8] false (fun wb hb k W=>Inv w w.heap.size k wb hb W) where
 bel h:=h.bel
 later h hb:=h.below hb
 more h:=h.more (by omega)
 start h:=h
 step:=fun {wb hb k W st} hk _ hz ho hin h=>by
  by_cases h8:st.kind=8
  ·obtain⟨kind,ss,tt,aa,bb,ff,fl,fu,ke,pa⟩:=st
   obtain⟨⟨o1,o2⟩,⟨o3,o4⟩,⟨o5,o6⟩,-⟩:=ho;simp only at h8 o1 o2 o3 o4 o5 o6;subst h8;exact stepT W h ss tt aa bb ff fl fu ke pa (fun W' h'=>Xva W' h' hk ss tt aa bb ff o1 o2 o3 o5 o6 0 0)
  simp only [List.mem_cons,List.not_mem_nil,or_false] at hin;exact step W h st.kind (by simpa using h8) (by simp;omega) st.s st.t st.a st.b st.f st.fl st.fu st.ke st.pa (fun W' h'=>okAll W' h' hk st (by simp only [List.mem_cons,List.not_mem_nil,or_false];omega) hz ho)
end Go.Proofs
