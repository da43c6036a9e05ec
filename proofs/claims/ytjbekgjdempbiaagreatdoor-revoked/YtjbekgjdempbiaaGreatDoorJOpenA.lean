import Derived.Test.YtjbekgjdempbiaaGreatDoorJRefG
import Derived.Test.YtjbekgjdempbiaaGreatDoorJMapOps
import Derived.Test.YtjbekgjdempbiaaGreatDoorJDiskC
import Derived.Carry
import Derived.Maps.RangeWalk
import Derived.Test.YtjbekgjdempbiaaGreatDoorJInvC
import Derived.Test.YtjbekgjdempbiaaGreatDoorJLawC
import Derived.Test.YtjbekgjdempbiaaGreatDoorJParse
import Derived.Test.YtjbekgjdempbiaaGreatDoorJCntA
import Derived.ChangeKeysEq
set_option maxRecDepth 100000
set_option maxHeartbeats 8000000
namespace Go.Proofs
open Go.RowKit Go.Sort Go.Maps
theorem Tryz.root (w:World):Calls prog 85 #[] w fun e w'=>e=.returned (nmV (1,0))∧Below w.heap.size w w':=by
 unfold nmV;go_enter func85,ntmps85;go_wp2;exact bodyPost_ret (v:=.agg #[.int .i64 1,.int .u64 0]) (by simp [results,results85,go_sem]) rfl ⟨rfl,(Below.refl _ _).alloc (Nat.le_refl _) _⟩
theorem Tryz.hIs (hb:Nat) (c0 c1:Value) (p:Addr) (w:World) (hH:BoxN w hb 78 #[c0,c1,.pointer (some p)]) :
  Calls prog 36 #[.pointer (some ⟨hb,0,none⟩)] w fun e w'=>e=.returned (.bool true)∧w'=w:=by
 have h2:=hH.cell 2 (v:=.pointer (some p)) rfl;go_enter func36,ntmps36;go_wp2;go_ret;exact⟨rfl,rfl⟩
theorem grown_sets (w:World) (db i i':Nat) (v v':Value):w.grownBy ((w.setCell ⟨db,i,none⟩ v).setCell ⟨db,i',none⟩ v') (some db):=
 ⟨rfl,rfl,rfl,by simp,fun k _ hne=>by
  have hd:k≠db:=fun e=>hne (by rw [e])
  rw [set_other _ _ _ _ _ hd,set_other _ _ _ _ _ hd]⟩
theorem BoxN.ne_map {H:Type} {P:Program} {k:TypeId} {R:Value→Option (DataW H × List MemPlace)} {D:DataW H} {W:World} {B b n:Nat} {t:TypeId} {cs:Array Value} (h:BoxN W B t cs) (hm:W.ownsMap P k R b n D):b≠B:=by
 rintro rfl;obtain⟨es,clock,hb,_⟩:=hm;have e:=hb.symm.trans h;cases e
theorem Tryz.up (db b:Nat) (m2 p l f dn:Value) (w:World) (hD:BoxN w db 100 #[.map (some b),m2,p,l,f,dn]) (hown:w.ownsMap prog 9 valR b 0 (.map [])) :
  Calls prog 56 #[.pointer (some ⟨db,0,none⟩)] w fun e w'=>e=.returned (.tuple #[])∧(∃ b2,w.heap.size≤b2∧w'.ownsMap prog 9 valR b2 0 (.map [])∧BoxN w' db 100 #[.map (some b),.map (some b2),.slice none 0 0,l,f,.bool false])∧w.grownBy w' (some db):=by
 have hmk:∀ W,(Instr.makeMap 97 none).run prog W=.ok (.map (some W.heap.size)) (W.alloc (.map #[] 0)):=fun W=>run_makeMap _ W
 have d0:=hD.cell 0 (v:=.map (some b)) rfl;have d1:=hD.cell 1 (v:=m2) rfl;have d2:=hD.cell 2 (v:=p) rfl;have d5:=hD.cell 5 (v:=dn) rfl;have f1:=hD.frozen 1;have f2:=hD.frozen 2;have f5:=hD.frozen 5;have lD:=hD.lt;go_enter func56,ntmps56;have hne:=hD.ne_map hown;have hown1:=(hown.setCell (a:=⟨db,1,none⟩) hne (.map (some w.heap.size))).alloc (.map #[] 0)
 go_wp2_with (first
  | (at_range;refine wpList_range_own _ rfl _ 97 rfl 9 101 (string_keyed underlying9) underlying97 _ b 0 _ rfl hown1 ?_;intro w1 hrg hg1 hs1)
  | go_in)
 have bD1:BoxN w1 db 100 #[.map (some b),.map (some w.heap.size),p,l,f,dn]:=((hD.set 1 (.map (some w.heap.size))).alloc (.map #[] 0)).kept hg1 (by simp);have hMn0:=World.ownsMap_made (w.setCell ⟨db,1,none⟩ (.map (some w.heap.size))) prog 9 valR;have hMn1:=hMn0.kept hg1 (by simp);rw [World.size_setCell] at hMn1
 have hgr:w.grownBy w1 (some db):=⟨hg1.os,hg1.tape,hg1.output,by rw [hs1];simp;omega,fun k hk hnk=>by
  have hd:k≠db:=fun e=>hnk (by rw [e])
  rw [hg1.block k (by simp;omega) (by simp)]
  show (((w.setCell ⟨db,1,none⟩ (.map (some w.heap.size))).heap.push _)[k]?)=_
  rw [Array.getElem?_push_lt (by simpa using hk),← Array.getElem?_eq_getElem,set_other _ _ _ _ _ hd]⟩
 have HG:=hid_intro hgr;clear hgr hg1 hs1 hown1 hown d0 d1 d2 d5 f1 f2 f5;have d2:=bD1.cell 2 (v:=p) rfl;have d5:=bD1.cell 5 (v:=dn) rfl;have f2:=bD1.frozen 2;have f5:=bD1.frozen 5;refine wp_loop_rounds 1 ?_;rw [rounds_succ]
 go_wp2_with (first
  | (at_next;refine wpList_next_ranges _ rfl _ rfl 9 (string_keyed underlying9) valR (fun v:Value=>v) (fun v:Value=>v) (fun v _ _=>⟨v,rfl⟩) (fun v _ _=>⟨v,rfl⟩) b _ 0 _ _ _ rfl hrg ?_ ?_)
  | go_in)
 ·intro _ _
  clear hrg;go_wp2
  go_end0
  have hnn:=bD1.ne_map hMn1;exact⟨rfl,⟨_,Nat.le_refl _,(hMn1.setCell (a:=⟨db,2,none⟩) hnn _).setCell (a:=⟨db,5,none⟩) hnn _,(bD1.set 2 _).set 5 _⟩,(hid_elim HG).andThen (grown_sets w1 db 2 5 _ _) (fun j e=>.inr e)⟩
 ·intro x c kl y yp w' cnt' _ h2
  have h3:false=true:=h2;cases h3
theorem Tryz.newHost (w:World):Calls prog 35 #[] w fun e w'=>∃ hb db rb md mn,e=.returned (.pointer (some ⟨hb,0,none⟩))∧BoxN w' hb 78 #[.pointer (some ⟨db,0,none⟩),.pointer (some ⟨rb,0,none⟩),.pointer none]∧DiskAt w' db md mn none none (.slice none 0 0) (-1) (-1)∧BoxN w' rb 88 #[.slice none 0 0,.int .u64 0]∧(w.heap.size≤hb∧w.heap.size≤db∧w.heap.size≤rb∧w.heap.size≤md∧w.heap.size≤mn)∧Below w.heap.size w w':=by
 have hmk:∀ W,(Instr.makeMap 97 none).run prog W=.ok (.map (some W.heap.size)) (W.alloc (.map #[] 0)):=fun W=>run_makeMap _ W
 have bD:=((BoxN.new (w.alloc (.map #[] 0)) 100 #[.map (some w.heap.size),.map none,.slice none 0 0,.int .i64 (-1),.int .i64 (-1),.bool false]).alloc (.cells #[.slice none 0 0,.int .u64 0] 88)).alloc (.cells #[.pointer (some ⟨w.heap.size+1,0,none⟩),.pointer (some ⟨w.heap.size+1+1,0,none⟩),.pointer none] 78);have bR:=(BoxN.new ((w.alloc (.map #[] 0)).alloc (.cells #[.map (some w.heap.size),.map none,.slice none 0 0,.int .i64 (-1),.int .i64 (-1),.bool false] 100)) 88 #[.slice none 0 0,.int .u64 0]).alloc (.cells #[.pointer (some ⟨w.heap.size+1,0,none⟩),.pointer (some ⟨w.heap.size+1+1,0,none⟩),.pointer none] 78);have bH:=BoxN.new (((w.alloc (.map #[] 0)).alloc (.cells #[.map (some w.heap.size),.map none,.slice none 0 0,.int .i64 (-1),.int .i64 (-1),.bool false] 100)).alloc (.cells #[.slice none 0 0,.int .u64 0] 88)) 78 #[.pointer (some ⟨w.heap.size+1,0,none⟩),.pointer (some ⟨w.heap.size+1+1,0,none⟩),.pointer none];have hM:((((w.alloc (.map #[] 0)).alloc (.cells #[.map (some w.heap.size),.map none,.slice none 0 0,.int .i64 (-1),.int .i64 (-1),.bool false] 100)).alloc (.cells #[.slice none 0 0,.int .u64 0] 88)).alloc (.cells #[.pointer (some ⟨w.heap.size+1,0,none⟩),.pointer (some ⟨w.heap.size+1+1,0,none⟩),.pointer none] 78)).ownsMap prog 9 valR w.heap.size 0 (.map []):=(((World.ownsMap_made w prog 9 valR).alloc _).alloc _).alloc _;have hB:Below w.heap.size w ((((w.alloc (.map #[] 0)).alloc (.cells #[.map (some w.heap.size),.map none,.slice none 0 0,.int .i64 (-1),.int .i64 (-1),.bool false] 100)).alloc (.cells #[.slice none 0 0,.int .u64 0] 88)).alloc (.cells #[.pointer (some ⟨w.heap.size+1,0,none⟩),.pointer (some ⟨w.heap.size+1+1,0,none⟩),.pointer none] 78)):=((((Below.refl _ w).alloc (Nat.le_refl _) _).alloc (by simp) _).alloc (by simp;omega) _).alloc (by simp;omega) _;simp only [World.size_alloc] at bD bR bH;have hU:=up _ _ _ _ _ _ _ _ bD hM;go_enter func35,ntmps35
 go_wp2_with (go_at_call 56;refine hU.mono ?_;rintro e w1 ⟨rfl,⟨b2,hb2,hM2,bD1⟩,hg1⟩)
 go_ret;have hM1:=hM.kept hg1 (by intro e;injection e with e;omega);simp only [World.size_alloc] at hb2;exact⟨_,_,_,w.heap.size,b2,rfl,bH.kept hg1 (by intro e;injection e with e;omega),⟨bD1,⟨0,by omega,hM1⟩,⟨0,by omega,hM2⟩,by simp,by simp,by omega⟩,bR.kept hg1 (by intro e;injection e with e;omega),⟨by omega,by omega,by omega,by omega,by omega⟩,hB.grown hg1 (by simp;omega) (fun q hq=>by cases hq;omega)⟩
end Go.Proofs
namespace Go.Proofs
open Go.RowKit Go.Sort Go.Lib Go.Shelf Go.Maps
theorem Tryz.Inv.sick {w0:World} {B N wb hb:Nat} {W:World} (h:Inv w0 B N wb hb W):Inv w0 B N wb hb (W.setCell ⟨wb,3,none⟩ (.bool false)):=by
 obtain⟨rb,σ,ra,g,cap,L,h1,h2,h3,h4,h5,h6⟩:=h.ex;have hsp:Spares [wb] W (W.setCell ⟨wb,3,none⟩ (.bool false)):=(Spares.of_below (Below.refl _ _)).set (by simp) _ _;have b9:=h.nine;have bw:=h.bw;refine⟨h.bel.setCell (p:=⟨wb,3,none⟩) h.bw _,by simpa using h.hB,h.bw,⟨rb,σ,ra,g,cap,L,h1.other hsp (fun b hb=>by rw [List.mem_singleton.1 hb];exact Foreign.of h4 (by omega) (by decide)),h2.spares hsp (fun hx=>h2.v.ne h4 (by decide) (List.mem_singleton.1 hx)) (fun hx=>?_),h3,h4.set 3 _,h5,h6⟩⟩;obtain⟨c,hc⟩:=h2.gbox;exact hc.ne h4 (by decide) (List.mem_singleton.1 hx)
theorem Tryz.step {w0:World} {B N M wb hb:Nat} (w:World) (hI:Inv w0 B N wb hb w) (kind:Int) (hk8:(kind==8)=false) (hk10:(kind==10)=false) (ss tt:List UInt8) (aa bb ff fl fu ke pa:Int)
  (hA:∀ W,Inv w0 B N wb hb W→Calls prog 62 #[.pointer (some ⟨wb,0,none⟩),.agg (StepD.cells ⟨kind,ss,tt,aa,bb,ff,-1,-1,0,0⟩)] W fun e w'=>e=.returned (.bool true)∧Inv w0 B M wb hb w') :
  Calls prog 39 #[.pointer (some ⟨wb,0,none⟩),.agg (StepD.cells ⟨kind,ss,tt,aa,bb,ff,fl,fu,ke,pa⟩),.bool false] w fun e w'=>e=.returned (.bool true)∧Inv w0 B M wb hb w':=by
 obtain⟨rb,σ,ra,g,cap,L,-,-,-,hW,-⟩:=hI.ex;have lW:=hW.lt;have c3:=hW.cell 3 (v:=.bool false) rfl;have f3:=hW.frozen 3
 have hI3:=fun W (b:Below w.heap.size w W)=>(hI.below b).sick
 have hWl:=fun W=>well W
 unfold fallV at hWl;have hb0:Below w.heap.size w (w.alloc (.cells (StepD.cells ⟨kind,ss,tt,aa,bb,ff,fl,fu,ke,pa⟩) 72)):=(Below.refl _ w).alloc (Nat.le_refl _) _;have bS:=BoxN.new w 72 (StepD.cells ⟨kind,ss,tt,aa,bb,ff,fl,fu,ke,pa⟩);simp only [StepD.cells] at *;go_enter func39,ntmps39
 go_wp2_with (first
  | (go_at_call 16;refine(hWl _).mono ?_;rintro e w1 ⟨rfl,hb1⟩;have bS1:=bS.below hb1 (by simp);have y0:=bS1.cell 0 (v:=.int .i64 kind) rfl;have y1:=bS1.cell 1 (v:=.string ⟨ss.toArray⟩) rfl;have y2:=bS1.cell 2 (v:=.string ⟨tt.toArray⟩) rfl;have y3:=bS1.cell 3 (v:=.int .u64 aa) rfl;have y4:=bS1.cell 4 (v:=.int .u64 bb) rfl;have y5:=bS1.cell 5 (v:=.int .u64 ff) rfl;have y6:=bS1.cell 6 (v:=.int .i64 fl) rfl;have y7:=bS1.cell 7 (v:=.int .i64 fu) rfl;have y8:=bS1.cell 8 (v:=.int .i64 ke) rfl;have y9:=bS1.cell 9 (v:=.int .i64 pa) rfl;have z6:=bS1.frozen 6;have z7:=bS1.frozen 7;have z8:=bS1.frozen 8;have z9:=bS1.frozen 9;have bW1:=(hW.alloc (.cells #[.int .i64 kind,.string ⟨ss.toArray⟩,.string ⟨tt.toArray⟩,.int .u64 aa,.int .u64 bb,.int .u64 ff,.int .i64 fl,.int .i64 fu,.int .i64 ke,.int .i64 pa] 72)).below hb1 (by simp;omega);have x3:=bW1.cell 3 (v:=.bool false) rfl;have x3f:=bW1.frozen 3)
  | (go_at_call 62;refine(hA _ (hI3 _ (((((hb0.trans (hb1.mono (by simp))).setCell (p:=⟨w.heap.size,6,none⟩) (Nat.le_refl _) _).setCell (p:=⟨w.heap.size,7,none⟩) (Nat.le_refl _) _).setCell (p:=⟨w.heap.size,8,none⟩) (Nat.le_refl _) _).setCell (p:=⟨w.heap.size,9,none⟩) (Nat.le_refl _) _))).mono ?_;rintro e w2 ⟨rfl,hI2⟩;obtain⟨rb2,σ2,ra2,g2,cap2,L2,hS2,hR2,hl2,hW2,-⟩:=hI2.ex;have q0:=hW2.cell 0 (v:=.pointer (some ⟨hb,0,none⟩)) rfl;have q1:=hW2.cell 1 (v:=.pointer (some ⟨ra2,0,none⟩)) rfl)
  | (go_at_call 36;refine(hIs hb _ _ _ w2 hS2.host).mono ?_;rintro e w3 ⟨rfl,rfl⟩)
  | (go_at_call 38;refine(looks B wb hb ra2 g2 cap2 σ2.k.vb σ2.k.mt σ2.k.ml σ2.vx σ2.tm σ2.s.tn σ2.s.ln _ _ σ2.s.tks σ2.s.lks L2 _ _ _ _ _ _ _ hW2 hS2.host hS2.wh.v.va hR2 hl2).mono ?_;rintro e w4 ⟨rfl,hb4⟩))
 go_ret;exact⟨rfl,hI2.below hb4⟩
def ScriptAt (W:World) (b off:Nat) (S:List StepD):Prop:=∀(i:Nat) (st:StepD),S[i]? = some st →
 W.cell? ⟨b,off+i*10,none⟩=some (.int .i64 st.kind)∧W.cell? ⟨b,off+i*10+1,none⟩=some (.string ⟨st.s.toArray⟩)∧W.cell? ⟨b,off+i*10+2,none⟩=some (.string ⟨st.t.toArray⟩)∧W.cell? ⟨b,off+i*10+3,none⟩=some (.int .u64 st.a)∧W.cell? ⟨b,off+i*10+4,none⟩=some (.int .u64 st.b)∧W.cell? ⟨b,off+i*10+5,none⟩=some (.int .u64 st.f) ∧
 W.cell? ⟨b,off+i*10+6,none⟩=some (.int .i64 st.fl)∧W.cell? ⟨b,off+i*10+7,none⟩=some (.int .i64 st.fu)∧W.cell? ⟨b,off+i*10+8,none⟩=some (.int .i64 st.ke)∧W.cell? ⟨b,off+i*10+9,none⟩=some (.int .i64 st.pa)
theorem ScriptAt.below {W W':World} {b off B:Nat} {S:List StepD} (h:ScriptAt W b off S) (hb:Below B W W') (hB:b<B):ScriptAt W' b off S:=fun i st hi=>by
 obtain⟨h0,h1,h2,h3,h4,h5,h6,h7,h8,h9⟩:=h i st hi
 have c:∀ o,W'.cell? ⟨b,o,none⟩=W.cell? ⟨b,o,none⟩:=fun o=>hb.cell (p:=⟨b,o,none⟩) hB
 exact⟨(c _).trans h0,(c _).trans h1,(c _).trans h2,(c _).trans h3,(c _).trans h4,(c _).trans h5,(c _).trans h6,(c _).trans h7,(c _).trans h8,(c _).trans h9⟩
def SliceAt (W:World) (p:Option Addr) (S:List StepD):Prop:=(S = [] )∨∃ b off,p=some ⟨b,off,none⟩∧ScriptAt W b off S
def szS (st:StepD):Nat:=st.s.length+st.t.length
def totS (S:List StepD) (k:Nat):Nat:=S.length+((S.take k).map szS).sum
theorem totS_succ {S:List StepD} {k:Nat} {st:StepD} (h:S[k]? = some st):totS S (k+1)=totS S k+st.s.length+st.t.length:=by
 unfold totS;rw [take_get h,List.map_append,List.sum_append];simp [szS];omega
theorem le_sum_mem:∀(l:List Nat) (x:Nat),x∈l→x≤l.sum
 | [],_,h=>by cases h
 | a :: l,x,h=>by
  rw [List.sum_cons]
  rcases List.mem_cons.1 h with rfl | h
  ·omega
  ·have:=le_sum_mem l x h;omega
theorem totS_le (S:List StepD) (st:StepD) (h:st∈S):st.s.length+st.t.length≤totS S S.length:=by
 unfold totS;rw [List.take_length];have:szS st∈S.map szS:=List.mem_map.2 ⟨st,h,rfl⟩;have h2:=le_sum_mem _ _ this;unfold szS at h2 ⊢;omega
theorem Tryz.small (p:Option Addr) (cap:Nat) (S:List StepD) (w:World) (hS:SliceAt w p S) (hl:S.length≤281474976710656) (hz:∀ st∈S,st.s.length≤281474976710656∧st.t.length≤281474976710656) :
  Calls prog 34 #[.slice p S.length cap] w fun e w'=>∃ b,e=.returned (.bool b)∧(b=true→S.length≤16384∧∀ st∈S,st.s.length+st.t.length≤16384)∧Below w.heap.size w w':=by
 obtain⟨len,hlen⟩:∃ len,S.length=len:=⟨_,rfl⟩
 rw [hlen] at hl ⊢;have Hlen:=hid_intro hlen;clear hlen;go_enter func34,ntmps34;go_wp2
 go_loopw [3,4] (fun n i wr=>∃ k nn:Nat,k≤len∧i=.int .i64 k∧n=.int .i64 nn∧Hid (nn=totS S k)∧nn≤562949953437696∧Below w.heap.size w wr) (fun _ i _=>len-(intOf i).toNat)
 case atStart=>exact⟨0,len,Nat.zero_le _,rfl,rfl,hid_intro (by simp [totS,hid_elim Hlen]),by omega,Below.refl _ _⟩
 case round =>
  obtain⟨k,nn,hk,rfl,rfl,ht,hbd,hBw⟩:=hrel
  by_cases hkl:k<len
  ·by_cases hn:nn≤16384
   ·obtain⟨st,hst⟩:∃ st,S[k]? = some st:=⟨S[k]'(by have:=hid_elim Hlen;omega),by have:=hid_elim Hlen;simp [this,hkl]⟩
    have hne:S ≠ []:=fun e=>by rw [e] at hst;simp at hst
    obtain⟨b,off,rfl,hsc⟩:=hS.resolve_left hne;obtain⟨x0,x1,x2,-⟩:=hsc k st hst;have hbl:b<w.heap.size:=World.block_lt_of_cell? _ _ x0;obtain⟨y0,y1,y2,-⟩:=(hsc.below hBw hbl) k st hst;obtain⟨z1,z2⟩:=hz st (List.mem_of_getElem? hst);have hts:=hid_intro (totS_succ hst);generalize st.s=ss at *;generalize st.t=tt at *;go_wp2;go_quiet (fail);go_wp2;exact⟨⟨k+1,nn+ss.length+tt.length,by omega,rfl,congrArg (Value.int .i64) (by omega),hid_intro (by rw [hid_elim hts,← hid_elim ht]),by omega,below_drewN hBw _⟩,by simp [intOf];omega⟩
   ·have hn':¬ (nn:Int)≤16384:=by omega
    go_wp2;go_ret;exact .inl ⟨rfl,hBw⟩
  ·obtain rfl:k=len:=by omega
   go_wp2;go_ret;refine⟨decide ((nn:Int)≤16384),rfl,fun h=>?_,hBw⟩
   have h1:(nn:Int)≤16384:=by simpa using h
   have h2:=hid_elim ht;have h3:=hid_elim Hlen;refine⟨?_,fun st hst=>?_⟩
   ·unfold totS at h2;omega
   ·have:=totS_le S st hst
    rw [h3] at this;omega
theorem Tryz.cut (s sep:List UInt8) (w:World) (hs:s.length<4294967281) (hG:ErrT w) :
  Calls prog 213 #[.string ⟨s.toArray⟩,.string ⟨sep.toArray⟩] w fun e w'=>e=.returned (.tuple #[.string ⟨(Lib.cut s sep).1.toArray⟩,.string ⟨(Lib.cut s sep).2.1.toArray⟩,.bool (Lib.cut s sep).2.2])∧Below w.heap.size w w':=by
 obtain⟨-,m,hm⟩:=hG;refine(Any.strings_Cut laysCut ⟨s.toArray⟩ ⟨sep.toArray⟩ m w (by simpa [ByteArray.size] using hs) hm).mono ?_;rintro e w' ⟨rfl,n,rfl⟩;exact⟨rfl,below_drewN (Below.refl _ _) n⟩
def puV (r:List UInt8):Int:=match Lib.parseUintB 64 r with
 | .ok u=>(u:Int)
 | .range=>18446744073709551615
 | _=>0
theorem Tryz.parseU (r:List UInt8) (hl:r.length≤281474976710656) (w:World) (hE:Env w) :
  Calls prog 118 #[.string ⟨r.toArray⟩,.int .i64 10,.int .i64 64] w fun e w'=>∃ er,e=.returned (.tuple #[.int .u64 (puV r),er])∧Below w.heap.size w w':=by
 have hsz:(⟨r.toArray⟩:ByteArray).size≤281474976710656:=by simpa [ByteArray.size] using hl
 cases hpp:Lib.parseUintB 64 r with
 | ok u =>
  have h:=Any.strconv_ParseUint_10_at64_ok laysPu14 ⟨r.toArray⟩ (by have:=hsz;omega) u hpp w;rw [show puV r=(u:Int) by simp only [puV,hpp]];refine h.mono ?_;rintro e w' ⟨rfl,hw⟩;exact⟨_,rfl,parseBelow hw⟩
 | range =>
  obtain⟨tp,p,hv⟩:=hE.rng;rw [show puV r=18446744073709551615 by simp only [puV,hpp]];refine(Any.strconv_ParseUint_10_at64_range_var laysPu14 ⟨r.toArray⟩ hsz hpp tp p _ hv).mono ?_;rintro e w' ⟨N,rfl,-,-,h4⟩;exact⟨_,rfl,h4⟩
 | _ =>
  obtain⟨tp,p,hv⟩:=hE.syn;rw [show puV r=0 by simp only [puV,hpp]];refine(Any.strconv_ParseUint_10_at64_syntax_var laysPu14 ⟨r.toArray⟩ hsz hpp tp p _ hv).mono ?_;rintro e w' ⟨N,rfl,-,-,h4⟩;exact⟨_,rfl,h4⟩
def txtL (s:List UInt8):List UInt8:=(Lib.cut (Lib.cut s [32]).2.1 [32]).2.1
def wholeB (s:List UInt8):Bool:=puV (Lib.cut s [32]).1==((txtL s).length:Int)&&puV (Lib.cut (Lib.cut s [32]).2.1 [32]).1==sumI (txtL s)
theorem cut_sub (s sep:List UInt8):(∀ b∈(Lib.cut s sep).1,b∈s)∧(∀ b∈(Lib.cut s sep).2.1,b∈s)∧(Lib.cut s sep).1.length≤s.length∧(Lib.cut s sep).2.1.length≤s.length:=by
 unfold Lib.cut
 split
 ·exact⟨fun b h=>List.mem_of_mem_take h,fun b h=>List.mem_of_mem_drop h,by simp;omega,by simp⟩
 ·exact⟨fun b h=>h,fun b h=>by simp at h,Nat.le_refl _,by simp⟩
theorem Tryz.cellsU64':prog.cellsOf 31=1:=by kernel_rfl
theorem Tryz.markEq (a b c d:Int) (W:World):(binOp .eql 269 (.agg #[.int .u64 a,.int .u64 b]) (.agg #[.int .u64 c,.int .u64 d])).run prog W=.ok (.bool (a==c&&b==d)) W:=by
 have hu:=underlying269;obtain⟨i,hi⟩:=info_of_underlying underlying31;have h31:=underlying31
 have hp:prog.plainKey 31=true:=by kernel_rfl
 have key:(Op.equal 269 (.agg #[.int .u64 a,.int .u64 b]) (.agg #[.int .u64 c,.int .u64 d])).run prog W=.ok (a==c&&b==d) W:=by
  unfold Op.equal;rw [show Op.maxDepth=(Op.maxDepth-2+1)+1 by decide];rw [run_equalIn_array W _ _ _ hu hi,cellsU64'];simp only [List.range_succ,List.range_zero,List.nil_append,List.cons_append,Op.eqItems,Sem.run_bind];rw [run_part_plain W hp (v:=.int .u64 a) (by simp),Result.andThen_ok,run_part_plain W hp (v:=.int .u64 c) (by simp),Result.andThen_ok,run_equalIn_int W _ _ _ _ _ _ h31,Result.andThen_ok];cases h1:(a==c)
  ·simp
  ·simp only [Bool.not_true,Bool.false_eq_true,if_false,Sem.run_bind]
   rw [run_part_plain W hp (v:=.int .u64 b) (by simp),Result.andThen_ok,run_part_plain W hp (v:=.int .u64 d) (by simp),Result.andThen_ok,run_equalIn_int W _ _ _ _ _ _ h31,Result.andThen_ok]
   cases h2:(b==d) <;> simp
 simp only [binOp,go_sem];rw [Sem.run_bind,key];rfl
abbrev TxP (tb:Nat) (a b:Int) (W:World):Prop:=W.cell? ⟨tb,0,none⟩=some (.int .u64 a)∧W.cell? ⟨tb,1,none⟩=some (.int .u64 b)
theorem TxP.of {W:World} {tb:Nat} {a b:Int} {t:TypeId} (h:BoxN W tb t #[.int .u64 a,.int .u64 b]):TxP tb a b W:=⟨h.cell 0 rfl,h.cell 1 rfl⟩
theorem Tryz.textOf (s:List UInt8) (w:World) (hs:s.length<4294967281) (ha:∀ b∈s,b.toNat<128) (hE:Env w) (h9:9≤w.heap.size) (hG:ErrT w) :
  Calls prog 185 #[.string ⟨s.toArray⟩] w fun e w'=>e=.returned (.tuple #[.string ⟨(txtL s).toArray⟩,.bool (wholeB s)])∧Below w.heap.size w w':=by
 obtain⟨-,a1,l0,l1⟩:=cut_sub s [32];obtain⟨-,a2,l2,l3⟩:=cut_sub (Lib.cut s [32]).2.1 [32]
 have hC1:=fun W (hb:Below w.heap.size w W)=>cut s [32] W hs (hG.below (hb.mono h9))
 have hC2:=fun W (hb:Below w.heap.size w W)=>cut (Lib.cut s [32]).2.1 [32] W (by omega) (hG.below (hb.mono h9))
 have hU1:=fun W (hb:Below w.heap.size w W)=>parseU (Lib.cut s [32]).1 (by omega) W (hE.below hb (by omega))
 have hU2:=fun W (hb:Below w.heap.size w W)=>parseU (Lib.cut (Lib.cut s [32]).2.1 [32]).1 (by omega) W (hE.below hb (by omega))
 have hM:=fun W=>markOf (txtL s) W (by unfold txtL;omega) (fun b hb=>ha b (a1 b (a2 b hb)))
 have hq:=markEq;have hw:Hid (wholeB s=(puV (Lib.cut s [32]).1==((txtL s).length:Int)&&puV (Lib.cut (Lib.cut s [32]).2.1 [32]).1==sumI (txtL s))):=hid_intro rfl;unfold txtL at *;generalize wholeB s=wh at *;generalize puV (Lib.cut s [32]).1=p1 at *;generalize puV (Lib.cut (Lib.cut s [32]).2.1 [32]).1=p2 at *;generalize Lib.cut s [32]=x1 at *;obtain⟨n1,r1,f1⟩:=x1;simp only at *;generalize Lib.cut r1 [32]=x2 at *;obtain⟨n2,r2,f2⟩:=x2;simp only at *;generalize sumI r2=sm at *
 obtain⟨ln,hln⟩:∃ ln:Int,(r2.length:Int)=ln:=⟨_,rfl⟩
 simp only [hln] at hM hw;clear hln a1 a2 l0 l1 l2 l3 ha hs;have bT0:=BoxN.new w 269 #[.int .u64 0,.int .u64 0];have hB0:Below w.heap.size w (w.alloc (.cells #[.int .u64 0,.int .u64 0] 269)):=(Below.refl _ w).alloc (Nat.le_refl _) _;go_enter func185,ntmps185;go_wp2;refine wp_loop_rounds 3 ?_;rw [rounds_succ]
 go_wp2_with (first
  | (go_at_call 213;refine(hC1 _ hB0).mono ?_;rintro e w1 ⟨rfl,hb1⟩;have hB1:=hB0.trans (hb1.mono (by simp));have bT1:=bT0.below hb1 (by simp))
  | (go_at_call 118;refine(hU1 _ hB1).mono ?_;rintro e w2 ⟨er,rfl,hb2⟩;have hB2:=hB1.trans (hb2.mono hB1.size);have bT2:=bT1.below hb2 bT1.lt;have c0:=bT2.cell 0 (v:=.int .u64 0) rfl;have g0:=bT2.frozen 0))
 have hB3:=hB2.setCell (p:=⟨w.heap.size,0,none⟩) (Nat.le_refl _) (.int .u64 p1);have bT3:=bT2.set 0 (.int .u64 p1);clear c0 g0 hC1 hU1;rw [rounds_succ]
 go_wp2_with (first
  | (go_at_call 213;refine(hC2 _ hB3).mono ?_;rintro e w4 ⟨rfl,hb4⟩;have hB4:=hB3.trans (hb4.mono (by simpa using hB2.size));have bT4:=bT3.below hb4 (by simpa using bT2.lt))
  | (go_at_call 118;refine(hU2 _ hB4).mono ?_;rintro e w5 ⟨er2,rfl,hb5⟩;have hB5:=hB4.trans (hb5.mono hB4.size);have bT5:=bT4.below hb5 bT4.lt;have c1:=bT5.cell 1 (v:=.int .u64 0) rfl;have g1:=bT5.frozen 1))
 have hB6:=hB5.setCell (p:=⟨w.heap.size,1,none⟩) (Nat.le_refl _) (.int .u64 p2);have bT6:=bT5.set 1 (.int .u64 p2);have hP6:TxP w.heap.size p1 p2 (w5.setCell ⟨w.heap.size,1,none⟩ (.int .u64 p2)).drew:=TxP.of (t:=269) bT6;have l6:=bT6.lt;clear c1 g1 hC2 hU2;rw [rounds_succ];go_wp2
 go_region_held3 (TxP w.heap.size p1 p2) (first
  | with_reducible exact hP6
  | with_reducible exact hP7
  | with_reducible assumption) (first
  | (go_at_call 177;refine(hM _).mono ?_;rintro e w7 ⟨rfl,hb7⟩;have hP7:TxP w.heap.size p1 p2 w7:=TxP.of (t:=269) (BoxN.below (W:=(w5.setCell ⟨w.heap.size,1,none⟩ (.int .u64 p2)).drew) bT6 hb7 l6);have hB7:=hB6.drew.trans (hb7.mono (by simpa using hB5.size))))
 all_goals
  go_wp2
  go_ret2
  exact⟨by rw [hid_elim hw];rfl,hB7⟩
end Go.Proofs
namespace Go.Proofs
open Go.RowKit Go.Sort Go.Maps Go.WideMaps
theorem Tryz.insU64_nil (w:World):Calls prog 254 #[.slice none 0 0,.int .i64 0,.int .i64 0] w fun e w'=>e=.returned (.tuple #[])∧w'=w:=by
 go_enter func254,ntmps254;go_wp2;refine wp_loop_rounds 1 ?_;rw [rounds_succ];go_wp2
 go_end0
 exact⟨rfl,rfl⟩
theorem Tryz.pdqU64_nil (w:World) (lim:Int):Calls prog 232 #[.slice none 0 0,.int .i64 0,.int .i64 0,.int .i64 lim] w fun e w'=>e=.returned (.tuple #[])∧w'=w:=by
 have hI:=fun W=>insU64_nil W
 go_enter func232,ntmps232;go_wp2;refine wp_loop_rounds 1 ?_;rw [rounds_succ]
 go_wp2_with (go_at_call 254;refine(hI _).mono ?_;rintro e w1 ⟨rfl,rfl⟩)
 exact bodyPost_ret (v:=.tuple #[]) (by simp [results,results232,go_sem]) rfl ⟨rfl,rfl⟩
theorem Tryz.insStr_nil (w:World):Calls prog 317 #[.slice none 0 0,.int .i64 0,.int .i64 0] w fun e w'=>e=.returned (.tuple #[])∧w'=w:=by
 go_enter func317,ntmps317;go_wp2;refine wp_loop_rounds 1 ?_;rw [rounds_succ];go_wp2
 go_end0
 exact⟨rfl,rfl⟩
theorem Tryz.pdqStr_nil (w:World) (lim:Int):Calls prog 316 #[.slice none 0 0,.int .i64 0,.int .i64 0,.int .i64 lim] w fun e w'=>e=.returned (.tuple #[])∧w'=w:=by
 have hI:=fun W=>insStr_nil W
 go_enter func316,ntmps316;go_wp2;refine wp_loop_rounds 1 ?_;rw [rounds_succ]
 go_wp2_with (go_at_call 317;refine(hI _).mono ?_;rintro e w1 ⟨rfl,rfl⟩)
 exact bodyPost_ret (v:=.tuple #[]) (by simp [results,results316,go_sem]) rfl ⟨rfl,rfl⟩
theorem Tryz.bitsLen0 (w:World):Calls prog 226 #[.int .u64 0] w fun e w'=>(∃ z:Int,e=.returned (.int .i64 z))∧w'=w:=by
 go_enter func226,ntmps226;go_wp2;go_ret;exact⟨⟨_,rfl⟩,rfl⟩
theorem Tryz.sortU64_nil (w:World):Calls prog 211 #[.slice none 0 0] w fun e w'=>e=.returned (.tuple #[])∧w'=w:=by
 have hL:=fun W=>bitsLen0 W
 have hI:=fun W lim=>pdqU64_nil W lim
 go_enter func211,ntmps211
 go_wp2_with (first
  | (go_at_call 226;refine(hL _).mono ?_;rintro e w1 ⟨⟨z,rfl⟩,rfl⟩)
  | (go_at_call 232;refine(hI _ _).mono ?_;rintro e w2 ⟨rfl,rfl⟩))
 go_end0
 exact⟨rfl,rfl⟩
theorem Tryz.slSortStr_nil (w:World):Calls prog 315 #[.slice none 0 0] w fun e w'=>e=.returned (.tuple #[])∧w'=w:=by
 have hL:=fun W=>bitsLen0 W
 have hI:=fun W lim=>pdqStr_nil W lim
 go_enter func315,ntmps315
 go_wp2_with (first
  | (go_at_call 226;refine(hL _).mono ?_;rintro e w1 ⟨⟨z,rfl⟩,rfl⟩)
  | (go_at_call 316;refine(hI _ _).mono ?_;rintro e w2 ⟨rfl,rfl⟩))
 go_end0
 exact⟨rfl,rfl⟩
theorem Tryz.sortStrings_nil (w:World):Calls prog 312 #[.slice none 0 0] w fun e w'=>e=.returned (.tuple #[])∧w'=w:=by
 have hI:=fun W=>slSortStr_nil W
 go_enter func312,ntmps312
 go_wp2_with (go_at_call 315;refine(hI _).mono ?_;rintro e w2 ⟨rfl,rfl⟩)
 go_end0
 exact⟨rfl,rfl⟩
theorem Tryz.dNames_nil (db md mn:Nat) (fd:Option (Nat × List UInt8)) (l f:Int) (w:World) (hD:DiskAt w db md mn fd none (.slice none 0 0) l f) :
  Calls prog 306 #[.pointer (some ⟨db,0,none⟩)] w fun e w'=>e=.returned (.tuple #[.slice none 0 0,.nilIface])∧Below w.heap.size w w':=by
 have hS:=fun W=>sortStrings_nil W
 have d1:=hD.box.cell 1 (v:=.map (some mn)) rfl;have d5:=hD.box.cell 5 (v:=.bool false) rfl;obtain⟨n,hn,hown⟩:=hD.nm
 change w.ownsMap prog 9 valR mn n (.map []) at hown
 go_enter func306,ntmps306
 go_wp2_with (first
  | (at_range;refine wpList_range_own _ rfl _ 97 rfl 9 101 (string_keyed underlying9) underlying97 _ mn n _ rfl hown ?_;intro w1 hrg hg1 hs1)
  | go_in)
 have HB:=hid_intro (show Below w.heap.size w w1 from ⟨hg1.os,hg1.tape,hg1.output,hg1.size,fun k hk=>hg1.block k hk (by simp)⟩);clear hg1 hs1 hown d1 d5;refine wp_loop_rounds 1 ?_;rw [rounds_succ]
 go_wp2_with (first
  | (at_next;refine wpList_next_ranges _ rfl _ rfl 9 (string_keyed underlying9) valR (fun v:Value=>v) (fun v:Value=>v) (fun v _ _=>⟨v,rfl⟩) (fun v _ _=>⟨v,rfl⟩) mn _ n _ _ _ rfl hrg ?_ ?_)
  | go_in)
 ·intro _ _
  clear hrg
  go_wp2_with (go_at_call 312;refine(hS _).mono ?_;rintro e w2 ⟨rfl,rfl⟩)
  exact bodyPost_ret (v:=.tuple #[.slice none 0 0,.nilIface]) (by simp [results,results306,go_sem]) rfl ⟨rfl,hid_elim HB⟩
 ·intro x c kl y yp w' cnt' _ h2
  have h3:false=true:=h2;cases h3
theorem Tryz.dRead_none (db md mn:Nat) (fd:Option (Nat × List UInt8)) (l f:Int) (w:World) (hD:DiskAt w db md mn fd none (.slice none 0 0) l f) :
  Calls prog 307 #[.pointer (some ⟨db,0,none⟩),.string ⟨#[106,111,117,114,110,97,108]⟩] w fun e w'=>e=.returned (.tuple #[.slice none 0 0,.iface 33 (.int .i64 6)])∧w'=w:=by
 have d1:=hD.box.cell 1 (v:=.map (some mn)) rfl;have d5:=hD.box.cell 5 (v:=.bool false) rfl;obtain⟨n,hn,hown⟩:=hD.nm;have hL:=lookF_no hown;go_enter func307,ntmps307;go_wp2;exact bodyPost_ret (v:=.tuple #[.slice none 0 0,.iface 33 (.int .i64 6)]) (by simp [results,results307,go_sem]) rfl ⟨rfl,rfl⟩
end Go.Proofs
namespace Go.Proofs
open Go.RowKit Go.Sort Go.Lib Go.Shelf Go.Maps
attribute [local go_sem] Oper.semAt_some
theorem Tryz.method_names (db:Nat) (w:World):Sem.run prog (method 517 74 (.pointer (some ⟨db,0,none⟩)) "Names") w=.ok (306,.pointer (some ⟨db,0,none⟩)) w:=by kernel_rfl
theorem Tryz.method_read (db:Nat) (w:World):Sem.run prog (method 517 74 (.pointer (some ⟨db,0,none⟩)) "Read") w=.ok (307,.pointer (some ⟨db,0,none⟩)) w:=by kernel_rfl
theorem Tryz.infoStr:(prog.info? (laysSplit_ren.t 9)).map (fun i=>(i.zero,i.size,i.bytes))=some (some (.string ByteArray.empty),1,16):=by kernel_rfl
theorem Tryz.tellAll_nil (tv:Value) (w:World) (hE:Env w) (h9:9≤w.heap.size) (hG:ErrT w) :
  Calls prog 147 #[.string ⟨#[]⟩,tv] w fun e w'=>e=.returned (.tuple #[])∧Below w.heap.size w w':=by
 have hG':=hG;obtain⟨-,m,hm⟩:=hG';have hSp:=Any.strings_Split laysSplit infoStr ⟨#[]⟩ ⟨#[10]⟩ m w (by decide) hm (by decide);rw [show Lib.countB ⟨#[]⟩ ⟨#[10]⟩=0 by decide,show Lib.splitB ⟨#[10]⟩ 0 0 ⟨#[]⟩ = [⟨#[]⟩] by rfl] at hSp
 change Calls prog 184 _ _ _ at hSp
 have hTx:=fun W (hb:Below w.heap.size w W)=>textOf [] W (by decide) (by simp) (hE.below hb (by omega)) (Nat.le_trans h9 hb.size) (hG.below (hb.mono h9))
 rw [show wholeB []=false by decide,show txtL [] = [] by rfl] at hTx;have bS:=BoxN.new w 9 #[.string ⟨#[]⟩];have hB0:Below w.heap.size w (w.alloc (.cells #[.string ⟨#[]⟩] 9)):=(Below.refl _ w).alloc (Nat.le_refl _) _;have s0:=bS.cell 0 (v:=.string ⟨#[]⟩) rfl;go_enter func147,ntmps147
 go_wp2_with (go_at_call 184;refine hSp.mono ?_;rintro e w1 ⟨rfl,rfl⟩)
 refine wp_loop_rounds 2 ?_;rw [rounds_succ]
 go_wp2_with (go_at_call 185;refine(hTx _ hB0).mono ?_;rintro e w2 ⟨rfl,hb2⟩)
 rw [rounds_succ];go_wp2
 go_end0
 exact⟨rfl,hB0.trans (hb2.mono (by simp))⟩
theorem Tryz.numbersOn_nil (db md mn:Nat) (fd:Option (Nat × List UInt8)) (l f:Int) (w:World) (hD:DiskAt w db md mn fd none (.slice none 0 0) l f) :
  Calls prog 180 #[diskV db] w fun e w'=>e=.returned (.tuple #[.slice none 0 0,.nilIface])∧Below w.heap.size w w':=by
 have hm:=fun W=>method_names db W
 have hN:=dNames_nil db md mn fd l f w hD
 have hS:=fun W=>sortU64_nil W
 unfold diskV;go_enter func180,ntmps180
 go_wp2_with (go_at_call 306;refine hN.mono ?_;rintro e w1 ⟨rfl,hb1⟩)
 refine wp_loop_rounds 1 ?_;rw [rounds_succ]
 go_wp2_with (go_at_call 211;refine(hS _).mono ?_;rintro e w2 ⟨rfl,rfl⟩)
 go_ret2
 exact⟨rfl,hb1⟩
theorem Tryz.jFirst_nil (jb db md mn:Nat) (c1 c2:Value) (fd:Option (Nat × List UInt8)) (l f:Int) (w:World) (hJ:BoxN w jb 212 #[diskV db,c1,c2]) (hD:DiskAt w db md mn fd none (.slice none 0 0) l f) :
  Calls prog 183 #[.pointer (some ⟨jb,0,none⟩)] w fun e w'=>e=.returned (.tuple #[.string ⟨#[]⟩,.nilIface])∧w'=w:=by
 have hm:=fun W=>method_read db W
 have hR:=dRead_none db md mn fd l f w hD
 have hI:=fun W=>isSame 6 (by simp [ErrK]) W
 have j0:=hJ.cell 0 (v:=diskV db) rfl;unfold diskV at j0;go_enter func183,ntmps183
 go_wp2_with (first
  | (go_at_call 307;refine hR.mono ?_;rintro e w1 ⟨rfl,rfl⟩)
  | (go_at_call 70;refine(hI _).mono ?_;rintro e w2 ⟨rfl,rfl⟩))
 go_ret2
 exact⟨rfl,rfl⟩
theorem Tryz.backward_nil (w:World):Calls prog 181 #[.slice none 0 0] w fun e w'=>e=.returned (.func (.func 212) #[] #[.pointer (some ⟨w.heap.size,0,none⟩)])∧w'=w.alloc (.cells #[.slice none 0 0] 272):=by
 go_enter func181,ntmps181;go_wp2;go_ret;exact⟨rfl,rfl⟩
theorem Tryz.backward1_nil (y:Value) (b:Nat) (w:World) (hb:BoxN w b 272 #[.slice none 0 0]):Calls prog 212 #[y,.pointer (some ⟨b,0,none⟩)] w fun e w'=>e=.returned (.tuple #[])∧w'=w:=by
 have c0:=hb.cell 0 (v:=.slice none 0 0) rfl;go_enter func212,ntmps212;go_wp2;refine wp_loop_rounds 1 ?_;rw [rounds_succ];go_wp2
 go_end0
 exact⟨rfl,rfl⟩
theorem empty_size (ps:Array Tmp) (x:Empty):((fun y:Empty=>(nomatch y:Array Value)) x).size=ps.size:=nomatch x
theorem Tryz.jFind_nil (jb db md mn:Nat) (c1 c2:Value) (fd:Option (Nat × List UInt8)) (l f:Int) (w:World) (hJ:BoxN w jb 212 #[diskV db,c1,c2]) (hD:DiskAt w db md mn fd none (.slice none 0 0) l f) :
  CallsIn Fence.wide 9 prog 146 #[.pointer (some ⟨jb,0,none⟩)] w fun e w'=>e=.returned (.tuple #[.string ⟨#[]⟩,.nilIface])∧Below w.heap.size w w':=by
 have j0:=hJ.cell 0 (v:=diskV db) rfl;unfold diskV at j0;have lJ:=hJ.lt;have hB0:Below w.heap.size w (((w.alloc (.cells #[.pointer (some ⟨jb,0,none⟩)] 117)).alloc (.cells #[.string ⟨#[]⟩] 9)).alloc (.cells #[.nilIface] 81)):=(((Below.refl _ w).alloc (Nat.le_refl _) _).alloc (by simp) _).alloc (by simp;omega) _;have bP:=((BoxN.new w 117 #[.pointer (some ⟨jb,0,none⟩)]).alloc (.cells #[.string ⟨#[]⟩] 9)).alloc (.cells #[.nilIface] 81);have bS:=(BoxN.new (w.alloc (.cells #[.pointer (some ⟨jb,0,none⟩)] 117)) 9 #[.string ⟨#[]⟩]).alloc (.cells #[.nilIface] 81);have bE:=BoxN.new ((w.alloc (.cells #[.pointer (some ⟨jb,0,none⟩)] 117)).alloc (.cells #[.string ⟨#[]⟩] 9)) 81 #[.nilIface];simp only [World.size_alloc] at bS bE;have hN:=numbersOn_nil db md mn fd l f _ (hD.below hB0);unfold diskV at hN;have j0w:=cell_later hB0 j0;have hf1:Fence.wide.fn 180:=trivial;have hf2:Fence.wide.fn 181:=trivial;have hf3:Fence.wide.fn 183:=trivial;refine callsIn_of_wp_marks func146 rfl trivial ?_ rfl;simp only [ntmps146,List.size_toArray,List.length_cons,List.length_nil,Nat.reduceAdd,Nat.reduceSub,Array.replicate_succ,Array.replicate_zero,List.push_toArray,List.append_toArray,List.nil_append,List.cons_append]
 gi_wp2_with (first
  | (gi_at_call 180;refine(callsIn_wide.2 hN).mono ?_;rintro e w1 ⟨rfl,hb1⟩)
  | (gi_at_call 181;refine(callsIn_wide.2 (backward_nil _)).mono ?_;rintro e w2 ⟨rfl,rfl⟩))
 have hB1:=hB0.trans (hb1.mono (by simp;omega));have bP1:=(bP.below hb1 (by simp;omega)).alloc (.cells #[.slice none 0 0] 272);have bS1:=(bS.below hb1 (by simp)).alloc (.cells #[.slice none 0 0] 272);have bE1:=(bE.below hb1 (by simp)).alloc (.cells #[.slice none 0 0] 272);have bX1:=BoxN.new w1 272 #[.slice none 0 0];have hB2:=hB1.alloc hB1.size (.cells #[.slice none 0 0] 272)
 have hsz:(w1.alloc (.cells #[.slice none 0 0] 272)).heap.size=w1.heap.size+1:=by simp
 have hz1:=hB1.size
 obtain⟨W2,hW2⟩:∃ W2,w1.alloc (.cells #[.slice none 0 0] 272)=W2:=⟨_,rfl⟩
 rw [hW2] at bP1 bS1 bE1 bX1 hB2 hsz ⊢;clear hW2 bP bS bE hN j0w
 have hseq:SeqO (α:=Empty) 8 prog 212 #[.pointer (some ⟨w1.heap.size,0,none⟩)] (fun x=>nomatch x) (fun _=>True) (fun _ _=>True) (fun xs=>xs = []) (fun _=>False) 0 W2:=by
  intro l J Jx W hb _ _ _ _ h0;refine(callsIn_wide.2 (backward1_nil (.func (.yield l) #[] #[]) w1.heap.size W (bX1.below hb bX1.lt))).mono ?_;rintro e W' ⟨rfl,rfl⟩;exact⟨⟨_,rfl⟩,.inl ⟨[],rfl,h0⟩⟩
 refine wpIn_rangeO (n:=9) (by omega) (gf:=212) (lb:=#[.pointer (some ⟨w1.heap.size,0,none⟩)]) rfl (enters_of func212 (by kernel_rfl) rfl) hseq (fun _ _=>trivial) (fun _ _ _ _ _ _ _ _=>trivial) (Below.refl _ _) (fun x=>nomatch x)
  (fun _ V=>((BoxN V w.heap.size 117 #[.pointer (some ⟨jb,0,none⟩)]∧BoxN V (w.heap.size+1) 9 #[.string ⟨#[]⟩])∧BoxN V (w.heap.size+1+1) 81 #[.nilIface])∧Below w.heap.size w V)
  (fun _ _ _=>False)
  (OwnFrom.and (OwnFrom.and (OwnFrom.and (Own.from (boxN_own _ _ (fun _=>#[.pointer (some ⟨jb,0,none⟩)])) _) (Own.from (boxN_own _ _ (fun _=>#[.string ⟨#[]⟩])) _)) (Own.from (boxN_own _ _ (fun _=>#[.nilIface])) _)) (ownFrom_below (Nat.le_refl _) (by omega)))
  (fun _ _ _ _ _ hs _ _=>hs)
  (fun _ _ _=>trivial)
  ⟨⟨⟨bP1,bS1⟩,bE1⟩,hB2⟩
  (fun x _ _=>nomatch x) (fun x=>nomatch x)
  (fun _ _ x=>nomatch x) (fun _ _ x=>nomatch x) ?done ?stop
 case done =>
  rintro D zs V hD0 rfl ⟨⟨⟨bPV,bSV⟩,bEV⟩,hBV⟩ hK;have hF:=jFirst_nil jb db md mn c1 c2 fd l f V (hJ.below hBV hJ.lt) (hD.below hBV);have p0:=bPV.cell 0 (v:=.pointer (some ⟨jb,0,none⟩)) rfl;have s0:=bSV.cell 0 (v:=.string ⟨#[]⟩) rfl;have s0f:=bSV.frozen 0;have e0:=bEV.cell 0 (v:=.nilIface) rfl;have e0f:=bEV.frozen 0
  gi_wp2_with (gi_at_call 183;refine(callsIn_wide.2 hF).mono ?_;rintro e w3 ⟨rfl,rfl⟩)
  have bS2:=(bSV.set 0 (.string ⟨#[]⟩)).other (B':=w.heap.size+1+1) (by omega) 0 .nilIface;have bE2:=(bEV.other (B':=w.heap.size+1) (by omega) 0 (.string ⟨#[]⟩)).set 0 .nilIface
  have hK2:((w3.setCell ⟨w.heap.size+1,0,none⟩ (.string ⟨#[]⟩)).setCell ⟨w.heap.size+1+1,0,none⟩ .nilIface).heap[D]? = some (.deferred (some [])):=by
   have:=bE1.lt;rw [set_other _ _ _ _ _ (by omega),set_other _ _ _ _ _ (by omega)];exact hK
  have hB5:=(hBV.setCell (p:=⟨w.heap.size+1,0,none⟩) (by simp) (.string ⟨#[]⟩)).setCell (p:=⟨w.heap.size+1+1,0,none⟩) (by simp;omega) .nilIface;generalize (w3.setCell ⟨w.heap.size+1,0,none⟩ (.string ⟨#[]⟩)).setCell ⟨w.heap.size+1+1,0,none⟩ .nilIface=W5 at *;refine⟨by simp,.inl ⟨_,_,rfl,run_takeDeferred hK2,?_⟩⟩;have bS6:BoxN (W5.putObj D (.deferred none)) (w.heap.size+1) 9 (#[.string ⟨#[]⟩].setIfInBounds 0 (.string ⟨#[]⟩)):=(World.putObj_heap_other (by have:=bE1.lt;omega)).trans bS2;have bE6:BoxN (W5.putObj D (.deferred none)) (w.heap.size+1+1) 81 (#[.nilIface].setIfInBounds 0 .nilIface):=(World.putObj_heap_other (by have:=bE1.lt;omega)).trans bE2;have q1:=bS6.cell 0 (v:=.string ⟨#[]⟩) rfl;have q2:=bE6.cell 0 (v:=.nilIface) rfl;exact⟨.tuple #[.string ⟨#[]⟩,.nilIface],by simp [results,results146,go_sem,q1,q2],rfl,hB5.trans (belowK_b (w:=w) (Nat.le_refl _) W5 D _ _ (by omega) hK2 rfl rfl)⟩
 case stop =>
  rintro D c pre V _ _ h _;exact h.elim
end Go.Proofs
namespace Go.Proofs
open Go.RowKit Go.Sort Go.Lib Go.Shelf Go.Maps
theorem Tryz.jOpen_nil (db md mn:Nat) (fd:Option (Nat × List UInt8)) (l f:Int) (tv:Value) (w:World) (hD:DiskAt w db md mn fd none (.slice none 0 0) l f) (hE:Env w) (h9:9≤w.heap.size) (hG:ErrT w) :
  Calls prog 99 #[diskV db,tv] w fun e w'=>e=.returned (.tuple #[.pointer (some ⟨w.heap.size,0,none⟩),.nilIface])∧BoxN w' w.heap.size 212 #[diskV db,.int .u64 0,.nilIface]∧Below w.heap.size w w':=by
 have hB0:Below w.heap.size w (w.alloc (.cells #[diskV db,.int .u64 0,.nilIface] 212)):=(Below.refl _ w).alloc (Nat.le_refl _) _;have bJ:=BoxN.new w 212 #[diskV db,.int .u64 0,.nilIface];have hF:=callsIn_wide.1 (jFind_nil w.heap.size db md mn _ _ fd l f _ bJ (hD.below hB0))
 have hT:=fun W (hb:Below w.heap.size w W)=>tellAll_nil tv W (hE.below hb (by omega)) (Nat.le_trans h9 hb.size) (hG.below (hb.mono h9))
 unfold diskV at hF hB0 bJ ⊢;go_enter func99,ntmps99
 go_wp2_with (first
  | (go_at_call 146;refine hF.mono ?_;rintro e w1 ⟨rfl,hb1⟩;have hB1:=hB0.trans (hb1.mono (by simp));have bJ1:=bJ.below hb1 (by simp))
  | (go_at_call 147;refine(hT _ hB1).mono ?_;rintro e w2 ⟨rfl,hb2⟩))
 go_ret2
 exact⟨rfl,bJ1.below hb2 bJ1.lt,hB1.trans (hb2.mono hB1.size)⟩
def rootE:TokE:=⟨0,0,0,18446744073709551615,0,false⟩
def Tryz.rootV:Value:=.agg #[.int .i64 0,.int .u64 0,.int .u64 18446744073709551615,.int .i64 0,.bool false]
theorem Tryz.rootMap:(DataW.map []).put (nmL (1,0)) (.held rootV)=mapD ([rootE].map TokE.key).reverse:=by rfl
theorem rootOk:ListsOk [rootE] []:=⟨by simp,by simp,by simp,by simp,fun t ht=>by rw [List.mem_singleton.1 ht];exact⟨by show (0:Nat)<u64lim;decide,by show (0:Nat)<u64lim;decide⟩,fun l hl=>(by cases hl)⟩
theorem Tryz.open_nil (db md mn rb:Nat) (l f now:Int) (w:World) (hD:DiskAt w db md mn none none (.slice none 0 0) l f) (hE:Env w) (h9:9≤w.heap.size) (hG:ErrT w) (t0:0≤now) (t1:now≤18446744073709551615) (d9:9≤db∧9≤md∧9≤mn) :
  Calls prog 55 #[diskV db,.iface 75 (.pointer (some ⟨rb,0,none⟩)),.int .u64 now] w fun e w'=>∃ vb mt ml jb,e=.returned (.tuple #[.pointer (some ⟨vb,0,none⟩),.nilIface])∧Whole w' ⟨vb,mt,ml,jb,db,md,mn⟩ ⟨.pointer (some ⟨jb,0,none⟩),.iface 75 (.pointer (some ⟨rb,0,none⟩)),false,.slice none 0 0⟩ now ⟨0,0,[rootE],[]⟩ [] l f∧(w.heap.size≤vb∧w.heap.size≤mt∧w.heap.size≤ml∧w.heap.size≤jb)∧Below w.heap.size w w':=by
 have hmkT:∀ W,(Instr.makeMap 120 none).run prog W=.ok (.map (some W.heap.size)) (W.alloc (.map #[] 0)):=fun W=>run_makeMap _ W
 have hmkL:∀ W,(Instr.makeMap 121 none).run prog W=.ok (.map (some W.heap.size)) (W.alloc (.map #[] 0)):=fun W=>run_makeMap _ W
 have hR:=fun W=>root W
 unfold nmV at hR;have hM:=World.ownsMap_made w prog 114 valR;have hB0:Below w.heap.size w (w.alloc (.map #[] 0)):=(Below.refl _ w).alloc (Nat.le_refl _) _
 have hO:=fun W tv (hb:Below w.heap.size w W)=>jOpen_nil db md mn none l f tv W (hD.below hb) (hE.below hb (by omega)) (Nat.le_trans h9 hb.size) (hG.below (hb.mono h9))
 unfold diskV at hO ⊢;go_enter func55,ntmps55
 go_wp2_with (first
  | (go_at_call 85;refine(hR _).mono ?_;rintro e w1 ⟨rfl,hb1⟩;have hM1:=ownsMap_below hM hb1;have hB1:=hB0.trans (hb1.mono (by simp));obtain⟨w2,hrun,hM2,hT2⟩:=hM1.store keyedName underlying120 (by decide) (key:=nmV (1,0)) (val:=rootV) (nmType.keyOf ⟨by decide,by decide⟩) (d:=.held rootV) (ps:=[]) rfl;have hB2:=hB1.grown hT2.grown hB1.size (fun q hq=>by cases hq;omega);have hB4:=hB2.alloc hB2.size (.map #[] 0);have hB5:=hB4.alloc hB4.size (.cells #[.pointer none,.iface 75 (.pointer (some ⟨rb,0,none⟩)),.int .u64 now,.map (some w.heap.size),.map (some w2.heap.size),.int .u64 0,.int .u64 0,.bool false,.slice none 0 0] 126);unfold nmV rootV at hrun)
  | (go_at_call 99;refine(hO _ _ hB5).mono ?_;rintro e w6 ⟨rfl,bJ6,hb6⟩;have bV5:=BoxN.new (w2.alloc (.map #[] 0)) 126 #[.pointer none,.iface 75 (.pointer (some ⟨rb,0,none⟩)),.int .u64 now,.map (some w.heap.size),.map (some w2.heap.size),.int .u64 0,.int .u64 0,.bool false,.slice none 0 0];rw [World.size_alloc] at bV5;have bV6:=bV5.below hb6 (by simp);have v0:=bV6.cell 0 (v:=.pointer none) rfl;have v0f:=bV6.frozen 0))
 simp only [World.size_alloc] at bJ6;have hz2:=hB2.size;have hMl5:=(World.ownsMap_made w2 prog 114 valR).alloc (.cells #[.pointer none,.iface 75 (.pointer (some ⟨rb,0,none⟩)),.int .u64 now,.map (some w.heap.size),.map (some w2.heap.size),.int .u64 0,.int .u64 0,.bool false,.slice none 0 0] 126);have hMt5:=(hM2.alloc (.map #[] 0)).alloc (.cells #[.pointer none,.iface 75 (.pointer (some ⟨rb,0,none⟩)),.int .u64 now,.map (some w.heap.size),.map (some w2.heap.size),.int .u64 0,.int .u64 0,.bool false,.slice none 0 0] 126);have hMl6:=ownsMap_below hMl5 hb6;have hMt6:=ownsMap_below hMt5 hb6;have hB6:=hB5.trans (hb6.mono hB5.size);have hB7:=hB6.setCell (p:=⟨w2.heap.size+1,0,none⟩) (by simp;omega) (.pointer (some ⟨w2.heap.size+1+1,0,none⟩));have hS7:Spares [w2.heap.size+1] w6 (w6.setCell ⟨w2.heap.size+1,0,none⟩ (.pointer (some ⟨w2.heap.size+1+1,0,none⟩))):=(Spares.of_below (Below.refl _ _)).set (by simp) _ _;have hMl7:=hS7.map hMl6 (by simp);have hMt7:=hS7.map hMt6 (by simp;have:=hM2.lt;omega);have bJ7:=hS7.box bJ6 (by simp);have bV7:=bV6.set 0 (.pointer (some ⟨w2.heap.size+1+1,0,none⟩));have hD7:=hD.below hB7;rw [show ((DataW.map []).put (Lit.string (nmB (1,0))) (.held rootV))=mapD ([rootE].map TokE.key).reverse from rootMap] at hMt7
 exact bodyPost_ret (v:=.tuple #[.pointer (some ⟨w2.heap.size+1,0,none⟩),.nilIface]) (by simp [results,results55,go_sem]) rfl ⟨w2.heap.size+1,w.heap.size,w2.heap.size,w2.heap.size+1+1,rfl,
  { v:={ va:=⟨bV7,⟨⟨_,by decide,hMt7⟩,⟨0,by decide,hMl7⟩⟩,rootOk,hE.below hB7 (by omega),by have:=hB7.size;omega⟩,nt:=fun t ht=>by rw [List.mem_singleton.1 ht];exact Nat.le_refl _,nl:=fun l hl=>(by cases hl),t0:=t0,t1:=t1,okT:=fun t ht=>by rw [List.mem_singleton.1 ht];exact⟨by decide,by decide,by decide,by decide⟩,okL:=fun l hl=>(by cases hl),mne:=by have:=hM2.lt;show w.heap.size≠w2.heap.size;omega,v9:=by show 9≤w2.heap.size+1;omega,m9:=h9,l9:=by show 9≤w2.heap.size;omega },jn:=rfl,j:=bJ7,d:=⟨none,none,hD7,rfl,rfl⟩,j9:=by show 9≤w2.heap.size+1+1;omega,d9:=d9.1,md9:=d9.2.1,mn9:=d9.2.2,ne1:=by have:=hD.lt;show md≠w.heap.size∧md≠w2.heap.size∧mn≠w.heap.size∧mn≠w2.heap.size;omega },by omega,hB7⟩
end Go.Proofs
