import Derived.Test.YtjbekgjdempbiaaGreatDoorJSys
set_option maxRecDepth 100000
set_option maxHeartbeats 8000000
namespace Go.Proofs
open Go.RowKit Go.Sort Go.Lib Go.Shelf Go.Maps
theorem Tryz.Sys.turns_rev {B hb rb:Nat} {σ:SS} {W:World} (h:Sys B W hb rb σ):∀ b∈σ.k.turns,b≠rb:=fun b hbt=>by
 obtain⟨ra,rc,hr⟩:=h.rvb;obtain⟨fd,fn,hd,e1,e2⟩:=h.wh.d;obtain⟨n1,-,m1⟩:=h.wh.v.va.held.mapT;obtain⟨n2,-,m2⟩:=h.wh.v.va.held.mapL;obtain⟨n3,-,m3⟩:=hd.dm;obtain⟨n4,-,m4⟩:=hd.nm;simp only [Blk.turns,List.mem_cons,List.not_mem_nil,or_false] at hbt
 rcases hbt with rfl | rfl | rfl | rfl | rfl | rfl
 ·exact h.wh.v.va.v.ne hr (by decide)
 ·exact BoxN.ne_map' hr m1
 ·exact BoxN.ne_map' hr m2
 ·exact hd.box.ne hr (by decide)
 ·exact BoxN.ne_map' hr m3
 ·exact BoxN.ne_map' hr m4
theorem Tryz.Sys.turns_due {B hb rb:Nat} {σ:SS} {W:World} (h:Sys B W hb rb σ):∀ b∈σ.k.turns,σ.vx.due.ownBlock≠some b:=fun b hbt hg=>by
 obtain⟨-,cur,hr⟩:=row_box h.due hg;obtain⟨fd,fn,hd,e1,e2⟩:=h.wh.d;obtain⟨n1,-,m1⟩:=h.wh.v.va.held.mapT;obtain⟨n2,-,m2⟩:=h.wh.v.va.held.mapL;obtain⟨n3,-,m3⟩:=hd.dm;obtain⟨n4,-,m4⟩:=hd.nm;simp only [Blk.turns,List.mem_cons,List.not_mem_nil,or_false] at hbt
 rcases hbt with rfl | rfl | rfl | rfl | rfl | rfl
 ·exact h.wh.v.va.v.ne hr (by decide) rfl
 ·exact BoxN.ne_map' hr m1 rfl
 ·exact BoxN.ne_map' hr m2 rfl
 ·exact hd.box.ne hr (by decide) rfl
 ·exact BoxN.ne_map' hr m3 rfl
 ·exact BoxN.ne_map' hr m4 rfl
theorem Tryz.hCreate (B hb rb:Nat) (σ:SS) (w:World) (hS:Sys B w hb rb σ) (id:List UInt8) (cc dd:Int) (s:Value) (er:Value) (k:Int)
  (hT:∀ W,ErrT W→Calls prog 43 #[er] W fun e w'=>e=.returned (.int .i64 k)∧Below W.heap.size W w') (Q:SS→Prop)
  (hC:∀ W,w.heap.size≤W.heap.size→Whole W σ.k σ.vx σ.tm σ.s σ.c (-1) (-1)→Calls prog 49 #[.pointer (some ⟨σ.k.vb,0,none⟩),.string ⟨id.toArray⟩] W fun e w'=>e=.returned (.tuple #[s,er])∧(∃ σ' l f,(Q σ'∧σ'.k=σ.k∧σ'.vx=σ.vx)∧Whole w' σ.k σ'.vx σ'.tm σ'.s σ'.c l f)∧Spares σ.k.turns W w') :
  Calls prog 25 #[.pointer (some ⟨hb,0,none⟩),.string ⟨id.toArray⟩,fallV (-1) (-1) cc dd] w fun e w'=>e=.returned (.tuple #[s,.int .i64 k])∧(∃ σ',(Q σ'∧σ'.k=σ.k∧σ'.vx=σ.vx)∧Sys B w' hb rb σ')∧Spares σ.k.turns w w':=by
 obtain⟨fd,fn,hD,e1,e2⟩:=hS.wh.d;have hH:=hS.host;have hbs:=hS.turns_host
 have hdb:σ.k.db∈σ.k.turns:=by simp [Blk.turns]
 have hne:=hH.ne hD.box (by decide);have lH:=hH.lt;have lD:=hD.box.lt;have hB0:Below w.heap.size w (w.alloc (.cells #[.int .i64 (-1),.int .i64 (-1),.int .i64 cc,.int .i64 dd] 29)):=(Below.refl _ w).alloc (Nat.le_refl _) _;have bF:=BoxN.new w 29 #[.int .i64 (-1),.int .i64 (-1),.int .i64 cc,.int .i64 dd];have h2:=hH.cell 2 (v:=.pointer (some ⟨σ.k.vb,0,none⟩)) rfl;have hBf:=before hb σ.k.db _ _ _ _ _ _ _ _ (-1) (-1) cc dd _ (hH.alloc (.cells #[.int .i64 (-1),.int .i64 (-1),.int .i64 cc,.int .i64 dd] 29)) (hD.box.alloc _);have hW0:=hS.wh.below hB0;have h9:=hS.nine;unfold fallV at hBf ⊢;go_enter func25,ntmps25
 go_wp2_with (first
  | (go_at_call 40;refine hBf.mono ?_;rintro e w1 ⟨rfl,bD1,hg1⟩;have bH1:=(hH.alloc (.cells #[.int .i64 (-1),.int .i64 (-1),.int .i64 cc,.int .i64 dd] 29)).kept hg1 (by intro e;injection e with e;exact hne e);have bF1:=bF.kept hg1 (by intro e;injection e with e;omega);have hW1:=hW0.setLF (Spares.of_grown hg1 (by simp)) bD1;have hC1:=hC w1 (by have:=hg1.size;simp at this;omega) hW1;have h21:=bH1.cell 2 (v:=.pointer (some ⟨σ.k.vb,0,none⟩)) rfl;have f0:=bF1.cell 0 (v:=.int .i64 (-1)) rfl;have f1:=bF1.cell 1 (v:=.int .i64 (-1)) rfl;have f2:=bF1.cell 2 (v:=.int .i64 cc) rfl;have f3:=bF1.cell 3 (v:=.int .i64 dd) rfl;have HG1:=hid_intro hg1;clear hg1)
  | (go_at_call 49;refine hC1.mono ?_;rintro e w2 ⟨rfl,⟨σ',l',f',hQ,hW2⟩,hs2⟩;have bH2:=hs2.box bH1 (fun hx=>(hbs _ hx).2.1 rfl);obtain⟨fd2,fn2,hD2,-,-⟩:=hW2.d;have bF2:=hs2.box bF1 (fun hx=>by have:=(hbs _ hx).2.2;omega);have g0:=bF2.cell 0 (v:=.int .i64 (-1)) rfl;have g1:=bF2.cell 1 (v:=.int .i64 (-1)) rfl;have g2:=bF2.cell 2 (v:=.int .i64 cc) rfl;have g3:=bF2.cell 3 (v:=.int .i64 dd) rfl;have hBa:=after hb σ.k.db _ _ _ _ _ _ _ (-1) (-1) cc dd _ bH2 hD2.box;unfold fallV at hBa;have HS2:=hid_intro hs2;clear hs2)
  | (go_at_call 42;refine hBa.mono ?_;rintro e w3 ⟨rfl,bD3,hg3⟩;have hsp3:Spares σ.k.turns w w3:=(((Spares.of_below hB0).trans (Spares.of_grown (hid_elim HG1) hdb)).trans (hid_elim HS2)).trans (Spares.of_grown hg3 hdb);have hE3:ErrT w3:=hS.err.below (hsp3.below h9 (fun b hb=>(hbs b hb).1));have HG3:=hid_intro hg3;clear hg3;have HSP:=hid_intro hsp3;clear hsp3)
  | (go_at_call 43;refine(hT _ hE3).mono ?_;rintro e w4 ⟨rfl,hb4⟩))
 have hsp3:=hid_elim HSP;have hg3:=hid_elim HG3;have bH3:=bH2.kept hg3 (by intro e;injection e with e;exact hne e);have hW3:=hW2.setLF (Spares.of_grown hg3 (by simp)) bD3;obtain⟨hQ1,hk,hx⟩:=hQ;obtain⟨ra,rc,hr⟩:=hS.rvb
 have hSy:Sys B w3 hb rb σ':=by
  exact { host:=by rw [hk];exact bH3,wh:=by rw [hk];exact hW3,err:=hE3,b9:=hS.b9,hlow:=hS.hlow,low:=by rw [hk];exact hS.low,rvb:=⟨ra,rc,hsp3.box hr (fun hm=>Sys.turns_rev hS rb hm rfl)⟩,rlow:=hS.rlow,vrv:=by rw [hx];exact hS.vrv,vtk:=by rw [hx];exact hS.vtk,due:=by rw [hx];exact hsp3.row' hS.due (fun g hg hm=>Sys.turns_due hS g hm hg) }
 exact bodyPost_ret (v:=.tuple #[s,.int .i64 k]) (by simp [results,results25,go_sem]) rfl ⟨rfl,⟨σ',⟨hQ1,hk,hx⟩,hSy.below hb4⟩,hsp3.trans (Spares.of_below hb4)⟩
theorem Tryz.hIssue (B hb rb:Nat) (σ:SS) (w:World) (hS:Sys B w hb rb σ) (id pth:List UInt8) (ttl most:Int) (cc dd:Int) (s:Value) (er:Value) (k:Int)
  (hT:∀ W,ErrT W→Calls prog 43 #[er] W fun e w'=>e=.returned (.int .i64 k)∧Below W.heap.size W w') (Q:SS→Prop)
  (hC:∀ W,w.heap.size≤W.heap.size→Whole W σ.k σ.vx σ.tm σ.s σ.c (-1) (-1)→Calls prog 41 #[.pointer (some ⟨σ.k.vb,0,none⟩),.string ⟨id.toArray⟩,.string ⟨pth.toArray⟩,.int .u64 ttl,.int .u64 most] W fun e w'=>e=.returned (.tuple #[s,er])∧(∃ σ' l f,(Q σ'∧σ'.k=σ.k∧σ'.vx=σ.vx)∧Whole w' σ.k σ'.vx σ'.tm σ'.s σ'.c l f)∧Spares σ.k.turns W w') :
  Calls prog 18 #[.pointer (some ⟨hb,0,none⟩),.string ⟨id.toArray⟩,.string ⟨pth.toArray⟩,.int .u64 ttl,.int .u64 most,fallV (-1) (-1) cc dd] w fun e w'=>e=.returned (.tuple #[s,.int .i64 k])∧(∃ σ',(Q σ'∧σ'.k=σ.k∧σ'.vx=σ.vx)∧Sys B w' hb rb σ')∧Spares σ.k.turns w w':=by
 obtain⟨fd,fn,hD,e1,e2⟩:=hS.wh.d;have hH:=hS.host;have hbs:=hS.turns_host
 have hdb:σ.k.db∈σ.k.turns:=by simp [Blk.turns]
 have hne:=hH.ne hD.box (by decide);have lH:=hH.lt;have lD:=hD.box.lt;have hB0:Below w.heap.size w (w.alloc (.cells #[.int .i64 (-1),.int .i64 (-1),.int .i64 cc,.int .i64 dd] 29)):=(Below.refl _ w).alloc (Nat.le_refl _) _;have bF:=BoxN.new w 29 #[.int .i64 (-1),.int .i64 (-1),.int .i64 cc,.int .i64 dd];have h2:=hH.cell 2 (v:=.pointer (some ⟨σ.k.vb,0,none⟩)) rfl;have hBf:=before hb σ.k.db _ _ _ _ _ _ _ _ (-1) (-1) cc dd _ (hH.alloc (.cells #[.int .i64 (-1),.int .i64 (-1),.int .i64 cc,.int .i64 dd] 29)) (hD.box.alloc _);have hW0:=hS.wh.below hB0;have h9:=hS.nine;unfold fallV at hBf ⊢;go_enter func18,ntmps18
 go_wp2_with (first
  | (go_at_call 40;refine hBf.mono ?_;rintro e w1 ⟨rfl,bD1,hg1⟩;have bH1:=(hH.alloc (.cells #[.int .i64 (-1),.int .i64 (-1),.int .i64 cc,.int .i64 dd] 29)).kept hg1 (by intro e;injection e with e;exact hne e);have bF1:=bF.kept hg1 (by intro e;injection e with e;omega);have hW1:=hW0.setLF (Spares.of_grown hg1 (by simp)) bD1;have hC1:=hC w1 (by have:=hg1.size;simp at this;omega) hW1;have h21:=bH1.cell 2 (v:=.pointer (some ⟨σ.k.vb,0,none⟩)) rfl;have f0:=bF1.cell 0 (v:=.int .i64 (-1)) rfl;have f1:=bF1.cell 1 (v:=.int .i64 (-1)) rfl;have f2:=bF1.cell 2 (v:=.int .i64 cc) rfl;have f3:=bF1.cell 3 (v:=.int .i64 dd) rfl;have HG1:=hid_intro hg1;clear hg1)
  | (go_at_call 41;refine hC1.mono ?_;rintro e w2 ⟨rfl,⟨σ',l',f',hQ,hW2⟩,hs2⟩;have bH2:=hs2.box bH1 (fun hx=>(hbs _ hx).2.1 rfl);obtain⟨fd2,fn2,hD2,-,-⟩:=hW2.d;have bF2:=hs2.box bF1 (fun hx=>by have:=(hbs _ hx).2.2;omega);have g0:=bF2.cell 0 (v:=.int .i64 (-1)) rfl;have g1:=bF2.cell 1 (v:=.int .i64 (-1)) rfl;have g2:=bF2.cell 2 (v:=.int .i64 cc) rfl;have g3:=bF2.cell 3 (v:=.int .i64 dd) rfl;have hBa:=after hb σ.k.db _ _ _ _ _ _ _ (-1) (-1) cc dd _ bH2 hD2.box;unfold fallV at hBa;have HS2:=hid_intro hs2;clear hs2)
  | (go_at_call 42;refine hBa.mono ?_;rintro e w3 ⟨rfl,bD3,hg3⟩;have hsp3:Spares σ.k.turns w w3:=(((Spares.of_below hB0).trans (Spares.of_grown (hid_elim HG1) hdb)).trans (hid_elim HS2)).trans (Spares.of_grown hg3 hdb);have hE3:ErrT w3:=hS.err.below (hsp3.below h9 (fun b hb=>(hbs b hb).1));have HG3:=hid_intro hg3;clear hg3;have HSP:=hid_intro hsp3;clear hsp3)
  | (go_at_call 43;refine(hT _ hE3).mono ?_;rintro e w4 ⟨rfl,hb4⟩))
 have hsp3:=hid_elim HSP;have hg3:=hid_elim HG3;have bH3:=bH2.kept hg3 (by intro e;injection e with e;exact hne e);have hW3:=hW2.setLF (Spares.of_grown hg3 (by simp)) bD3;obtain⟨hQ1,hk,hx⟩:=hQ;obtain⟨ra,rc,hr⟩:=hS.rvb
 have hSy:Sys B w3 hb rb σ':=by
  exact { host:=by rw [hk];exact bH3,wh:=by rw [hk];exact hW3,err:=hE3,b9:=hS.b9,hlow:=hS.hlow,low:=by rw [hk];exact hS.low,rvb:=⟨ra,rc,hsp3.box hr (fun hm=>Sys.turns_rev hS rb hm rfl)⟩,rlow:=hS.rlow,vrv:=by rw [hx];exact hS.vrv,vtk:=by rw [hx];exact hS.vtk,due:=by rw [hx];exact hsp3.row' hS.due (fun g hg hm=>Sys.turns_due hS g hm hg) }
 exact bodyPost_ret (v:=.tuple #[s,.int .i64 k]) (by simp [results,results18,go_sem]) rfl ⟨rfl,⟨σ',⟨hQ1,hk,hx⟩,hSy.below hb4⟩,hsp3.trans (Spares.of_below hb4)⟩
theorem Tryz.hRenew (B hb rb:Nat) (σ:SS) (w:World) (hS:Sys B w hb rb σ) (id:List UInt8) (ttl:Int) (cc dd:Int) (s:Value) (er:Value) (k:Int)
  (hT:∀ W,ErrT W→Calls prog 43 #[er] W fun e w'=>e=.returned (.int .i64 k)∧Below W.heap.size W w') (Q:SS→Prop)
  (hC:∀ W,w.heap.size≤W.heap.size→Whole W σ.k σ.vx σ.tm σ.s σ.c (-1) (-1)→Calls prog 44 #[.pointer (some ⟨σ.k.vb,0,none⟩),.string ⟨id.toArray⟩,.int .u64 ttl] W fun e w'=>e=.returned (.tuple #[s,er])∧(∃ σ' l f,(Q σ'∧σ'.k=σ.k∧σ'.vx=σ.vx)∧Whole w' σ.k σ'.vx σ'.tm σ'.s σ'.c l f)∧Spares σ.k.turns W w') :
  Calls prog 20 #[.pointer (some ⟨hb,0,none⟩),.string ⟨id.toArray⟩,.int .u64 ttl,fallV (-1) (-1) cc dd] w fun e w'=>e=.returned (.tuple #[s,.int .i64 k])∧(∃ σ',(Q σ'∧σ'.k=σ.k∧σ'.vx=σ.vx)∧Sys B w' hb rb σ')∧Spares σ.k.turns w w':=by
 obtain⟨fd,fn,hD,e1,e2⟩:=hS.wh.d;have hH:=hS.host;have hbs:=hS.turns_host
 have hdb:σ.k.db∈σ.k.turns:=by simp [Blk.turns]
 have hne:=hH.ne hD.box (by decide);have lH:=hH.lt;have lD:=hD.box.lt;have hB0:Below w.heap.size w (w.alloc (.cells #[.int .i64 (-1),.int .i64 (-1),.int .i64 cc,.int .i64 dd] 29)):=(Below.refl _ w).alloc (Nat.le_refl _) _;have bF:=BoxN.new w 29 #[.int .i64 (-1),.int .i64 (-1),.int .i64 cc,.int .i64 dd];have h2:=hH.cell 2 (v:=.pointer (some ⟨σ.k.vb,0,none⟩)) rfl;have hBf:=before hb σ.k.db _ _ _ _ _ _ _ _ (-1) (-1) cc dd _ (hH.alloc (.cells #[.int .i64 (-1),.int .i64 (-1),.int .i64 cc,.int .i64 dd] 29)) (hD.box.alloc _);have hW0:=hS.wh.below hB0;have h9:=hS.nine;unfold fallV at hBf ⊢;go_enter func20,ntmps20
 go_wp2_with (first
  | (go_at_call 40;refine hBf.mono ?_;rintro e w1 ⟨rfl,bD1,hg1⟩;have bH1:=(hH.alloc (.cells #[.int .i64 (-1),.int .i64 (-1),.int .i64 cc,.int .i64 dd] 29)).kept hg1 (by intro e;injection e with e;exact hne e);have bF1:=bF.kept hg1 (by intro e;injection e with e;omega);have hW1:=hW0.setLF (Spares.of_grown hg1 (by simp)) bD1;have hC1:=hC w1 (by have:=hg1.size;simp at this;omega) hW1;have h21:=bH1.cell 2 (v:=.pointer (some ⟨σ.k.vb,0,none⟩)) rfl;have f0:=bF1.cell 0 (v:=.int .i64 (-1)) rfl;have f1:=bF1.cell 1 (v:=.int .i64 (-1)) rfl;have f2:=bF1.cell 2 (v:=.int .i64 cc) rfl;have f3:=bF1.cell 3 (v:=.int .i64 dd) rfl;have HG1:=hid_intro hg1;clear hg1)
  | (go_at_call 44;refine hC1.mono ?_;rintro e w2 ⟨rfl,⟨σ',l',f',hQ,hW2⟩,hs2⟩;have bH2:=hs2.box bH1 (fun hx=>(hbs _ hx).2.1 rfl);obtain⟨fd2,fn2,hD2,-,-⟩:=hW2.d;have bF2:=hs2.box bF1 (fun hx=>by have:=(hbs _ hx).2.2;omega);have g0:=bF2.cell 0 (v:=.int .i64 (-1)) rfl;have g1:=bF2.cell 1 (v:=.int .i64 (-1)) rfl;have g2:=bF2.cell 2 (v:=.int .i64 cc) rfl;have g3:=bF2.cell 3 (v:=.int .i64 dd) rfl;have hBa:=after hb σ.k.db _ _ _ _ _ _ _ (-1) (-1) cc dd _ bH2 hD2.box;unfold fallV at hBa;have HS2:=hid_intro hs2;clear hs2)
  | (go_at_call 42;refine hBa.mono ?_;rintro e w3 ⟨rfl,bD3,hg3⟩;have hsp3:Spares σ.k.turns w w3:=(((Spares.of_below hB0).trans (Spares.of_grown (hid_elim HG1) hdb)).trans (hid_elim HS2)).trans (Spares.of_grown hg3 hdb);have hE3:ErrT w3:=hS.err.below (hsp3.below h9 (fun b hb=>(hbs b hb).1));have HG3:=hid_intro hg3;clear hg3;have HSP:=hid_intro hsp3;clear hsp3)
  | (go_at_call 43;refine(hT _ hE3).mono ?_;rintro e w4 ⟨rfl,hb4⟩))
 have hsp3:=hid_elim HSP;have hg3:=hid_elim HG3;have bH3:=bH2.kept hg3 (by intro e;injection e with e;exact hne e);have hW3:=hW2.setLF (Spares.of_grown hg3 (by simp)) bD3;obtain⟨hQ1,hk,hx⟩:=hQ;obtain⟨ra,rc,hr⟩:=hS.rvb
 have hSy:Sys B w3 hb rb σ':=by
  exact { host:=by rw [hk];exact bH3,wh:=by rw [hk];exact hW3,err:=hE3,b9:=hS.b9,hlow:=hS.hlow,low:=by rw [hk];exact hS.low,rvb:=⟨ra,rc,hsp3.box hr (fun hm=>Sys.turns_rev hS rb hm rfl)⟩,rlow:=hS.rlow,vrv:=by rw [hx];exact hS.vrv,vtk:=by rw [hx];exact hS.vtk,due:=by rw [hx];exact hsp3.row' hS.due (fun g hg hm=>Sys.turns_due hS g hm hg) }
 exact bodyPost_ret (v:=.tuple #[s,.int .i64 k]) (by simp [results,results20,go_sem]) rfl ⟨rfl,⟨σ',⟨hQ1,hk,hx⟩,hSy.below hb4⟩,hsp3.trans (Spares.of_below hb4)⟩
theorem Tryz.hRevoke (B hb rb:Nat) (σ:SS) (w:World) (hS:Sys B w hb rb σ) (id:List UInt8) (cc dd:Int) (er:Value) (k:Int)
  (hT:∀ W,ErrT W→Calls prog 43 #[er] W fun e w'=>e=.returned (.int .i64 k)∧Below W.heap.size W w') (Q:SS→Prop)
  (hC:∀ W,w.heap.size≤W.heap.size→Whole W σ.k σ.vx σ.tm σ.s σ.c (-1) (-1)→Calls prog 51 #[.pointer (some ⟨σ.k.vb,0,none⟩),.string ⟨id.toArray⟩] W fun e w'=>e=.returned (er)∧(∃ σ' l f,(Q σ'∧σ'.k=σ.k∧σ'.vx=σ.vx)∧Whole w' σ.k σ'.vx σ'.tm σ'.s σ'.c l f)∧Spares σ.k.turns W w') :
  Calls prog 28 #[.pointer (some ⟨hb,0,none⟩),.string ⟨id.toArray⟩,fallV (-1) (-1) cc dd] w fun e w'=>e=.returned (.int .i64 k)∧(∃ σ',(Q σ'∧σ'.k=σ.k∧σ'.vx=σ.vx)∧Sys B w' hb rb σ')∧Spares σ.k.turns w w':=by
 obtain⟨fd,fn,hD,e1,e2⟩:=hS.wh.d;have hH:=hS.host;have hbs:=hS.turns_host
 have hdb:σ.k.db∈σ.k.turns:=by simp [Blk.turns]
 have hne:=hH.ne hD.box (by decide);have lH:=hH.lt;have lD:=hD.box.lt;have hB0:Below w.heap.size w (w.alloc (.cells #[.int .i64 (-1),.int .i64 (-1),.int .i64 cc,.int .i64 dd] 29)):=(Below.refl _ w).alloc (Nat.le_refl _) _;have bF:=BoxN.new w 29 #[.int .i64 (-1),.int .i64 (-1),.int .i64 cc,.int .i64 dd];have h2:=hH.cell 2 (v:=.pointer (some ⟨σ.k.vb,0,none⟩)) rfl;have hBf:=before hb σ.k.db _ _ _ _ _ _ _ _ (-1) (-1) cc dd _ (hH.alloc (.cells #[.int .i64 (-1),.int .i64 (-1),.int .i64 cc,.int .i64 dd] 29)) (hD.box.alloc _);have hW0:=hS.wh.below hB0;have h9:=hS.nine;unfold fallV at hBf ⊢;go_enter func28,ntmps28
 go_wp2_with (first
  | (go_at_call 40;refine hBf.mono ?_;rintro e w1 ⟨rfl,bD1,hg1⟩;have bH1:=(hH.alloc (.cells #[.int .i64 (-1),.int .i64 (-1),.int .i64 cc,.int .i64 dd] 29)).kept hg1 (by intro e;injection e with e;exact hne e);have bF1:=bF.kept hg1 (by intro e;injection e with e;omega);have hW1:=hW0.setLF (Spares.of_grown hg1 (by simp)) bD1;have hC1:=hC w1 (by have:=hg1.size;simp at this;omega) hW1;have h21:=bH1.cell 2 (v:=.pointer (some ⟨σ.k.vb,0,none⟩)) rfl;have f0:=bF1.cell 0 (v:=.int .i64 (-1)) rfl;have f1:=bF1.cell 1 (v:=.int .i64 (-1)) rfl;have f2:=bF1.cell 2 (v:=.int .i64 cc) rfl;have f3:=bF1.cell 3 (v:=.int .i64 dd) rfl;have HG1:=hid_intro hg1;clear hg1)
  | (go_at_call 51;refine hC1.mono ?_;rintro e w2 ⟨rfl,⟨σ',l',f',hQ,hW2⟩,hs2⟩;have bH2:=hs2.box bH1 (fun hx=>(hbs _ hx).2.1 rfl);obtain⟨fd2,fn2,hD2,-,-⟩:=hW2.d;have bF2:=hs2.box bF1 (fun hx=>by have:=(hbs _ hx).2.2;omega);have g0:=bF2.cell 0 (v:=.int .i64 (-1)) rfl;have g1:=bF2.cell 1 (v:=.int .i64 (-1)) rfl;have g2:=bF2.cell 2 (v:=.int .i64 cc) rfl;have g3:=bF2.cell 3 (v:=.int .i64 dd) rfl;have hBa:=after hb σ.k.db _ _ _ _ _ _ _ (-1) (-1) cc dd _ bH2 hD2.box;unfold fallV at hBa;have HS2:=hid_intro hs2;clear hs2)
  | (go_at_call 42;refine hBa.mono ?_;rintro e w3 ⟨rfl,bD3,hg3⟩;have hsp3:Spares σ.k.turns w w3:=(((Spares.of_below hB0).trans (Spares.of_grown (hid_elim HG1) hdb)).trans (hid_elim HS2)).trans (Spares.of_grown hg3 hdb);have hE3:ErrT w3:=hS.err.below (hsp3.below h9 (fun b hb=>(hbs b hb).1));have HG3:=hid_intro hg3;clear hg3;have HSP:=hid_intro hsp3;clear hsp3)
  | (go_at_call 43;refine(hT _ hE3).mono ?_;rintro e w4 ⟨rfl,hb4⟩))
 have hsp3:=hid_elim HSP;have hg3:=hid_elim HG3;have bH3:=bH2.kept hg3 (by intro e;injection e with e;exact hne e);have hW3:=hW2.setLF (Spares.of_grown hg3 (by simp)) bD3;obtain⟨hQ1,hk,hx⟩:=hQ;obtain⟨ra,rc,hr⟩:=hS.rvb
 have hSy:Sys B w3 hb rb σ':=by
  exact { host:=by rw [hk];exact bH3,wh:=by rw [hk];exact hW3,err:=hE3,b9:=hS.b9,hlow:=hS.hlow,low:=by rw [hk];exact hS.low,rvb:=⟨ra,rc,hsp3.box hr (fun hm=>Sys.turns_rev hS rb hm rfl)⟩,rlow:=hS.rlow,vrv:=by rw [hx];exact hS.vrv,vtk:=by rw [hx];exact hS.vtk,due:=by rw [hx];exact hsp3.row' hS.due (fun g hg hm=>Sys.turns_due hS g hm hg) }
 exact bodyPost_ret (v:=.int .i64 k) (by simp [results,results28,go_sem]) rfl ⟨rfl,⟨σ',⟨hQ1,hk,hx⟩,hSy.below hb4⟩,hsp3.trans (Spares.of_below hb4)⟩
theorem Tryz.hAuth (hb db rb vb:Nat) (w:World) (hH:BoxN w hb 78 #[.pointer (some ⟨db,0,none⟩),.pointer (some ⟨rb,0,none⟩),.pointer (some ⟨vb,0,none⟩)]) (id pth:List UInt8) (r:Bool)
  (hC:Calls prog 47 #[.pointer (some ⟨vb,0,none⟩),.string ⟨id.toArray⟩,.string ⟨pth.toArray⟩] w fun e w'=>e=.returned (.bool r)∧Below w.heap.size w w') :
  Calls prog 23 #[.pointer (some ⟨hb,0,none⟩),.string ⟨id.toArray⟩,.string ⟨pth.toArray⟩] w fun e w'=>e=.returned (.bool r)∧Below w.heap.size w w':=by
 have h2:=hH.cell 2 (v:=.pointer (some ⟨vb,0,none⟩)) rfl;go_enter func23,ntmps23
 go_wp2_with (go_at_call 47;refine hC.mono ?_;rintro e w1 ⟨rfl,hb1⟩)
 go_ret;exact⟨rfl,hb1⟩
end Go.Proofs
