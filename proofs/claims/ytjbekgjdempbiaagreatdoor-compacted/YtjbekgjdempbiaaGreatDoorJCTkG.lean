import Derived.Test.YtjbekgjdempbiaaGreatDoorJCTkF
set_option maxRecDepth 100000
set_option maxHeartbeats 8000000
namespace Go.Proofs
open Go.RowKit Go.Sort Go.Lib Go.Shelf Go.Maps
def Tryz.RvQ (W:World) (bs:List Nat):Prop:=∀ b∈bs,9<=b/\∃ t cs,BoxN W b t cs/\(t=88\/t=9\/t=144)
theorem Tryz.RvQ.ne {W:World} {bs:List Nat} (h:RvQ W bs) {b:Nat} {t:TypeId} {cs:Array Value} (hB:BoxN W b t cs) (h1:t≠88) (h2:t≠9) (h3:t≠144):b∉bs:=fun hm=>by
 obtain⟨-,t',cs',hB',ht⟩:=h b hm
 rcases ht with rfl | rfl | rfl
 ·exact hB.ne hB' h1 rfl
 ·exact hB.ne hB' h2 rfl
 exact hB.ne hB' h3 rfl
theorem Tryz.RvQ.ne_map {H:Type} {P:Program} {k:TypeId} {R:Value->Option (DataW H × List MemPlace)} {D:DataW H} {W:World} {bs:List Nat} (h:RvQ W bs) {b n:Nat} (hm:W.ownsMap P k R b n D):b∉bs:=fun hb=>by
 obtain⟨-,t',cs',hB',-⟩:=h b hb;exact BoxN.Xl hB' hm rfl
theorem Tryz.Whole.reV {W W':World} {k:Blk} {vx vx':VX} {tm tm':Int} {s:VSt} {c:List UInt8} {l f:Int} (h:Whole W k vx tm s c l f) {fd fn:Option (Nat × List UInt8)} (hd:Xk (fileN k.no) W k.db k.md k.mn fd fn (.slice none 0 0) l f) (e1:Fl fd c) (e2:Fl fn c) {bs:List Nat} (hS:Spares (k.vb :: bs) W W') (hbs:RvQ W bs) (hfd:∀ p,fd=some p->p.1∉bs) (hfn:∀ p,fn=some p->p.1∉bs)
  (hV:BoxN W' k.vb 126 (Yp vx' tm' k.mt k.ml s.tn s.ln)) (hj:vx'.jn=vx.jn) (t0:0<=tm') (t1:tm'<=18446744073709551615) (tle:tm<=tm':=by first | exact Int.le_refl _ | omega):Whole W' k vx' tm' s c l f/\Xk (fileN k.no) W' k.db k.md k.mn fd fn (.slice none 0 0) l f:=by
 obtain⟨n1,k1,m1⟩:=h.v.va.held.mapT;obtain⟨n2,k2,m2⟩:=h.v.va.held.mapL;obtain⟨n3,-,m3⟩:=hd.dm;obtain⟨n4,-,m4⟩:=hd.nm
 have hb6:=hS.below (B:=6) h.v.va.six (fun b hb=>by
  rcases List.mem_cons.1 hb with rfl | hb
  ·have:=h.v.v9;omega
  have:=(hbs b hb).1;omega)
 have hD:Xk (fileN k.no) W' k.db k.md k.mn fd fn (.slice none 0 0) l f:=hd.spared hS
  (by simp only [List.mem_cons,not_or];exact⟨hd.box.ne h.v.va.v (by decide),hbs.ne hd.box (by decide) (by decide) (by decide)⟩)
  (by simp only [List.mem_cons,not_or];exact⟨BoxN.Xl h.v.va.v m3,hbs.ne_map m3⟩)
  (by simp only [List.mem_cons,not_or];exact⟨BoxN.Xl h.v.va.v m4,hbs.ne_map m4⟩)
  (fun q hq=>by simp only [List.mem_cons,not_or];exact⟨(hd.sd q hq).ne h.v.va.v (by decide),hfd q hq⟩)
  (fun q hq=>by simp only [List.mem_cons,not_or];exact⟨(hd.sn q hq).ne h.v.va.v (by decide),hfn q hq⟩)
 refine⟨{ h with v:=⟨⟨hV,⟨⟨n1,k1,hS.map m1 ?_⟩,⟨n2,k2,hS.map m2 ?_⟩⟩,h.v.va.ok,h.v.va.env.below hb6 (Nat.le_refl _),Nat.le_trans h.v.va.six hS.size⟩,h.v.nt,h.v.nl,t0,t1,h.v.okT,h.v.okL,h.v.mne,h.v.v9,h.v.m9,h.v.l9⟩,jn:=hj.trans h.jn,j:=hS.box h.j ?_,d:=⟨fd,fn,hD,e1,e2⟩,log:=h.log.mono tle },hD⟩
 ·simp only [List.mem_cons,not_or];exact⟨h.v.nes.1,hbs.ne_map m1⟩
 ·simp only [List.mem_cons,not_or];exact⟨h.v.nes.2,hbs.ne_map m2⟩
 simp only [List.mem_cons,not_or];exact⟨h.j.ne h.v.va.v (by decide),hbs.ne h.j (by decide) (by decide) (by decide)⟩
theorem Tryz.Whole.no {W:World} {k:Blk} {vx:VX} {tm:Int} {s:VSt} {c:List UInt8} {l f:Int} (h:Whole W k vx tm s c l f) {b:Nat} {t:TypeId} {cs:Array Value} (hB:BoxN W b t cs) (h1:t≠126) (h2:t≠100):b∉k.turns:=fun hm=>by
 obtain⟨fd,fn,hd,-,-⟩:=h.d;obtain⟨n1,-,m1⟩:=h.v.va.held.mapT;obtain⟨n2,-,m2⟩:=h.v.va.held.mapL;obtain⟨n3,-,m3⟩:=hd.dm;obtain⟨n4,-,m4⟩:=hd.nm;simp only [Blk.turns,List.mem_cons,List.not_mem_nil,or_false] at hm
 rcases hm with e | e | e | e | e | e
 ·exact hB.ne h.v.va.v h1 e
 ·exact BoxN.Xl hB m1 e.symm
 ·exact BoxN.Xl hB m2 e.symm
 ·exact hB.ne hd.box h2 e
 ·exact BoxN.Xl hB m3 e.symm
 exact BoxN.Xl hB m4 e.symm
structure Tryz.TAt (B:Nat) (W:World) (k:Blk) (vx:VX) (tm:Int) (s:VSt) (c:List UInt8) (l f:Int) (rb:Nat) (fl:Int) (v:Value) (xs:List Value) (q:List Xc):Prop where
 wh:Tryz.Whole W k vx tm s c l f
 sep:∃ fd fn,Tryz.Xk (fileN k.no) W k.db k.md k.mn fd fn (.slice none 0 0) l f/\(Fl fd c/\Fl fn c)/\(∀ p,fd=some p->v.ownBlock≠some p.1)/\(∀ p,fn=some p->v.ownBlock≠some p.1)
 due:W.ownsRow B 144 3 vx.due q.length (Yd q)
 hp:Vh q
 rbx:BoxN W rb 88 #[v,.int .u64 fl]
 row:W.ownsRow B 9 1 v xs.length xs
 low:∀ b∈k.turns,B<=b
 rlow:B<=rb
 b9:9<=B
 bw:B<=W.heap.size
 vrv:vx.rv=.iface 75 (.pointer (some ⟨rb,0,none⟩))
def X2 (k:Blk) (rb:Nat) (v due:Value):List Nat:=k.turns++rb :: (v.ownBlock.toList++due.ownBlock.toList)
section
variable {B:Nat} {W W':World} {k:Blk} {vx:VX} {tm:Int} {s:VSt} {c:List UInt8} {l f:Int} {rb:Nat} {fl:Int} {v:Value} {xs:List Value} {q:List Xc}
theorem Tryz.TAt.below (h:TAt B W k vx tm s c l f rb fl v xs q) (hb:Below W.heap.size W W'):TAt B W' k vx tm s c l f rb fl v xs q:=by
 obtain⟨fd,fn,hd,hs⟩:=h.sep;exact { h with wh:=h.wh.below hb,sep:=⟨fd,fn,hd.below hb,hs⟩,due:=ownsRow_below h.due hb,rbx:=h.rbx.below hb h.rbx.lt,row:=ownsRow_below h.row hb,bw:=Nat.le_trans h.bw hb.size }
theorem Tryz.TAt.rvq (h:TAt B W k vx tm s c l f rb fl v xs q):RvQ W (rb :: (v.ownBlock.toList++vx.due.ownBlock.toList)):=fun b hb=>by
 rcases List.mem_cons.1 hb with rfl | hb
 ·exact⟨Nat.le_trans h.b9 h.rlow,_,_,h.rbx,.inl rfl⟩
 rcases List.mem_append.1 hb with hb | hb
 ·obtain⟨h1,cs,h2⟩:=Xn h.row (g:=b) (by simpa using hb)
  exact⟨Nat.le_trans h.b9 h1,_,_,h2,.inr (.inl rfl)⟩
 obtain⟨h1,cs,h2⟩:=Xn h.due (g:=b) (by simpa using hb);exact⟨Nat.le_trans h.b9 h1,_,_,h2,.inr (.inr rfl)⟩
theorem Tryz.TAt.asked (h:TAt B W k vx tm s c l f rb fl v xs q) {g cap:Nat} {fl':Int} {y:Value} (hR:BoxN W' rb 88 #[.slice (some ⟨g,0,none⟩) (xs.length+1) cap,.int .u64 fl']) (hrow:W'.ownsRow B 9 1 (.slice (some ⟨g,0,none⟩) (xs.length+1) cap) (xs.length+1) (xs ++ [y])) (hg:v.ownBlock=some g\/W.heap.size<=g) (hS:Spares (rb :: v.ownBlock.toList) W W'):TAt B W' k vx tm s c l f rb fl' (.slice (some ⟨g,0,none⟩) (xs.length+1) cap) (xs ++ [y]) q:=by
 obtain⟨fd,fn,hd,⟨e1,e2⟩,hs1,hs2⟩:=h.sep
 have hq:RvQ W (rb :: v.ownBlock.toList):=fun b hb=>h.rvq b (by
  rcases List.mem_cons.1 hb with rfl | hb
  ·simp
  exact List.mem_cons_of_mem _ (List.mem_append_left _ hb))
 have hV':=hS.box h.wh.v.va.v (hq.ne h.wh.v.va.v (by decide) (by decide) (by decide))
 have hnf:∀ p:Nat × List UInt8,(∃ x,BoxN W p.1 9 #[x])->v.ownBlock≠some p.1->p.1∉rb :: v.ownBlock.toList:=fun p ⟨x,hx⟩ hn hm=>by
  rcases List.mem_cons.1 hm with e | hm
  ·exact hx.ne h.rbx (by decide) e
  exact hn (by simpa using hm)
 obtain⟨hW',hD'⟩:=h.wh.reV hd e1 e2 (hS.mono (fun b hb=>List.mem_cons_of_mem _ hb)) hq (fun p hp=>hnf p ⟨_,hd.sd p hp⟩ (hs1 p hp)) (fun p hp=>hnf p ⟨_,hd.sn p hp⟩ (hs2 p hp)) hV' rfl h.wh.v.t0 h.wh.v.t1;refine { h with wh:=hW',sep:=⟨fd,fn,hD',⟨e1,e2⟩,fun p hp e=>?_,fun p hp e=>?_⟩,due:=hS.Jv h.due (fun b hb=>?_),rbx:=hR,row:=by simpa using hrow,bw:=Nat.le_trans h.bw hS.size }
 ·have e:g=p.1:=by simpa [Value.ownBlock] using e
  rcases hg with hg | hg
  ·exact hs1 p hp (by rw [hg,e])
  have:=(hd.sd p hp).lt;omega
 ·have e:g=p.1:=by simpa [Value.ownBlock] using e
  rcases hg with hg | hg
  ·exact hs2 p hp (by rw [hg,e])
  have:=(hd.sn p hp).lt;omega
 obtain⟨-,cs,h2⟩:=Xn h.due hb;intro hm
 rcases List.mem_cons.1 hm with e | hm
 ·exact h2.ne h.rbx (by decide) e
 obtain⟨-,cs',h3⟩:=Xn h.row (g:=b) (by simpa using hm);exact h2.ne h3 (by decide) rfl
theorem Tryz.TAt.kept (h:TAt B W k vx tm s c l f rb fl v xs q) {s':VSt} {c':List UInt8} {l' f':Int} {b b':Nat} (hW':Whole W' k vx tm s' c' l' f') (hD:Xk (fileN k.no) W' k.db k.md k.mn (some (b,c')) (some (b',c')) (.slice none 0 0) l' f') (hb:W.heap.size<=b) (hb':W.heap.size<=b') (hS:Spares k.turns W W') (hc':c' ≠ []):TAt B W' k vx tm s' c' l' f' rb fl v xs q:=by
 have hv:∀ {g:Nat},v.ownBlock=some g->g<W.heap.size/\g∉k.turns:=fun {g} hg=>by
  obtain⟨-,cs,h2⟩:=Xn h.row hg;exact⟨h2.lt,h.wh.no h2 (by decide) (by decide)⟩
 refine { h with wh:=hW',sep:=⟨_,_,hD,⟨Fl.some hc',Fl.some hc'⟩,fun p hp e=>?_,fun p hp e=>?_⟩,due:=hS.Jv h.due (fun g hg=>?_),rbx:=hS.box h.rbx (h.wh.no h.rbx (by decide) (by decide)),row:=hS.Jv h.row (fun g hg=>(hv hg).2),bw:=Nat.le_trans h.bw hS.size }
 ·cases hp;have:=(hv e).1;omega
 ·cases hp;have:=(hv e).1;omega
 obtain⟨-,cs,h2⟩:=Xn h.due hg;exact h.wh.no h2 (by decide) (by decide)
theorem Tryz.TAt.Xai (h:TAt B W k vx tm s c l f rb fl v xs q) {vx':VX} {tm':Int} {q':List Xc} (hV:BoxN W' k.vb 126 (Yp vx' tm' k.mt k.ml s.tn s.ln)) (hj:vx'.jn=vx.jn) (hr:vx'.rv=vx.rv) (t0:0<=tm') (t1:tm'<=18446744073709551615) (hdue:W'.ownsRow B 144 3 vx'.due q'.length (Yd q')) (hH:Vh q') (hS:Spares (k.vb :: vx.due.ownBlock.toList) W W') (tle:tm<=tm':=by first | exact Int.le_refl _ | omega):TAt B W' k vx' tm' s c l f rb fl v xs q':=by
 obtain⟨fd,fn,hd,⟨e1,e2⟩,hs⟩:=h.sep
 have hq:RvQ W vx.due.ownBlock.toList:=fun b hb=>h.rvq b (List.mem_cons_of_mem _ (List.mem_append_right _ hb))
 have hnd:∀ {g:Nat} {t:TypeId} {cs:Array Value},BoxN W g t cs->t≠144->g∉vx.due.ownBlock.toList:=fun hB ht hm=>by
  obtain⟨-,cs',h2⟩:=Xn h.due (g:=_) (by simpa using hm);exact hB.ne h2 ht rfl
 obtain⟨hW',hD'⟩:=h.wh.reV hd e1 e2 hS hq (fun p hp=>hnd (hd.sd p hp) (by decide)) (fun p hp=>hnd (hd.sn p hp) (by decide)) hV hj t0 t1 tle;refine { h with wh:=hW',sep:=⟨fd,fn,hD',⟨e1,e2⟩,hs⟩,due:=hdue,hp:=hH,rbx:=hS.box h.rbx ?_,row:=hS.Jv h.row (fun g hg=>?_),bw:=Nat.le_trans h.bw hS.size,vrv:=hr.trans h.vrv }
 ·simp only [List.mem_cons,not_or];exact⟨h.rbx.ne h.wh.v.va.v (by decide),hnd h.rbx (by decide)⟩
 obtain⟨-,cs,h2⟩:=Xn h.row hg;simp only [List.mem_cons,not_or];exact⟨h2.ne h.wh.v.va.v (by decide),hnd h2 (by decide)⟩
end
end Go.Proofs
