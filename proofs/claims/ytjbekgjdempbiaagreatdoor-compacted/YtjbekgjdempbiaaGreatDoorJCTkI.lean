import Derived.Test.YtjbekgjdempbiaaGreatDoorJCTkH
set_option maxRecDepth 100000
set_option maxHeartbeats 8000000
namespace Go.Proofs
open Go.RowKit Go.Sort Go.Lib Go.Shelf Go.Maps
section
variable {W:World} {vb mt ml:Nat} {vx:VX} {tm tn ln:Int} {tks:List Xe} {lks:List Xd}
theorem Tryz.X0.Xmn (h:X0 W vb mt ml vx tm tn ln tks lks) {t:Xe} (ht:t∈tks) :
  (Instr.lookup 120 (.map (some mt)) (nmV (1,(t.n:Int))) false).run prog W=.ok (.agg t.cells) W:=by
 obtain⟨n,_,hm⟩:=h.held.mapT;exact Xo.Xds h.ok.ksT.1 (Xbn (.inl rfl) (h.ok.limT t ht).1) hm underlying120 (Xee _) (Zh h.ok.ksT.1 (List.mem_reverse.2 (List.mem_map.2 ⟨t,ht,rfl⟩)))
theorem Tryz.X0.Xmm (h:X0 W vb mt ml vx tm tn ln tks lks) {t:Xd} (ht:t∈lks) :
  (Instr.lookup 121 (.map (some ml)) (nmV (2,(t.n:Int))) false).run prog W=.ok (.agg t.cells) W:=by
 obtain⟨n,_,hm⟩:=h.held.mapL;exact Xo.Xds h.ok.ksL.1 (Xbn (.inr rfl) (h.ok.limL t ht).1) hm underlying121 (Xih _) (Zh h.ok.ksL.1 (List.mem_reverse.2 (List.mem_map.2 ⟨t,ht,rfl⟩)))
end
section
variable {B:Nat} {W W':World} {k:Blk} {vx:VX} {tm:Int} {s:VSt} {c:List UInt8} {l f:Int} {rb:Nat} {fl:Int} {v:Value} {xs:List Value} {q:List Xc}
theorem Tryz.TAt.own (h:TAt B W k vx tm s c l f rb fl v xs q) {row:Option Nat} (hg:W.grownBy W' row) (hr:∀ r,row=some r->(6<=r/\k.mt≠r/\k.ml≠r/\k.md≠r/\k.mn≠r)/\∃ o:Obj,W.heap[r]? = some o/\o.isCells=false):TAt B W' k vx tm s c l f rb fl v xs q:=by
 have hS:Spares row.toList W W':=Spares.Xah hg (fun b hb=>by rw [hb];simp)
 have nb:∀ {b:Nat} {t:TypeId} {cs:Array Value},BoxN W b t cs->b∉row.toList:=fun {b} {t} {cs} hB hm=>by
  obtain⟨-,o,ho,hc⟩:=hr b (by simpa using hm);rw [show W.heap[b]? = _ from hB] at ho;cases ho;cases hc
 obtain⟨fd,fn,hd,⟨e1,e2⟩,hs⟩:=h.sep
 have hmt:k.mt∉row.toList:=fun hm=>(hr _ (by simpa using hm)).1.2.1 rfl
 have hml:k.ml∉row.toList:=fun hm=>(hr _ (by simpa using hm)).1.2.2.1 rfl
 have hmd:k.md∉row.toList:=fun hm=>(hr _ (by simpa using hm)).1.2.2.2.1 rfl
 have hmn:k.mn∉row.toList:=fun hm=>(hr _ (by simpa using hm)).1.2.2.2.2 rfl
 have hD:=hd.spared hS (nb hd.box) hmd hmn (fun p hp=>nb (hd.sd p hp)) (fun p hp=>nb (hd.sn p hp))
 have hrow:∀ {e:TypeId} {sz n:Nat} {v:Value} {xs:List Value},W.ownsRow B e sz v n xs->W'.ownsRow B e sz v n xs:=fun ho=>hS.Jv ho (fun g hg=>by
  obtain⟨-,cs,h2⟩:=Xn ho hg
  exact nb h2)
 exact { h with wh:={ h.wh with v:=h.wh.v.spared hS (nb h.wh.v.va.v) hmt hml (fun b hb=>(hr b (by simpa using hb)).1.1),j:=hS.box h.wh.j (nb h.wh.j),d:=⟨fd,fn,hD,e1,e2⟩ },sep:=⟨fd,fn,hD,⟨e1,e2⟩,hs⟩,due:=hrow h.due,rbx:=hS.box h.rbx (nb h.rbx),row:=hrow h.row,bw:=Nat.le_trans h.bw hS.size }
end
def Yv (s:VSt) (tm:Int) (t:Xe):List Xc:=if t.pd&&decide (t.at_<=tm) && !(s.tks.any (fun x=>x.ak==1&&(x.au:Int)==(t.n:Int))||s.lks.any (fun x=>x.ak==1&&(x.au:Int)==(t.n:Int))) then [⟨t.at_,1,t.n⟩] else []
def Zi (tm:Int) (t:Xd):List Xc:=if t.at_<=tm then [⟨t.at_,2,t.n⟩] else []
def Tryz.QAt (B:Nat) (w:World) (k:Blk) (vx:VX) (tm:Int) (s:VSt) (c:List UInt8) (l f:Int) (rb:Nat) (fl:Int) (v:Value) (xs:List Value) (zs:List Xc) (V:World):Prop:=
 ∃ vx' q,q.Perm zs/\TAt B V k vx' tm s c l f rb fl v xs q/\vx'.tk=vx.tk/\vx'.jn=vx.jn/\(∀ d,vx'.due.ownBlock=some d->vx.due.ownBlock=some d\/w.heap.size<=d)/\Spares (k.vb :: vx.due.ownBlock.toList) w V
section
variable {B:Nat} {w V V':World} {k:Blk} {vx:VX} {tm:Int} {s:VSt} {c:List UInt8} {l f:Int} {rb:Nat} {fl:Int} {v:Value} {xs:List Value} {zs:List Xc}
theorem Tryz.QAt.own (h:QAt B w k vx tm s c l f rb fl v xs zs V) (hw:k.mt<w.heap.size/\k.ml<w.heap.size/\k.md<w.heap.size/\k.mn<w.heap.size/\6<=w.heap.size) {row:Option Nat} (hg:V.grownBy V' row) (hr:∀ r,row=some r->w.heap.size<=r/\∃ o:Obj,V.heap[r]? = some o/\o.isCells=false):QAt B w k vx tm s c l f rb fl v xs zs V':=by
 obtain⟨vx',q,h1,h2,h3,h4,h5,h6⟩:=h;refine⟨vx',q,h1,h2.own hg (fun r e=>⟨?_,(hr r e).2⟩),h3,h4,h5,⟨hg.os.trans h6.os,hg.tape.trans h6.tape,hg.output.trans h6.output,Nat.le_trans h6.size hg.size,fun j hj hn=>(hg.block j (Nat.lt_of_lt_of_le hj h6.size) (fun e=>by have:=(hr j e.symm).1;omega)).trans (h6.block j hj hn)⟩⟩;have:=(hr r e).1
 refine⟨?_,?_,?_,?_,?_⟩ <;> omega
theorem Tryz.QAt.below (h:QAt B w k vx tm s c l f rb fl v xs zs V) (hb:Below V.heap.size V V'):QAt B w k vx tm s c l f rb fl v xs zs V':=by
 obtain⟨vx',q,h1,h2,h3,h4,h5,h6⟩:=h;exact⟨vx',q,h1,h2.below hb,h3,h4,h5,h6.trans (Spares.of_below hb)⟩
theorem Tryz.TAt.Xmq {vx':VX} {q:List Xc} (h:TAt B V k vx' tm s c l f rb fl v xs q) (hp:q.Perm zs) (htk:vx'.tk=vx.tk) (hjn:vx'.jn=vx.jn) (hd:∀ d,vx'.due.ownBlock=some d->vx.due.ownBlock=some d\/w.heap.size<=d) (hS:Spares (k.vb :: vx.due.ownBlock.toList) w V) {g cap:Nat} {ys:List Xc} {t:Xc} (hq:QV B k.vb (Yp vx' tm k.mt k.ml s.tn s.ln) g cap ys V') (hH:Vh ys) (hpm:ys.Perm (q ++ [t])) (hg:vx'.due.ownBlock=some g\/V.heap.size<=g) (hs:Spares (k.vb :: vx'.due.ownBlock.toList) V V'):QAt B w k vx tm s c l f rb fl v xs (zs ++ [t]) V':=by
 have hz:=hS.size;refine⟨{ vx' with due:=.slice (some ⟨g,0,none⟩) ys.length cap },ys,hpm.trans (List.Perm.append_right _ hp),h.Xai hq.v rfl rfl h.wh.v.t0 h.wh.v.t1 hq.row hH hs,htk,hjn,fun d hd'=>?_,?_⟩
 ·have e:g=d:=by simpa [Value.ownBlock] using hd'
  subst e
  rcases hg with hg | hg
  ·exact hd g hg
  exact .inr (by omega)
 refine⟨hs.os.trans hS.os,hs.tape.trans hS.tape,hs.output.trans hS.output,Nat.le_trans hS.size hs.size,fun j hj hn=>(hs.block j (Nat.lt_of_lt_of_le hj hS.size) (fun hm=>?_)).trans (hS.block j hj hn)⟩
 rcases List.mem_cons.1 hm with e | hm
 ·exact hn (by rw [e];simp)
 rcases hd j (by simpa using hm) with h | h
 ·exact hn (List.mem_cons_of_mem _ (by simpa using h))
 omega
theorem Tryz.QAt.tok (h:QAt B w k vx tm s c l f rb fl v xs zs V) (hz:zs.length<=100) (t:Xe) (ht:t∈s.tks) :
  Calls prog 130 #[.pointer (some ⟨k.vb,0,none⟩),nmV (1,(t.n:Int))] V fun e V'=>e=.returned (.tuple #[])/\QAt B w k vx tm s c l f rb fl v xs (zs++Yv s tm t) V'/\∃ bs,Spares bs V V'/\∀ b∈bs,∃ t cs,BoxN V b t cs/\(t=126\/t=144):=by
 obtain⟨vx',q,h1,h2,h3,h4,h5,h6⟩:=h
 have hlk:=fun W' (hb:Below V.heap.size V W')=>(h2.wh.v.va.below hb).Xmn ht
 unfold Xe.cells at hlk
 obtain⟨go,hgo⟩:∃ go,go=(t.pd&&decide (t.at_<=tm) && !(s.tks.any (fun x=>x.ak==1&&(x.au:Int)==(t.n:Int))||s.lks.any (fun x=>x.ak==1&&(x.au:Int)==(t.n:Int)))):=⟨_,rfl⟩
 refine(Mf B k.vb k.mt k.ml vx' tm s.tn s.ln s.tks s.lks V h2.wh.v.va (1,(t.n:Int)) t.ak t.au t.at_ t.tr t.pd hlk q h2.due h2.hp h2.bw (by rw [h1.length_eq];exact hz) go hgo).mono ?_;rintro e V' ⟨rfl,hno,hyes⟩;refine⟨rfl,?_⟩
 have hdu:Yv s tm t=if go then [⟨t.at_,1,t.n⟩] else []:=by rw [hgo];rfl
 rw [hdu]
 cases go with
 | false =>
  have hb:=hno rfl;exact⟨by simpa using⟨vx',q,h1,h2.below hb,h3,h4,h5,h6.trans (Spares.of_below hb)⟩,[],Spares.of_below hb,by simp⟩
 | true =>
  obtain⟨g,cap,ys,hq,hH,hpm,hg,hs⟩:=hyes rfl;refine⟨h2.Xmq h1 h3 h4 h5 h6 hq hH hpm hg hs,_,hs,fun b hb=>?_⟩
  rcases List.mem_cons.1 hb with rfl | hb
  ·exact⟨_,_,h2.wh.v.va.v,.inl rfl⟩
  obtain⟨-,cs,hB⟩:=Xn h2.due (g:=b) (by simpa using hb);exact⟨_,_,hB,.inr rfl⟩
end
end Go.Proofs
