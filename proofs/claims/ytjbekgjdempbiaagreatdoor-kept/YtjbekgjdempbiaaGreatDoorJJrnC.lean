import Derived.Test.YtjbekgjdempbiaaGreatDoorJSq
import Derived.Test.YtjbekgjdempbiaaGreatDoorJRecC
import Derived.Test.YtjbekgjdempbiaaGreatDoorJMapN
import Derived.Carry
import Derived.Deep.RegionHeldLaw
import Derived.Deep.RegionLaw
import Derived.Deep.AppendLies
import Derived.Deep.RegionHeld3
import Derived.RangeFuncBox
import Derived.Laws.IdiomStrings
set_option maxRecDepth 100000
set_option maxHeartbeats 8000000
namespace Go.Proofs
open Go.RowKit Go.Sort Go.Maps Go.WideMaps
def Jw:List UInt8:=[106,111,117,114,110,97,108]
def Xbz (b:Nat):Value:=.pointer (some ⟨b,0,none⟩)
def Zp:Option Nat->DataW Value
 | none=>.map []
 | some b=>.map [(.string Jw,.held (Xbz b))]
theorem Xoe (o:Option Nat) (b:Nat):(Zp o).put (.string Jw) (.held (Xbz b))=Zp (some b):=by
 cases o <;> rfl
theorem Xai (o:Option Nat):Maps.has (Zp o) (.string Jw)=o.isSome:=by
 cases o <;> rfl
theorem Xew (o:Option Nat) (z:DataW Value):(Zp o).atKey (.string Jw) z=(match o with | some b=>.held (Xbz b) | none=>z):=by
 cases o <;> rfl
theorem Tryz.Xv1:keyOf prog 9 (.string ⟨#[106,111,117,114,110,97,108]⟩)=some (.string Jw):=by kernel_rfl
theorem Tryz.Xra (w:World):(zeroValue 101).run prog w=.ok (.pointer none) w:=zeroValue101 w
theorem Tryz.Xk3:Keyed prog 9:=string_keyed underlying9
section
variable {W:World} {m n:Nat}
theorem Tryz.Xru {b:Nat} (h:W.ownsMap prog 9 Yd m n (Zp (some b))) :
  (Instr.lookup 97 (.map (some m)) (.string ⟨#[106,111,117,114,110,97,108]⟩) true).run prog W=.ok (.tuple #[Xbz b,.bool true]) W:=by
 obtain⟨v,ps,hrun,hv⟩:=h.look_ok Xk3 underlying97 (Xra W) (zd:=.held (.pointer none)) (zp:=[]) rfl Xv1;rw [Xew] at hv;rw [hrun,Xai,Jz hv];rfl
theorem Tryz.Xep (h:W.ownsMap prog 9 Yd m n (Zp none)) :
  (Instr.lookup 97 (.map (some m)) (.string ⟨#[106,111,117,114,110,97,108]⟩) true).run prog W=.ok (.tuple #[.pointer none,.bool false]) W:=by
 obtain⟨v,ps,hrun,hv⟩:=h.look_ok Xk3 underlying97 (Xra W) (zd:=.held (.pointer none)) (zp:=[]) rfl Xv1;rw [Xew] at hv;rw [hrun,Xai,Jz hv];rfl
theorem Tryz.Xml {o:Option Nat} (h:W.ownsMap prog 9 Yd m n (Zp o)) (hn:n<=1000) (b:Nat) :
  ∃ w',(Instr.mapUpdate 97 (.map (some m)) (.string ⟨#[106,111,117,114,110,97,108]⟩) (Xbz b)).run prog W=.ok () w'/\w'.ownsMap prog 9 Yd m 1 (Zp (some b))/\W.grownBy w' (some m):=by
 obtain⟨w',hrun,hM,hT⟩:=h.store Xk3 underlying97 (by unfold maxLen;omega) Xv1 (val:=Xbz b) (d:=.held (Xbz b)) (ps:=[]) rfl;rw [Xoe] at hM;refine⟨w',hrun,?_,hT.grown⟩;obtain⟨es,clock,hb,F,hs,hD⟩:=hM;refine⟨es,clock,hb,F,?_,hD⟩
 have:Maps.size (Zp (some b))=es.size:=by rw [hD];simp [Maps.size,length_sorted]
 rw [<- this];exact Nat.le_refl 1
end
theorem Tryz.Xt5 (db:Nat) (m1 m2 p:Value) (l f:Int) (w:World) (hD:BoxN w db 100 #[m1,m2,p,.int .i64 l,.int .i64 f,.bool false]) (hl:l<0) (hl1 : -1000000000<=l) (hf:f<0) (hf1 : -1000000000<=f) :
  Calls prog 314 #[.pointer (some ⟨db,0,none⟩)] w fun e w'=>e=.returned .nilIface/\w'=((w.setCell ⟨db,3,none⟩ (.int .i64 (l-1))).setCell ⟨db,4,none⟩ (.int .i64 (f-1))):=by
 have d3:=hD.cell 3 (v:=.int .i64 l) rfl;have d4:=hD.cell 4 (v:=.int .i64 f) rfl;have d5:=hD.cell 5 (v:=.bool false) rfl;have f3:=hD.frozen 3;have f4:=hD.frozen 4
 have e1:(l==0)=false:=by rw [beq_eq_false_iff_ne];omega
 have e2:(f==0)=false:=by rw [beq_eq_false_iff_ne];omega
 go_enter func314,ntmps314;go_wp2;go_ret;exact⟨rfl,rfl⟩
def U7 (o:Option (Nat × List UInt8)):List UInt8:=(o.map (·.2)).getD []
def Fl (o:Option (Nat × List UInt8)) (c:List UInt8):Prop:=U7 o=c/\(c = []->o=none)
theorem Fl.none:Fl none []:=⟨rfl,fun _=>rfl⟩
theorem Fl.some {b:Nat} {c:List UInt8} (h:c ≠ []):Fl (some (b,c)) c:=⟨rfl,fun e=>absurd e h⟩
theorem Xoq (a b:List UInt8):(⟨a.toArray⟩:ByteArray) ++ ⟨b.toArray⟩=⟨(a++b).toArray⟩:=by
 apply ByteArray.ext;simp
theorem Tryz.dDo (m n:Nat) (o:Option (Nat × List UInt8)) (data:List UInt8) (w:World) (hM:w.ownsMap prog 9 Yd m n (Zp (o.map (·.1)))) (hn:n<=1000) (hs:∀ p,o=some p->BoxN w p.1 9 #[.string ⟨p.2.toArray⟩]) (hl:(U7 o).length+data.length<=1000000000000) :
  Calls prog 98 #[.map (some m),.agg #[.int .i64 2,.string ⟨#[106,111,117,114,110,97,108]⟩,.string ⟨data.toArray⟩]] w fun e w'=>e=.returned (.tuple #[])/\∃ b,w.heap.size<=b/\w'.ownsMap prog 9 Yd m 1 (Zp (some b))/\BoxN w' b 9 #[.string ⟨(U7 o++data).toArray⟩]/\Spares [m] w w':=by
 cases o with
 | none =>
  have hM1:=(hM.alloc (.cells #[.int .i64 2,.string ⟨#[106,111,117,114,110,97,108]⟩,.string ⟨data.toArray⟩] 172)).alloc (.cells #[.string ⟨data.toArray⟩] 9);have hL:=Xep hM1;obtain⟨w2,hrun,hM2,hg2⟩:=Xml hM1 hn (w.heap.size+1);have b1:=BoxN.new (w.alloc (.cells #[.int .i64 2,.string ⟨#[106,111,117,114,110,97,108]⟩,.string ⟨data.toArray⟩] 172)) 9 #[.string ⟨data.toArray⟩];rw [World.size_alloc] at b1;have b2:=b1.kept hg2 (by intro e;injection e with e;have:=hM.lt;omega);have hsp:Spares [m] w w2:=(Spares.of_below (M5 w _ _)).trans (Spares.X6 hg2 (by simp));unfold Xbz at hrun;go_enter func98,ntmps98;go_wp2
  go_end0
  exact⟨rfl,w.heap.size+1,by omega,hM2,b2,hsp⟩
 | some p =>
  obtain⟨pb,old⟩:=p;have hS:=hs _ rfl;have c0:=hS.cell 0 (v:=.string ⟨old.toArray⟩) rfl;have lt:pb<w.heap.size:=hS.lt;have hlen:old.length+data.length<=1000000000000:=hl
  have hfit:(((⟨old.toArray⟩:ByteArray).size+(⟨data.toArray⟩:ByteArray).size:Nat):Int)<=9223372036854775807:=by simp [ByteArray.size];omega
  have hM1:=(hM.alloc (.cells #[.int .i64 2,.string ⟨#[106,111,117,114,110,97,108]⟩,.string ⟨data.toArray⟩] 172)).alloc (.cells #[.string ⟨data.toArray⟩] 9);have hL:=Xru hM1;unfold Xbz at hL;go_enter func98,ntmps98;go_wp2
  go_region
  have hM3:=(hM.alloc (.cells #[.int .i64 2,.string ⟨#[106,111,117,114,110,97,108]⟩,.string ⟨data.toArray⟩] 172)).alloc (.cells #[.string ((⟨old.toArray⟩:ByteArray)++(⟨data.toArray⟩:ByteArray))] 9);obtain⟨w2,hrun,hM2,hg2⟩:=Xml (W:=((w.alloc (.cells #[.int .i64 2,.string ⟨#[106,111,117,114,110,97,108]⟩,.string ⟨data.toArray⟩] 172)).alloc (.cells #[.string ((⟨old.toArray⟩:ByteArray)++(⟨data.toArray⟩:ByteArray))] 9)).drew) hM3 hn (w.heap.size+1);have b1:=BoxN.new (w.alloc (.cells #[.int .i64 2,.string ⟨#[106,111,117,114,110,97,108]⟩,.string ⟨data.toArray⟩] 172)) 9 #[.string ((⟨old.toArray⟩:ByteArray)++(⟨data.toArray⟩:ByteArray))];rw [World.size_alloc] at b1;have b2:=BoxN.kept (W:=((w.alloc (.cells #[.int .i64 2,.string ⟨#[106,111,117,114,110,97,108]⟩,.string ⟨data.toArray⟩] 172)).alloc (.cells #[.string ((⟨old.toArray⟩:ByteArray)++(⟨data.toArray⟩:ByteArray))] 9)).drew) b1 hg2 (by intro e;injection e with e;have:=hM.lt;omega);have hsp:Spares [m] w w2:=((Spares.of_below (M5 w _ _)).drew).trans (Spares.X6 hg2 (by simp));unfold Xbz at hrun;rw [Xoq] at b2;have B2:=Xb b2;clear hL hM1 hM3 b1 b2 hfit;go_wp2
  go_end0
  exact⟨rfl,w.heap.size+1,by omega,hM2,Xa B2,hsp⟩
theorem BoxN.Xw {H:Type} {P:Program} {k:TypeId} {R:Value->Option (DataW H × List MemPlace)} {D:DataW H} {W:World} {B b n:Nat} {t:TypeId} {cs:Array Value} (h:BoxN W B t cs) (hm:W.ownsMap P k R b n D):b≠B:=by
 rintro rfl;obtain⟨es,clock,hb,_⟩:=hm;have e:=hb.symm.trans h;cases e
structure Tryz.Xj (W:World) (db md mn:Nat) (fd fn:Option (Nat × List UInt8)) (p:Value) (l f:Int):Prop where
 box:BoxN W db 100 #[.map (some md),.map (some mn),p,.int .i64 l,.int .i64 f,.bool false]
 dm:∃ n,n<=1000/\W.ownsMap Tryz.prog 9 Yd md n (Zp (fd.map (·.1)))
 nm:∃ n,n<=1000/\W.ownsMap Tryz.prog 9 Yd mn n (Zp (fn.map (·.1)))
 sd:∀ q,fd=some q->BoxN W q.1 9 #[.string ⟨q.2.toArray⟩]
 sn:∀ q,fn=some q->BoxN W q.1 9 #[.string ⟨q.2.toArray⟩]
 ne:md≠mn
section
variable {W W':World} {db md mn:Nat} {fd fn:Option (Nat × List UInt8)} {p:Value} {l f:Int}
theorem Tryz.Xj.lt (h:Xj W db md mn fd fn p l f):db<W.heap.size/\md<W.heap.size/\mn<W.heap.size:=by
 obtain⟨n,_,hm⟩:=h.dm;obtain⟨n',_,hm'⟩:=h.nm;exact⟨h.box.lt,hm.lt,hm'.lt⟩
theorem Tryz.Xj.nes (h:Xj W db md mn fd fn p l f):md≠db/\mn≠db:=by
 obtain⟨n,_,hm⟩:=h.dm;obtain⟨n',_,hm'⟩:=h.nm;exact⟨h.box.Xw hm,h.box.Xw hm'⟩
theorem Tryz.Xj.spared (h:Xj W db md mn fd fn p l f) {bs:List Nat} (hS:Spares bs W W') (h1:db∉bs) (h2:md∉bs) (h3:mn∉bs) (h4:∀ q,fd=some q->q.1∉bs) (h5:∀ q,fn=some q->q.1∉bs):Xj W' db md mn fd fn p l f:=by
 obtain⟨n,hn,hm⟩:=h.dm;obtain⟨n',hn',hm'⟩:=h.nm;exact⟨hS.box h.box h1,⟨n,hn,hS.map hm h2⟩,⟨n',hn',hS.map hm' h3⟩,fun q hq=>hS.box (h.sd q hq) (h4 q hq),fun q hq=>hS.box (h.sn q hq) (h5 q hq),h.ne⟩
theorem Tryz.Xj.below (h:Xj W db md mn fd fn p l f) (hb:Below W.heap.size W W'):Xj W' db md mn fd fn p l f:=
 h.spared (bs:=[]) (Spares.of_below hb) (by simp) (by simp) (by simp) (by simp) (by simp)
theorem Tryz.Xj.cells (h:Xj W db md mn fd fn p l f) {p':Value} {l' f':Int} (hS:Spares [db] W W') (hb:BoxN W' db 100 #[.map (some md),.map (some mn),p',.int .i64 l',.int .i64 f',.bool false]):Xj W' db md mn fd fn p' l' f':=by
 obtain⟨n,hn,hm⟩:=h.dm;obtain⟨n',hn',hm'⟩:=h.nm
 have s:∀ {q:Nat} {s:List UInt8},BoxN W q 9 #[.string ⟨s.toArray⟩]->BoxN W' q 9 #[.string ⟨s.toArray⟩]:=fun hq=>hS.box hq (by simpa using hq.ne h.box (by decide))
 exact⟨hb,⟨n,hn,hS.map hm (by simpa using h.nes.1)⟩,⟨n',hn',hS.map hm' (by simpa using h.nes.2)⟩,fun q hq=>s (h.sd q hq),fun q hq=>s (h.sn q hq),h.ne⟩
end
theorem Xgd {w w':World} (h:Xp w w'):Below w.heap.size w w':=by
 obtain⟨q,os,rfl⟩:=h;refine⟨rfl,rfl,rfl,by simp [grow,World.drewN],fun k hk=>?_⟩
 show (w.heap++os)[k]? = w.heap[k]?
 rw [Array.getElem?_append_left hk]
theorem Xpm (w:World) (b i:Nat) (v:Value):w.grownBy (w.setCell ⟨b,i,none⟩ v) (some b):=⟨rfl,rfl,rfl,by simp,fun j _ hne=>Yt _ _ _ _ _ (fun e=>hne (by rw [e]))⟩
theorem Tryz.Xv4:(prog.info? 172).map (fun i=>(i.zero,i.size,i.bytes))=some (some (.agg #[.int .i64 0,.string ⟨#[]⟩,.string ⟨#[]⟩]),3,40):=by kernel_rfl
theorem Tryz.Xj6 (db:Nat) (m1 m2 p:Value) (l f:Int) (w:World) (hD:BoxN w db 100 #[m1,m2,p,.int .i64 l,.int .i64 f,.bool false]) (hl:l<0) (hl1 : -1000000000<=l) (hf:f<0) (hf1 : -1000000000<=f) :
  Calls prog 314 #[.pointer (some ⟨db,0,none⟩)] w fun e w'=>e=.returned .nilIface/\BoxN w' db 100 #[m1,m2,p,.int .i64 (l-1),.int .i64 (f-1),.bool false]/\Spares [db] w w':=
 (Xt5 db m1 m2 p l f w hD hl hl1 hf hf1).mono (by
  rintro e w' ⟨rfl,rfl⟩
  exact⟨rfl,(hD.set 3 _).set 4 _,((Spares.of_below (Below.refl _ _)).set (by simp) _ _).set (by simp) _ _⟩)
theorem Tryz.dTell (db md mn:Nat) (fd fn:Option (Nat × List UInt8)) (l f:Int) (data:List UInt8) (w:World) (hD:Xj w db md mn fd fn (.slice none 0 0) l f) (hl:l<0) (hl1 : -1000000000<=l) (hf:f<0) (hf1 : -1000000000<=f) (hlen:(U7 fn).length+data.length<=1000000000000) :
  Calls prog 313 #[.pointer (some ⟨db,0,none⟩),.agg #[.int .i64 2,.string ⟨#[106,111,117,114,110,97,108]⟩,.string ⟨data.toArray⟩]] w fun e w'=>e=.returned .nilIface/\∃ b g cap,w.heap.size<=b/\w.heap.size<=g/\Xj w' db md mn fd (some (b,U7 fn++data)) (.slice (some ⟨g,0,none⟩) 1 cap) (l-1) (f-1) /\
   w'.ownsRow w.heap.size 172 3 (.slice (some ⟨g,0,none⟩) 1 cap) 1 [.int .i64 2,.string ⟨#[106,111,117,114,110,97,108]⟩,.string ⟨data.toArray⟩]/\Spares [db,mn] w w':=by
 obtain⟨i0,hi,hz0,hz1,hz2⟩:=info_parts Xv4;have lD:=hD.lt;have hD0:=hD.below ((Below.refl _ w).alloc (Nat.le_refl _) (.cells #[.int .i64 2,.string ⟨#[106,111,117,114,110,97,108]⟩,.string ⟨data.toArray⟩] 172));have hW:=Xj6 db _ _ _ l f _ hD0.box hl hl1 hf hf1;have bO0:=BoxN.new w 172 #[.int .i64 2,.string ⟨#[106,111,117,114,110,97,108]⟩,.string ⟨data.toArray⟩];go_enter func313,ntmps313
 go_wp2_with (go_at_call 314;refine hW.mono ?_;rintro e W1 ⟨rfl,bD1,hS1⟩)
 have hD1:=hD0.cells hS1 bD1;have bO:=hS1.box bO0 (by simp;omega);have hs1:Spares [db,mn] w W1:=((Spares.of_below (Below.refl _ w)).alloc _).trans (hS1.mono (by simp))
 have hz1s:w.heap.size+1<=W1.heap.size:=by have:=hS1.size;simpa using this
 clear hW hD0 bD1 hS1 bO0;have d1:=hD1.box.cell 1 (v:=.map (some mn)) rfl;have o0:=bO.cell 0 (v:=.int .i64 2) rfl;have o1:=bO.cell 1 (v:=.string ⟨#[106,111,117,114,110,97,108]⟩) rfl;have o2:=bO.cell 2 (v:=.string ⟨data.toArray⟩) rfl;obtain⟨nn,hnn,hM⟩:=hD1.nm;have hDo:=dDo mn nn fn data W1.drew.drew hM hnn hD1.sn hlen
 have key:∀(v:Value) (bl:Bool),(Instr.lookup 97 (.map (some mn)) (.string ⟨#[106,111,117,114,110,97,108]⟩) true).run prog W1=.ok (.tuple #[v,.bool bl]) W1->True:=fun _ _ _=>trivial
 obtain⟨pv,bl,hL⟩:∃(pv:Value) (bl:Bool),(Instr.lookup 97 (.map (some mn)) (.string ⟨#[106,111,117,114,110,97,108]⟩) true).run prog W1.drew=.ok (.tuple #[pv,.bool bl]) W1.drew:=by
  cases fn with
  | none=>exact⟨_,_,Xep (W:=W1.drew) hM⟩
  | some q=>exact⟨_,_,Xru (W:=W1.drew) hM⟩
 clear key;have Hlen:=Xb hlen;have Hz:=Xb hz1s;clear hlen hz1s;cases bl
 all_goals
  go_region
  go_wp2
  go_region_with (go_at_call 98;refine hDo.mono ?_;rintro e W2 ⟨rfl,b,hb,hM2,bS2,hS2⟩)
  all_goals
   have hz:=Xa Hz
   have hb':w.heap.size<=b:=by have:W1.drew.drew.heap.size=W1.heap.size:=rfl;omega
   have bD2:=hS2.box (W:=W1.drew.drew) hD1.box (by simpa using Ne.symm hD1.nes.2);have bO2:=hS2.box (W:=W1.drew.drew) bO (by have:=hM.lt;have:=lD.2.2;simp;omega);obtain⟨n1,hn1,hMd⟩:=hD1.dm;have hMd2:=hS2.map (W:=W1.drew.drew) hMd (by simpa using hD1.ne)
   have hsd2:∀ q,fd=some q->BoxN W2 q.1 9 #[.string ⟨q.2.toArray⟩]:=fun q hq=>hS2.box (W:=W1.drew.drew) (hD1.sd q hq) (by have:=BoxN.Xw (hD1.sd q hq) hM;simpa using Ne.symm this)
   have hs2:Spares [db,mn] w W2:=hs1.drew.drew.trans (hS2.mono (bs':=[db,mn]) (by simp));have hz2s:=hS2.size
   have hz2s:w.heap.size+1<=W2.heap.size:=by have:W1.drew.drew.heap.size=W1.heap.size:=rfl;omega
   have HD:=Xb (show Xj W2 db md mn fd (some (b,U7 fn++data)) (.slice none 0 0) (l-1) (f-1) from ⟨bD2,⟨n1,hn1,hMd2⟩,⟨1,by omega,hM2⟩,hsd2,fun q hq=>by cases hq;exact bS2,hD1.ne⟩);have v0:=bD2.cell 2 (v:=.slice none 0 0) rfl;have fv0:=bD2.frozen 2;have lv:=bD2.lt;have y0:=bO2.cell 0 (v:=.int .i64 2) rfl;have y1:=bO2.cell 1 (v:=.string ⟨#[106,111,117,114,110,97,108]⟩) rfl;have y2:=bO2.cell 2 (v:=.string ⟨data.toArray⟩) rfl;clear hDo hL d1 o0 o1 o2 hM hS2 hM2 bS2 hMd hMd2 hsd2;go_wp2
   go_region_law ((refine step_append_lies _ (by rfl) _ _ _ (by rfl) w.heap.size 172 i0 _ 3 40 underlying98 hi hz0 hz1 hz2 rfl (by decide) _ _ _ (by rfl) (World.ownsRow_nil _ _ _ _) ⟨W2.heap.size,0,none⟩ 1 1 [.int .i64 2,.string ⟨#[106,111,117,114,110,97,108]⟩,.string ⟨data.toArray⟩] (by rfl) rfl (World.news_of_block (heap_alloc_new _ _)) (by simp [Value.oneCell']) (by omega) (by unfold maxLen;omega) (by omega) (by simp;omega) _ rfl ?_;intro g' cap' w3 hown' hgrow hat hlt;have bV3:=(bD2.below (n₀:=W2.heap.size) (by first | exact Xgd ((Xp.refl W2).alloc _) | exact Xgd (((Xp.refl W2).drew).alloc _)) bD2.lt).kept hgrow (by simp [Value.ownBlock]);have d0:=bV3.cell 2 (v:=.slice none 0 0) rfl;have d1:=bV3.frozen 2))
 all_goals
  have hD2:=Xa HD
  have hg2:W2.heap.size<=g':=by
   rcases hat with e | e
   ·simp [Value.ownBlock] at e
   have:g'=W2.heap.size+1:=by simpa using e
   omega
  have hS3:Spares [db,mn] w w3:=((hs2.alloc _).drew).trans ⟨hgrow.os,hgrow.tape,hgrow.output,hgrow.size,fun k hk _=>hgrow.block k hk (by simp [Value.ownBlock])⟩;have hB3:Below W2.heap.size W2 w3:=((Below.refl _ W2).alloc (Nat.le_refl _) _).drew.grown hgrow (by simp) (by simp [Value.ownBlock]);have hD3:=hD2.below hB3;have bN:=bV3.set 2 (.slice (some ⟨g',0,none⟩) 1 cap');have hD4:=hD3.cells ((Spares.of_below (Below.refl _ w3)).set (bs:=[db]) (by simp) 2 (.slice (some ⟨g',0,none⟩) 1 cap')) bN;have hR4:=hown'.kept (Xpm w3 db 2 (.slice (some ⟨g',0,none⟩) 1 cap')) (.inr (by simp [Value.ownBlock];omega));have hS4:=hS3.set (b:=db) (by simp) 2 (.slice (some ⟨g',0,none⟩) 1 cap');have HH:=Xb (And.intro hD4 (And.intro hR4 hS4));clear hD4 hR4 hS4 bN hD3 hB3 hS3 hown' hgrow hat hlt bV3 d0 d1 v0 fv0 y0 y1 y2;generalize (w3.setCell ⟨db,2,none⟩ (.slice (some ⟨g',0,none⟩) 1 cap'))=W4 at *;go_wp2;go_ret;exact⟨rfl,b,g',cap',hb',by omega,(Xa HH).1,(Xa HH).2.1,(Xa HH).2.2⟩
def BytesAt (W:World) (k:Nat) (data:List UInt8):Prop:=∀ j (hj:j<data.length),W.cell? ⟨k,j,none⟩=some (.int .u8 (data[j].toNat:Int))/\W.frozen? ⟨k,j,none⟩=false
theorem cell_of_block {W W':World} {k:Nat} (h:W'.heap[k]? = W.heap[k]?) (j:Nat):W'.cell? ⟨k,j,none⟩=W.cell? ⟨k,j,none⟩/\W'.frozen? ⟨k,j,none⟩=W.frozen? ⟨k,j,none⟩:=by
 simp [World.cell?,World.frozen?,h]
theorem Tryz.dPut (db md mn k cap:Nat) (fd fn:Option (Nat × List UInt8)) (l f:Int) (data:List UInt8) (w:World) (hD:Xj w db md mn fd fn (.slice none 0 0) l f) (hl:l<0) (hl1 : -1000000000<=l) (hf:f<0) (hf1 : -1000000000<=f) (hlen:(U7 fn).length+data.length<=1000000000000)
  (hK:BytesAt w k data) (hk:k<w.heap.size) (n1:db≠k) (n2:md≠k) (n3:mn≠k) (n4:∀ q,fd=some q->q.1≠k) :
  Calls prog 311 #[.pointer (some ⟨db,0,none⟩),.int .i64 2,.string ⟨#[106,111,117,114,110,97,108]⟩,.slice (some ⟨k,0,none⟩) data.length cap] w fun e w'=>e=.returned .nilIface/\∃ b g cap,w.heap.size<=b/\w.heap.size<=g/\Xj w' db md mn fd (some (b,U7 fn++data)) (.slice (some ⟨g,0,none⟩) 1 cap) (l-1) (f-1) /\
   w'.ownsRow w.heap.size 172 3 (.slice (some ⟨g,0,none⟩) 1 cap) 1 [.int .i64 2,.string ⟨#[106,111,117,114,110,97,108]⟩,.string ⟨data.toArray⟩]/\Spares [db,mn,k] w w':=by
 have hT:=dTell db md mn fd fn l f data w hD hl hl1 hf hf1 hlen
 have hcv:(convert 267 9 (.slice (some ⟨k,0,none⟩) data.length cap)).run prog w=.ok (.string ⟨data.toArray⟩) w:=
  run_convert_bytes_back w 267 9 5 ⟨k,0,none⟩ cap data underlying267 underlying5 underlying9 (fun j hj=>by
   have:=(hK j hj).1
   by_cases h0:j=0
   ·subst h0;simpa [Addr.add] using this
   simpa [Addr.add,h0] using this)
 have hdl:data.length<=1000000000000:=by omega
 obtain⟨n,hn⟩:∃ n,data.length=n:=⟨_,rfl⟩
 rw [hn] at hcv hdl ⊢;have Hn:=Xb hn;have Hlen:=Xb hlen;clear hn hlen;go_enter func311,ntmps311
 go_wp2_with (go_at_call 313;refine hT.mono ?_;rintro e w1 ⟨rfl,b,g,cap1,hb,hg,hD1,hR1,hS1⟩)
 have hK1:∀ j,j<n->∃ v,w1.cell? ⟨k,j,none⟩=some v/\w1.frozen? ⟨k,j,none⟩=false:=fun j hj=>by
  obtain⟨e1,e2⟩:=cell_of_block (hS1.block k hk (by simp;omega)) j;obtain⟨e3,e4⟩:=hK j (by have:=Xa Hn;omega);exact⟨_,e1.trans e3,e2.trans e4⟩
 clear hT hcv
 go_loopw [20] (fun i wr=>∃ q:Nat,q<=n/\i=.int .i64 q/\Spares [k] w1 wr/\∀ j,j<n->∃ v,wr.cell? ⟨k,j,none⟩=some v/\wr.frozen? ⟨k,j,none⟩=false) (fun i _=>n-(intOf i).toNat)
 case atStart=>exact⟨0,Nat.zero_le _,rfl,Spares.of_below (Below.refl _ _),hK1⟩
 case round =>
  obtain⟨q,hq,rfl,hSq,hKq⟩:=hrel
  by_cases hqn:q<n
  ·obtain⟨v,hv,hvf⟩:=hKq q hqn
   have HK:=Xb hKq;clear hKq;go_wp2
   go_roundw
   case rel =>
    refine⟨q+1,by omega,rfl,hSq.set (by simp) _ _,fun j hj=>?_⟩;obtain⟨u,hu,huf⟩:=Xa HK j hj;obtain⟨y,hy⟩:=cell?_setCell_some (w:=wr) (p:=⟨k,q,none⟩) (x:=.int .u8 33) hu;exact⟨y,hy,by rw [World.frozen?_setCell];exact huf⟩
   case measure=>simp [intOf];omega
  obtain rfl:q=n:=by omega
  have hD2:=hD1.spared hSq (by simpa using n1) (by simpa using n2) (by simpa using n3) (fun z hz=>by simpa using n4 z hz) (fun z hz=>by cases hz;simp;omega);have hR2:=hSq.row hR1 (by simp;omega);have hS2:Spares [db,mn,k] w wr:=(hS1.mono (by simp)).trans (hSq.mono (by simp));clear hKq;go_wp2;go_ret;exact⟨rfl,b,g,cap1,hb,hg,hD2,hR2,hS2⟩
theorem Tryz.Xtb (db md mn k cap:Nat) (fd fn:Option (Nat × List UInt8)) (l f:Int) (data:List UInt8) (w:World) (hD:Xj w db md mn fd fn (.slice none 0 0) l f) (hl:l<0) (hl1 : -1000000000<=l) (hf:f<0) (hf1 : -1000000000<=f) (hlen:(U7 fn).length+data.length<=1000000000000)
  (hK:BytesAt w k data) (hk:k<w.heap.size) (n1:db≠k) (n2:md≠k) (n3:mn≠k) (n4:∀ q,fd=some q->q.1≠k) :
  Calls prog 305 #[.pointer (some ⟨db,0,none⟩),.string ⟨#[106,111,117,114,110,97,108]⟩,.slice (some ⟨k,0,none⟩) data.length cap] w fun e w'=>e=.returned .nilIface/\∃ b g cap,w.heap.size<=b/\w.heap.size<=g/\Xj w' db md mn fd (some (b,U7 fn++data)) (.slice (some ⟨g,0,none⟩) 1 cap) (l-1) (f-1) /\
   w'.ownsRow w.heap.size 172 3 (.slice (some ⟨g,0,none⟩) 1 cap) 1 [.int .i64 2,.string ⟨#[106,111,117,114,110,97,108]⟩,.string ⟨data.toArray⟩]/\Spares [db,mn,k] w w':=by
 have hP:=dPut db md mn k cap fd fn l f data w hD hl hl1 hf hf1 hlen hK hk n1 n2 n3 n4;generalize data.length=n at hP ⊢;go_enter func305,ntmps305
 go_wp2_with (go_at_call 311;refine hP.mono ?_;rintro e w1 ⟨rfl,hR⟩)
 go_ret;exact⟨rfl,hR⟩
theorem Xg7 {B g cap:Nat} {e:TypeId} {W:World} {a b c:Value} (h:W.ownsRow B e 3 (.slice (some ⟨g,0,none⟩) 1 cap) 1 [a,b,c]):W.cell? ⟨g,0,none⟩=some a/\W.cell? ⟨g,1,none⟩=some b/\W.cell? ⟨g,2,none⟩=some c/\g<W.heap.size:=by
 obtain⟨-,⟨e1,-⟩ | ⟨g',cap',cur,e1,e2,e3,e4⟩⟩:=h
 ·cases e1
 cases e1
 have t:∀ j,j<3->cur[j]? = [a,b,c][j]?:=fun j hj=>by
  have h1:=congrArg (fun l:List Value=>l[j]?) e4.2.2.2;simp only [List.getElem?_take,if_pos (show j<1*3 by omega)] at h1;rw [<- h1];simp
 have s:∀ j,W.cell? ⟨g,j,none⟩=cur[j]?:=fun j=>by simp [World.cell?,e3]
 exact⟨(s 0).trans (t 0 (by omega)),(s 1).trans (t 1 (by omega)),(s 2).trans (t 2 (by omega)),(Array.getElem?_eq_some_iff.1 e3).1⟩
theorem Tryz.Xwe (db md mn g cap B:Nat) (fd fn:Option (Nat × List UInt8)) (l f:Int) (data:List UInt8) (w:World) (hD:Xj w db md mn fd fn (.slice (some ⟨g,0,none⟩) 1 cap) l f) (hl:l<0) (hl1 : -1000000000<=l) (hf:f<0) (hf1 : -1000000000<=f) (hlen:(U7 fd).length+data.length<=1000000000000)
  (hR:w.ownsRow B 172 3 (.slice (some ⟨g,0,none⟩) 1 cap) 1 [.int .i64 2,.string ⟨#[106,111,117,114,110,97,108]⟩,.string ⟨data.toArray⟩]) (hg1:db≠g) :
  Calls prog 309 #[.pointer (some ⟨db,0,none⟩)] w fun e w'=>e=.returned .nilIface/\∃ b,w.heap.size<=b/\Xj w' db md mn (some (b,U7 fd++data)) fn (.slice none 0 0) (l-1) (f-1)/\Spares [db,md] w w':=by
 have hW:=Xj6 db _ _ _ l f _ hD.box hl hl1 hf hf1;obtain⟨-,-,-,lg⟩:=Xg7 hR;go_enter func309,ntmps309
 go_wp2_with (go_at_call 314;refine hW.mono ?_;rintro e W1 ⟨rfl,bD1,hS1⟩;have d2:=bD1.cell 2 (v:=.slice (some ⟨g,0,none⟩) 1 cap) rfl)
 have hD1:=hD.cells hS1 bD1;obtain⟨o0,o1,o2,lg1⟩:=Xg7 (hS1.row hR (by simpa using Ne.symm hg1));have d0:=bD1.cell 0 (v:=.map (some md)) rfl;have f2:=bD1.frozen 2;have lD:=hD1.lt;obtain⟨nn,hnn,hM⟩:=hD1.dm;have hsz:=hS1.size;clear hW;have hDo:=dDo md nn fd data (W1.alloc (.cells #[.int .i64 2,.string ⟨#[106,111,117,114,110,97,108]⟩,.string ⟨data.toArray⟩] 172)).drew (hM.alloc _) hnn (fun p hp=>(hD1.sd p hp).alloc _) hlen;have Hsz:=Xb hsz;have Hlen:=Xb hlen;clear hlen hsz;refine wp_loop_rounds 2 ?_;rw [rounds_succ];go_wp2
 go_region_with (go_at_call 98;refine hDo.mono ?_;rintro e W2 ⟨rfl,b,hb,hM2,bS2,hS2⟩)
 all_goals
  have hsz:=Xa Hsz
  have hbb:w.heap.size<=b:=by
   have:(W1.alloc (.cells #[.int .i64 2,.string ⟨#[106,111,117,114,110,97,108]⟩,.string ⟨data.toArray⟩] 172)).drew.heap.size=W1.heap.size+1:=by simp
   omega
  have bD2:=hS2.box (W:=(W1.alloc (.cells #[.int .i64 2,.string ⟨#[106,111,117,114,110,97,108]⟩,.string ⟨data.toArray⟩] 172)).drew) (bD1.alloc _) (by simpa using Ne.symm hD1.nes.1);obtain⟨n1,hn1,hMn⟩:=hD1.nm;have hMn2:=hS2.map (W:=(W1.alloc (.cells #[.int .i64 2,.string ⟨#[106,111,117,114,110,97,108]⟩,.string ⟨data.toArray⟩] 172)).drew) (hMn.alloc _) (by simpa using Ne.symm hD1.ne)
  have hsn2:∀ q,fn=some q->BoxN W2 q.1 9 #[.string ⟨q.2.toArray⟩]:=fun q hq=>hS2.box (W:=(W1.alloc (.cells #[.int .i64 2,.string ⟨#[106,111,117,114,110,97,108]⟩,.string ⟨data.toArray⟩] 172)).drew) ((hD1.sn q hq).alloc _) (by have:=BoxN.Xw (hD1.sn q hq) hM;simpa using Ne.symm this)
  have hs2:Spares [db,md] w W2:=(((hS1.mono (bs':=[db,md]) (by simp)).alloc _).drew).trans (hS2.mono (bs':=[db,md]) (by simp))
  have hD2:Xj W2 db md mn (some (b,U7 fd++data)) fn (.slice (some ⟨g,0,none⟩) 1 cap) (l-1) (f-1):=⟨bD2,⟨1,by omega,hM2⟩,⟨n1,hn1,hMn2⟩,fun q hq=>by cases hq;exact bS2,hsn2,hD1.ne⟩
  have e2:=bD2.cell 2 (v:=.slice (some ⟨g,0,none⟩) 1 cap) rfl;have e3:=bD2.frozen 2;have hD3:=hD2.cells ((Spares.of_below (Below.refl _ W2)).set (bs:=[db]) (by simp) 2 (.slice none 0 0)) (bD2.set 2 _);have hs3:=hs2.set (b:=db) (by simp) 2 (.slice none 0 0);have HH:=Xb (And.intro hbb (And.intro hD3 hs3));clear hsz hbb hD3 hs3 hDo hM hM2 bS2 hS2 hMn hMn2 hsn2 hs2 hD2 bD2 d0 d2 o0 o1 o2 f2;go_wp2
  try rw [rounds_succ]
  go_wp2;go_ret;exact⟨rfl,b,(Xa HH).1,(Xa HH).2.1,(Xa HH).2.2⟩
end Go.Proofs
namespace Go.Proofs
open Go.RowKit Go.Sort Go.Lib Go.Shelf Go.Maps
theorem Tryz.Xlx (db:Nat) (w:World):Sem.run prog (method 517 74 (.pointer (some ⟨db,0,none⟩)) "Append") w=.ok (305,.pointer (some ⟨db,0,none⟩)) w:=by kernel_rfl
theorem Tryz.M1 (db:Nat) (w:World):Sem.run prog (method 517 74 (.pointer (some ⟨db,0,none⟩)) "Sync") w=.ok (309,.pointer (some ⟨db,0,none⟩)) w:=by kernel_rfl
theorem Tryz.Xmy (line:List UInt8):∃(cp:World->Nat) (mk:World->World),∀ W,(convert 9 267 (.string ⟨line.toArray⟩)).run prog W=.ok (.slice (some ⟨W.heap.size,0,none⟩) line.length (cp W)) (mk W)/\Below W.heap.size W (mk W)/\W.heap.size<(mk W).heap.size/\BytesAt (mk W) W.heap.size line:=by
 refine⟨fun W=>grownCap W (⟨line.toArray⟩:ByteArray).size 0 5,fun W=>W.drew.alloc (.cells (bytesRow ⟨line.toArray⟩ (grownCap W (⟨line.toArray⟩:ByteArray).size 0 5)) 5 ((bytesRow ⟨line.toArray⟩ (grownCap W (⟨line.toArray⟩:ByteArray).size 0 5)).size,(bytesRow ⟨line.toArray⟩ (grownCap W (⟨line.toArray⟩:ByteArray).size 0 5)).size+1)),fun W=>⟨?_,?_,?_,?_⟩⟩
 ·have:=run_bytes_of_string (P:=prog) W 9 267 5 ⟨line.toArray⟩ underlying9 underlying267 underlying5
  simpa [ByteArray.size] using this
 ·exact((Below.refl _ W).drew).alloc (Nat.le_refl _) _
 ·simp
 intro j hj
 obtain⟨c,hcc⟩:∃ c,grownCap W (⟨line.toArray⟩:ByteArray).size 0 5=c:=⟨_,rfl⟩
 simp only [hcc];have h:(W.drew.alloc (.cells (bytesRow ⟨line.toArray⟩ c) 5 ((bytesRow ⟨line.toArray⟩ c).size,(bytesRow ⟨line.toArray⟩ c).size+1))).heap[W.heap.size]? = some (.cells (bytesRow ⟨line.toArray⟩ c) 5 ((bytesRow ⟨line.toArray⟩ c).size,(bytesRow ⟨line.toArray⟩ c).size+1)):=World.alloc_heap_new W.drew _
 have hc:(bytesRow ⟨line.toArray⟩ c)[j]? = some (.int .u8 (line[j].toNat:Int)):=by
  have:=bytesRow_at ⟨line.toArray⟩ c j (by simpa using hj)
  simpa using this
 have hsz:j<(bytesRow ⟨line.toArray⟩ c).size:=(Array.getElem?_eq_some_iff.1 hc).1
 show (W.drew.alloc (.cells (bytesRow ⟨line.toArray⟩ c) 5 ((bytesRow ⟨line.toArray⟩ c).size,(bytesRow ⟨line.toArray⟩ c).size+1))).cell? ⟨W.heap.size,j,none⟩=_/\(W.drew.alloc (.cells (bytesRow ⟨line.toArray⟩ c) 5 ((bytesRow ⟨line.toArray⟩ c).size,(bytesRow ⟨line.toArray⟩ c).size+1))).frozen? ⟨W.heap.size,j,none⟩=false
 constructor
 ·unfold World.cell?
  rw [h];exact hc
 unfold World.frozen?;rw [h];simp;omega
abbrev JP (jb:Nat) (d:Value) (W:World):Prop:=W.cell? ⟨jb,0,none⟩=some d/\W.cell? ⟨jb,1,none⟩=some (.int .u64 0)
def Tryz.Yg (db:Nat):Value:=.iface 74 (.pointer (some ⟨db,0,none⟩))
theorem Tryz.Xs3 (jb db md mn:Nat) (er:Value) (fd fn:Option (Nat × List UInt8)) (l f:Int) (line:List UInt8) (w:World) (hJ:BoxN w jb 212 #[Yg db,.int .u64 0,er]) (hD:Xj w db md mn fd fn (.slice none 0 0) l f) (hl:l<0) (hl1 : -999999990<=l) (hf:f<0) (hf1 : -999999990<=f)
  (hld:(U7 fd).length+line.length<=1000000000000) (hln:(U7 fn).length+line.length<=1000000000000) :
  Calls prog 163 #[.pointer (some ⟨jb,0,none⟩),.string ⟨line.toArray⟩] w fun e w'=>e=.returned .nilIface/\∃ b b',w.heap.size<=b/\w.heap.size<=b'/\Xj w' db md mn (some (b,U7 fd++line)) (some (b',U7 fn++line)) (.slice none 0 0) (l-2) (f-2)/\Spares [db,md,mn] w w':=by
 have j0:=hJ.cell 0 (v:=Yg db) rfl;have j1:=hJ.cell 1 (v:=.int .u64 0) rfl;unfold Yg at j0;have lJ:=hJ.lt
 have hm:=fun W=>Xlx db W
 have hm2:=fun W=>M1 db W
 have hF:=fun W=>Xci W
 obtain⟨cp,mk,hcv⟩:=Xmy line
 have hcr:=fun W=>(hcv W).1
 have HCV:=Xb hcv;clear hcv;go_enter func163,ntmps163
 go_wp2_with fail
 have hB0:Below w.heap.size w (mk w.drew):=(Below.refl _ w).drew.trans (Xa HCV w.drew).2.1;have hD0:=hD.below hB0;have lD:=hD.lt;have hAp:=Xtb db md mn w.heap.size (cp w.drew) fd fn l f line (mk w.drew) hD0 hl (by omega) hf (by omega) hln (Xa HCV w.drew).2.2.2 (Xa HCV w.drew).2.2.1 (by omega) (by omega) (by omega) (fun q hq=>by have:=(hD.sd q hq).lt;omega);have hz0:w.heap.size<(mk w.drew).heap.size:=(Xa HCV w.drew).2.2.1
 obtain⟨n,hn⟩:∃ n,line.length=n:=⟨_,rfl⟩
 rw [hn] at hAp hcr;have Hn:=Xb hn;have Hld:=Xb hld;clear hn hld hln
 have hjn:jb ∉ [db,mn,w.heap.size]:=by
  obtain⟨nm,hnm,hMm⟩:=hD.nm;have h1:=hJ.ne hD.box (by decide);have h2:=BoxN.Xw hJ hMm;simp;exact⟨h1,Ne.symm h2,by omega⟩
 have hP0:JP jb (.iface 74 (.pointer (some ⟨db,0,none⟩))) w.drew:=⟨j0,j1⟩
 have hP1:JP jb (.iface 74 (.pointer (some ⟨db,0,none⟩))) (mk w.drew):=⟨cell_later hB0 j0,cell_later hB0 j1⟩
 refine wp_region_held_drew (S:=JP jb (.iface 74 (.pointer (some ⟨db,0,none⟩)))) (by kernel_rfl) hP0 (fun hS0=>?_);refine wpAnyH_take (i:=0) (oi:={ dst:=some 6,op:=Go.Op.move (Go.Operand.tmp 0),type:=117,pos:="journal.go:98",after:=#[],guard:=none }) (v:=?v0) rfl (by kernel_rfl) (by kernel_rfl) (by kernel_rfl) (fun _ _ _ h=>h) (Or.inl ⟨by rfl,?y0⟩) hS0 ?_
 case y0=>(rintro w ⟨q0,q1⟩;go_simp;try with_reducible rfl)
 try simp only [Act.put,List.setIfInBounds_toArray,List.set_cons_zero,List.set_cons_succ]
 refine wpAnyH_take (i:=1) (oi:={ dst:=some 7,op:=Go.Op.nilCheck (Go.Operand.tmp 6),type:=0,pos:="journal.go:98",after:=#[{ on:=0,ground:=Go.Ground.data }],guard:=none }) (v:=?v1) rfl (by kernel_rfl) (by kernel_rfl) (by kernel_rfl) (fun _ _ _ h=>h) (Or.inl ⟨by rfl,?y1⟩) hS0 ?_
 case y1=>(rintro w ⟨q0,q1⟩;go_simp;try with_reducible rfl)
 try simp only [Act.put,List.setIfInBounds_toArray,List.set_cons_zero,List.set_cons_succ]
 refine wpAnyH_take (i:=2) (oi:={ dst:=some 8,op:=Go.Op.fieldAddr 212 (Go.Operand.tmp 7) 0,type:=0,pos:="journal.go:98",after:=#[{ on:=1,ground:=Go.Ground.data }],guard:=none }) (v:=?v2) rfl (by kernel_rfl) (by kernel_rfl) (by kernel_rfl) (fun _ _ _ h=>h) (Or.inl ⟨by rfl,?y2⟩) hS0 ?_
 case y2=>(rintro w ⟨q0,q1⟩;go_simp;try with_reducible rfl)
 try simp only [Act.put,List.setIfInBounds_toArray,List.set_cons_zero,List.set_cons_succ]
 refine wpAnyH_take (i:=3) (oi:={ dst:=some 9,op:=Go.Op.load 175 (Go.Operand.tmp 8),type:=175,pos:="journal.go:98",after:=#[{ on:=2,ground:=Go.Ground.data }],guard:=none }) (v:=?v3) rfl (by kernel_rfl) (by kernel_rfl) (by kernel_rfl) (fun _ _ _ h=>h) (Or.inl ⟨by rfl,?y3⟩) hS0 ?_
 case y3=>(rintro w ⟨q0,q1⟩;go_simp;try with_reducible rfl)
 try simp only [Act.put,List.setIfInBounds_toArray,List.set_cons_zero,List.set_cons_succ]
 refine wpAnyH_take (i:=4) (oi:={ dst:=some 10,op:=Go.Op.move (Go.Operand.tmp 0),type:=117,pos:="journal.go:98",after:=#[],guard:=none }) (v:=?v4) rfl (by kernel_rfl) (by kernel_rfl) (by kernel_rfl) (fun _ _ _ h=>h) (Or.inl ⟨by rfl,?y4⟩) hS0 ?_
 case y4=>(rintro w ⟨q0,q1⟩;go_simp;try with_reducible rfl)
 try simp only [Act.put,List.setIfInBounds_toArray,List.set_cons_zero,List.set_cons_succ]
 refine wpAnyH_take (i:=5) (oi:={ dst:=some 11,op:=Go.Op.nilCheck (Go.Operand.tmp 10),type:=0,pos:="journal.go:98",after:=#[{ on:=4,ground:=Go.Ground.data }],guard:=none }) (v:=?v5) rfl (by kernel_rfl) (by kernel_rfl) (by kernel_rfl) (fun _ _ _ h=>h) (Or.inl ⟨by rfl,?y5⟩) hS0 ?_
 case y5=>(rintro w ⟨q0,q1⟩;go_simp;try with_reducible rfl)
 try simp only [Act.put,List.setIfInBounds_toArray,List.set_cons_zero,List.set_cons_succ]
 refine wpAnyH_take (i:=6) (oi:={ dst:=some 12,op:=Go.Op.fieldAddr 212 (Go.Operand.tmp 11) 1,type:=0,pos:="journal.go:98",after:=#[{ on:=5,ground:=Go.Ground.data }],guard:=none }) (v:=?v6) rfl (by kernel_rfl) (by kernel_rfl) (by kernel_rfl) (fun _ _ _ h=>h) (Or.inl ⟨by rfl,?y6⟩) hS0 ?_
 case y6=>(rintro w ⟨q0,q1⟩;go_simp;try with_reducible rfl)
 try simp only [Act.put,List.setIfInBounds_toArray,List.set_cons_zero,List.set_cons_succ]
 refine wpAnyH_take (i:=7) (oi:={ dst:=some 13,op:=Go.Op.load 31 (Go.Operand.tmp 12),type:=31,pos:="journal.go:98",after:=#[{ on:=6,ground:=Go.Ground.data }],guard:=none }) (v:=?v7) rfl (by kernel_rfl) (by kernel_rfl) (by kernel_rfl) (fun _ _ _ h=>h) (Or.inl ⟨by rfl,?y7⟩) hS0 ?_
 case y7=>(rintro w ⟨q0,q1⟩;go_simp;try with_reducible rfl)
 try simp only [Act.put,List.setIfInBounds_toArray,List.set_cons_zero,List.set_cons_succ]
 refine wpAnyH_take (i:=9) (oi:={ dst:=some 15,op:=Go.Op.move (Go.Operand.tmp 1),type:=9,pos:="journal.go:98",after:=#[],guard:=none }) (v:=?v9) rfl (by kernel_rfl) (by kernel_rfl) (by kernel_rfl) (fun _ _ _ h=>h) (Or.inl ⟨by rfl,?y9⟩) hS0 ?_
 case y9=>(rintro w ⟨q0,q1⟩;go_simp;try with_reducible rfl)
 try simp only [Act.put,List.setIfInBounds_toArray,List.set_cons_zero,List.set_cons_succ]
 refine wpAnyH_take (i:=11) (oi:={ dst:=some 17,op:=Go.Op.nilCheck (Go.Operand.tmp 9),type:=175,pos:="journal.go:98",after:=#[{ on:=3,ground:=Go.Ground.data }],guard:=none }) (v:=?v11) rfl (by kernel_rfl) (by kernel_rfl) (by kernel_rfl) (fun _ _ _ h=>h) (Or.inl ⟨by rfl,?y11⟩) hS0 ?_
 case y11=>(rintro w ⟨q0,q1⟩;go_simp;try with_reducible rfl)
 try simp only [Act.put,List.setIfInBounds_toArray,List.set_cons_zero,List.set_cons_succ]
 refine wpAnyH_take (i:=12) (oi:={ dst:=some 18,op:=Go.Op.move (Go.Operand.tmp 9),type:=175,pos:="journal.go:98",after:=#[{ on:=3,ground:=Go.Ground.data },{ on:=11,ground:=Go.Ground.data }],guard:=none }) (v:=?v12) rfl (by kernel_rfl) (by kernel_rfl) (by kernel_rfl) (fun _ _ _ h=>h) (Or.inl ⟨by rfl,?y12⟩) hS0 ?_
 case y12=>(rintro w ⟨q0,q1⟩;go_simp;try with_reducible rfl)
 try simp only [Act.put,List.setIfInBounds_toArray,List.set_cons_zero,List.set_cons_succ]
 refine wpAnyH_ready (rs:=[8,10]) (by kernel_rfl) (by simp) ?_;refine AllReadyH.cons rfl (fun K hK=>?_) (AllReadyH.cons rfl (fun K hK=>?_) AllReadyH.nil)
 focus
  go_simp;refine(hF _).mono ?_;rintro e w1 ⟨rfl,rfl⟩;refine hK.out _ _ hP0 (fun hS1=>?_);clear hK K;refine Xh 10 rfl fun K hK=>?_;go_simp
 rotate_left
 focus
  go_simp;refine hK.out _ _ hP1 (fun hS1=>?_);clear hK K;refine Xh 8 rfl fun K hK=>?_;go_simp;refine(hF _).mono ?_;rintro e w1 ⟨rfl,rfl⟩
 rotate_left
 all_goals
  refine hK.out _ _ hP1 (fun hS2=>?_);clear hK K;refine Xh 13 rfl fun K hK=>?_;go_simp;refine hAp.mono ?_;rintro e w2 ⟨rfl,b',g,cap,hb',hg,hD2,hR2,hS2⟩
  have hP2:JP jb (.iface 74 (.pointer (some ⟨db,0,none⟩))) w2:=⟨(cell_of_block (hS2.block jb (by omega) hjn) 0).1.trans hP1.1,(cell_of_block (hS2.block jb (by omega) hjn) 1).1.trans hP1.2⟩
  refine hK.out _ _ hP2 (fun hS3=>?_);clear hK K;refine wpAnyH_take (i:=14) (oi:={ dst:=some 5,op:=Go.Op.assign (Go.Operand.tmp 19),type:=81,pos:="journal.go:98",after:=#[{ on:=13,ground:=Go.Ground.data },{ on:=13,ground:=Go.Ground.chain },{ on:=0,ground:=Go.Ground.phase },{ on:=1,ground:=Go.Ground.phase },{ on:=2,ground:=Go.Ground.phase },{ on:=3,ground:=Go.Ground.phase },{ on:=4,ground:=Go.Ground.phase },{ on:=5,ground:=Go.Ground.phase },{ on:=6,ground:=Go.Ground.phase },{ on:=7,ground:=Go.Ground.phase },{ on:=8,ground:=Go.Ground.phase },{ on:=9,ground:=Go.Ground.phase },{ on:=10,ground:=Go.Ground.phase },{ on:=11,ground:=Go.Ground.phase },{ on:=12,ground:=Go.Ground.phase },{ on:=13,ground:=Go.Ground.phase }],guard:=none }) (v:=?v14) rfl (by kernel_rfl) (by kernel_rfl) (by kernel_rfl) (fun _ _ _ h=>h) (Or.inl ⟨by rfl,?y14⟩) hS3 ?_
  case y14=>(rintro w ⟨q0,q1⟩;go_simp;try with_reducible rfl)
  try simp only [Act.put,List.setIfInBounds_toArray,List.set_cons_zero,List.set_cons_succ]
  refine wpAnyH_done (by kernel_rfl) ?_ _
  have hS3:Spares [db,mn] w w2:=⟨hS2.os.trans hB0.os,hS2.tape.trans hB0.tape,hS2.output.trans hB0.output,Nat.le_trans hB0.size hS2.size,fun k hk hnk=>(hS2.block k (by omega) (by simp at hnk ⊢;omega)).trans (hB0.block k hk)⟩
  obtain⟨nm,hnm,hMm⟩:=hD.nm;have bJ2:=hS3.box hJ (by have h1:=hJ.ne hD.box (by decide);have h2:=BoxN.Xw hJ hMm;simp;exact⟨h1,Ne.symm h2⟩);have j02:=bJ2.cell 0 (v:=Yg db) rfl;unfold Yg at j02;have hSy:=Xwe db md mn g cap _ fd _ (l-1) (f-1) line w2 hD2 (by omega) (by omega) (by omega) (by omega) (Xa Hld) hR2 (by omega);have hz3:=hS3.size;have HS3:=Xb hS3;clear hS2 hMm hAp hcr j0 j1 hS3 hB0 hP0 hP1 hP2
  go_wp2_with (go_at_call 309;refine hSy.mono ?_;rintro e w3 ⟨rfl,b,hb,hD3,hS4⟩)
  go_ret;refine⟨rfl,b,b',by omega,by omega,?_,((Xa HS3).mono (by simp)).trans (hS4.mono (by simp))⟩;rw [show l-2=l-1-1 by omega,show f-2=f-1-1 by omega];exact hD3
def Ym (s:List UInt8):Prop:=∀ b∈s,b.toNat<128
def Uk (s:List UInt8):Prop:=(10:UInt8)∉s/\(32:UInt8)∉s/\(59:UInt8)∉s
def Xpo (s:List UInt8):Prop:=Ym s/\Uk s
theorem Ym.app {a b:List UInt8} (ha:Ym a) (hb:Ym b):Ym (a++b):=fun x hx=>by
 rcases List.mem_append.1 hx with h | h
 ·exact ha x h
 exact hb x h
theorem Ym.cons {c:UInt8} {a:List UInt8} (hc:c.toNat<128) (ha:Ym a):Ym (c :: a):=fun x hx=>by
 rcases List.mem_cons.1 hx with rfl | h
 ·exact hc
 exact ha x h
theorem Zn:Ym []:=fun _ h=>by cases h
theorem Jg (u:Nat):Ym (Lib.decDigits u):=by
 induction u using Nat.strongRecOn with
 | ind u ih =>
  by_cases h:u<10
  ·rw [Lib.decDigits_one h]
   exact Ym.cons (by simp;omega) Zn
  rw [Lib.decDigits,dif_neg h];exact(ih (u / 10) (by omega)).app (Ym.cons (by simp;omega) Zn)
theorem Xeh (n:Int):Ym (Lib.itoa n):=by
 unfold Lib.itoa
 split
 ·exact Ym.cons (by decide) (Jg _)
 exact Jg _
theorem Xjb (k:Int) (u:Nat):Ym (nmStr k u):=by
 unfold nmStr
 split
 ·exact Ym.cons (by decide) (Jg _)
 split
 ·exact Ym.cons (by decide) (Jg _)
 exact Zn
theorem Xl5 (b:Bool):Ym (Lib.formatBool b):=by
 cases b <;> exact fun x hx=>by revert x;decide
theorem Xfa:∀(l:List (List UInt8)) (sep:List UInt8),(∀ x∈l,Ym x)->Ym sep->Ym (Lib.join l sep)
 | [],_,_,_=>by rw [Lib.join_nil];exact Zn
 | x :: l,sep,h,hs=>by
  rw [Lib.join_cons];refine(h x (by simp)).app ?_;unfold Lib.joinTail;intro b hb;obtain⟨y,hy,hby⟩:=List.mem_flatten.1 hb;obtain⟨z,hz,rfl⟩:=List.mem_map.1 hy;exact(hs.app (h z (List.mem_cons_of_mem _ hz))) b hby
theorem Xo6 (r:Yf) (h:Ym r.pth):Ym (recStr r):=by
 refine Xfa _ _ (fun x hx=>?_) (Ym.cons (by decide) Zn);simp only [Ji,List.mem_cons,List.not_mem_nil,or_false] at hx
 rcases hx with rfl | rfl | rfl | rfl | rfl | rfl | rfl | rfl
 ·exact Xeh _
 ·exact Xjb _ _
 ·exact Xjb _ _
 ·exact Xl5 _
 ·exact Jg _
 ·exact Xeh _
 ·exact Jg _
 exact h
theorem Mh (rs:List Yf) (h:∀ r∈rs,Ym r.pth):Ym (recTxt rs):=by
 refine Xfa _ _ (fun x hx=>?_) (Ym.cons (by decide) Zn);obtain⟨r,hr,rfl⟩:=List.mem_map.1 hx;exact Xo6 r (h r hr)
def recLine (rs:List Yf):List UInt8:=lineL (recTxt rs)
theorem Xdf (rs:List Yf) (h:∀ r∈rs,r.Ok) (hn:rs.length<=1000):(recLine rs).length<=1201*rs.length+43:=by
 have h1:=Zx rs h;have h2:=Xgr (recTxt rs) (by omega);unfold recLine;omega
theorem Tryz.jAdd (jb db md mn g cap:Nat) (rs:List Yf) (fd fn:Option (Nat × List UInt8)) (l f:Int) (w:World) (hJ:BoxN w jb 212 #[Yg db,.int .u64 0,.nilIface]) (hD:Xj w db md mn fd fn (.slice none 0 0) l f) (hl:l<0) (hl1 : -999999990<=l) (hf:f<0) (hf1 : -999999990<=f)
  (hld:(U7 fd).length<=900000000000) (hln:(U7 fn).length<=900000000000) (hR:Zi w g rs) (hg:g<w.heap.size) (hok:∀ r∈rs,r.Ok) (hasc:∀ r∈rs,Ym r.pth) (hn:rs.length<=1000) (hE:Env w) (h6:6<=w.heap.size) :
  Calls prog 120 #[.pointer (some ⟨jb,0,none⟩),.slice (some ⟨g,0,none⟩) rs.length cap] w fun e w'=>e=.returned .nilIface/\∃ b b',w.heap.size<=b/\w.heap.size<=b'/\Xj w' db md mn (some (b,U7 fd++recLine rs)) (some (b',U7 fn++recLine rs)) (.slice none 0 0) (l-2) (f-2)/\Spares [db,md,mn] w w':=by
 have hT:=Xtd g cap rs w hR hg hok hn hE h6;have hlen:=Zx rs hok;have hll:=Xdf rs hok hn
 have hLn:=fun W (hb:Below w.heap.size w W)=>Xuy (recTxt rs) W (hE.below hb h6) (Nat.le_trans h6 hb.size) (by omega) (Mh rs hasc)
 have hA:=fun W (hb:Below w.heap.size w W)=>Xs3 jb db md mn .nilIface fd fn l f (recLine rs) W (hJ.below hb hJ.lt) (hD.below hb) hl hl1 hf hf1 (by omega) (by omega)
 change ∀ W,Below w.heap.size w W->Calls prog 144 _ W (fun e w'=>e=.returned (.string ⟨(recLine rs).toArray⟩)/\_) at hLn
 have hjn0:jb ∉ [db,md,mn]:=by
  obtain⟨n1,-,hM1⟩:=hD.nm;obtain⟨n2,-,hM2⟩:=hD.dm;have h1:=hJ.ne hD.box (by decide);have h2:=BoxN.Xw hJ hM1;have h3:=BoxN.Xw hJ hM2;simp;exact⟨h1,Ne.symm h3,Ne.symm h2⟩
 have c0:=hJ.cell 2 (v:=.nilIface) rfl;have lJ:=hJ.lt;generalize rs.length=n at *;generalize recLine rs=line at *;generalize recTxt rs=txt at *;go_enter func120,ntmps120
 go_wp2_with (first
  | (go_at_call 145;refine hT.mono ?_;rintro e w1 ⟨rfl,hb1⟩)
  | (go_at_call 144;refine(hLn _ hb1).mono ?_;rintro e w2 ⟨rfl,hb2⟩;have hb3:=hb1.trans (hb2.mono hb1.size))
  | (go_at_call 163;refine(hA _ hb3).mono ?_;rintro e w4 ⟨rfl,b,b',hb,hb',hD4,hS4⟩;have hz4:=hb3.size;have hjn:jb ∉ [db,md,mn]:=hjn0;have bJ4:=hS4.box (hJ.below hb3 hJ.lt) hjn;have c4:=bJ4.cell 2 (v:=.nilIface) rfl;have f4:=bJ4.frozen 2))
 have hjn':=hjn;simp at hjn';have hS5:Spares [jb] w4 (w4.setCell ⟨jb,2,none⟩ .nilIface):=(Spares.of_below (Below.refl _ w4)).set (by simp) _ _;have hD5:=hD4.spared hS5 (by simp;omega) (by simp;omega) (by simp;omega) (fun q hq=>by cases hq;simp;omega) (fun q hq=>by cases hq;simp;omega);have bJ5:=bJ4.set 2 .nilIface
 have hS6:Spares [db,md,mn] w (w4.setCell ⟨jb,2,none⟩ .nilIface):=by
  have h1:Spares [db,md,mn] w w4:=(Spares.of_below hb3).trans hS4;refine⟨h1.os,h1.tape,h1.output,by simpa using h1.size,fun k hk hnk=>?_⟩
  by_cases e:k=jb
  ·subst e
   exact(show _=some (Obj.cells #[Yg db,.int .u64 0,.nilIface] 212 (0,0)) from bJ5).trans (show w.heap[k]? = some (Obj.cells #[Yg db,.int .u64 0,.nilIface] 212 (0,0)) from hJ).symm
  rw [Yt _ _ _ _ _ e];exact h1.block k hk hnk
 go_ret;exact⟨rfl,b,b',by omega,by omega,hD5,hS6⟩
end Go.Proofs
