import Derived.Test.YtjbekgjdempbiaaGreatDoorJSq
import Derived.Test.YtjbekgjdempbiaaGreatDoorJRefE
import Derived.Test.YtjbekgjdempbiaaGreatDoorJCDiskB
import Derived.Laws.IdiomStrings
import Derived.Test.YtjbekgjdempbiaaGreatDoorJGlob
import Derived.Test.YtjbekgjdempbiaaGreatDoorJRefF
import Derived.Laws.RangeAny
set_option maxRecDepth 100000
set_option maxHeartbeats 8000000
namespace Go.Proofs
open Go.RowKit Go.Sort Go.Lib Go.Shelf Go.Maps
attribute [local go_sem] Oper.semAt_some
def Xoq:Int:=18446744073709551615
def minAt (xs:List InfoD):Int:=xs.foldl (fun m x=>min m x.at_) Xoq
end Go.Proofs
namespace Go.Proofs
open Go.RowKit Go.Sort Go.Maps Go.WideMaps
def BytesAt (W:World) (k:Nat) (data:List UInt8):Prop:=∀ j (hj:j<data.length),W.cell? ⟨k,j,none⟩=some (.int .u8 (data[j].toNat:Int))/\W.frozen? ⟨k,j,none⟩=false
theorem cell_of_block {W W':World} {k:Nat} (h:W'.heap[k]? = W.heap[k]?) (j:Nat):W'.cell? ⟨k,j,none⟩=W.cell? ⟨k,j,none⟩/\W'.frozen? ⟨k,j,none⟩=W.frozen? ⟨k,j,none⟩:=by
 simp [World.cell?,World.frozen?,h]
theorem Tryz.dPut {fm:List UInt8} (db md mn k cap:Nat) (fd fn:Option (Nat × List UInt8)) (l f:Int) (data:List UInt8) (w:World) (hD:Xk fm w db md mn fd fn (.slice none 0 0) l f) (hl:l<0) (hl1 : -1000000000<=l) (hf:f<0) (hf1 : -1000000000<=f) (hlen:(Jn fn).length+data.length<=1000000000000)
  (hK:BytesAt w k data) (hk:k<w.heap.size) (n1:db≠k) (n2:md≠k) (n3:mn≠k) (n4:∀ q,fd=some q->q.1≠k) :
  Calls prog 311 #[.pointer (some ⟨db,0,none⟩),.int .i64 2,.string ⟨fm.toArray⟩,.slice (some ⟨k,0,none⟩) data.length cap] w fun e w'=>e=.returned .nilIface/\∃ b g cap,w.heap.size<=b/\w.heap.size<=g/\Xk fm w' db md mn fd (some (b,Jn fn++data)) (.slice (some ⟨g,0,none⟩) 1 cap) (l-1) (f-1) /\
   w'.ownsRow w.heap.size 172 3 (.slice (some ⟨g,0,none⟩) 1 cap) 1 [.int .i64 2,.string ⟨fm.toArray⟩,.string ⟨data.toArray⟩]/\Spares [db,mn,k] w w':=by
 have hT:=dTell db md mn fd fn l f data w hD hl hl1 hf hf1 hlen
 have hcv:(convert 267 9 (.slice (some ⟨k,0,none⟩) data.length cap)).run prog w=.ok (.string ⟨data.toArray⟩) w:=
  run_convert_bytes_back w 267 9 5 ⟨k,0,none⟩ cap data underlying267 underlying5 underlying9 (fun j hj=>by
   have:=(hK j hj).1
   by_cases h0:j=0
   ·subst h0;simpa [Addr.add] using this
   simpa [Addr.add,h0] using this)
 have hdl:data.length<=1000000000000:=by omega
 obtain⟨n,hn⟩:∃ n,data.length=n:=⟨_,rfl⟩
 rw [hn] at hcv hdl ⊢;have Hn:=Xb hn;have Hlen:=Xb hlen;clear hn hlen;go_enter func311,ntmps311
 go_wp2_with (go_at_call 313;refine hT.mono ?_;rintro e w1 ⟨rfl,b,g,cap1,hb,hg,hD1,hR1,hS1⟩)
 have hK1:∀ j,j<n->∃ v,w1.cell? ⟨k,j,none⟩=some v/\w1.frozen? ⟨k,j,none⟩=false:=fun j hj=>by
  obtain⟨e1,e2⟩:=cell_of_block (hS1.block k hk (by simp;omega)) j;obtain⟨e3,e4⟩:=hK j (by have:=Xa Hn;omega);exact⟨_,e1.trans e3,e2.trans e4⟩
 clear hT hcv
 go_loopw [20] (fun i wr=>∃ q:Nat,q<=n/\i=.int .i64 q/\Spares [k] w1 wr/\∀ j,j<n->∃ v,wr.cell? ⟨k,j,none⟩=some v/\wr.frozen? ⟨k,j,none⟩=false) (fun i _=>n-(intOf i).toNat)
 case atStart=>exact⟨0,Nat.zero_le _,rfl,Spares.of_below (Below.refl _ _),hK1⟩
 case round =>
  obtain⟨q,hq,rfl,hSq,hKq⟩:=hrel
  by_cases hqn:q<n
  ·obtain⟨v,hv,hvf⟩:=hKq q hqn
   have HK:=Xb hKq;clear hKq;go_wp2
   go_roundw
   case rel =>
    refine⟨q+1,by omega,rfl,hSq.set (by simp) _ _,fun j hj=>?_⟩;obtain⟨u,hu,huf⟩:=Xa HK j hj;obtain⟨y,hy⟩:=cell?_setCell_some (w:=wr) (p:=⟨k,q,none⟩) (x:=.int .u8 33) hu;exact⟨y,hy,by rw [World.frozen?_setCell];exact huf⟩
   case measure=>simp [intOf];omega
  obtain rfl:q=n:=by omega
  have hD2:=hD1.spared hSq (by simpa using n1) (by simpa using n2) (by simpa using n3) (fun z hz=>by simpa using n4 z hz) (fun z hz=>by cases hz;simp;omega);have hR2:=hSq.row hR1 (by simp;omega);have hS2:Spares [db,mn,k] w wr:=(hS1.mono (by simp)).trans (hSq.mono (by simp));clear hKq;go_wp2;go_ret;exact⟨rfl,b,g,cap1,hb,hg,hD2,hR2,hS2⟩
theorem Tryz.Xni {fm:List UInt8} (db md mn k cap:Nat) (fd fn:Option (Nat × List UInt8)) (l f:Int) (data:List UInt8) (w:World) (hD:Xk fm w db md mn fd fn (.slice none 0 0) l f) (hl:l<0) (hl1 : -1000000000<=l) (hf:f<0) (hf1 : -1000000000<=f) (hlen:(Jn fn).length+data.length<=1000000000000)
  (hK:BytesAt w k data) (hk:k<w.heap.size) (n1:db≠k) (n2:md≠k) (n3:mn≠k) (n4:∀ q,fd=some q->q.1≠k) :
  Calls prog 305 #[.pointer (some ⟨db,0,none⟩),.string ⟨fm.toArray⟩,.slice (some ⟨k,0,none⟩) data.length cap] w fun e w'=>e=.returned .nilIface/\∃ b g cap,w.heap.size<=b/\w.heap.size<=g/\Xk fm w' db md mn fd (some (b,Jn fn++data)) (.slice (some ⟨g,0,none⟩) 1 cap) (l-1) (f-1) /\
   w'.ownsRow w.heap.size 172 3 (.slice (some ⟨g,0,none⟩) 1 cap) 1 [.int .i64 2,.string ⟨fm.toArray⟩,.string ⟨data.toArray⟩]/\Spares [db,mn,k] w w':=by
 have hP:=dPut db md mn k cap fd fn l f data w hD hl hl1 hf hf1 hlen hK hk n1 n2 n3 n4;generalize data.length=n at hP ⊢;go_enter func305,ntmps305
 go_wp2_with (go_at_call 311;refine hP.mono ?_;rintro e w1 ⟨rfl,hR⟩)
 go_ret;exact⟨rfl,hR⟩
theorem U8 {B g cap:Nat} {e:TypeId} {W:World} {a b c:Value} (h:W.ownsRow B e 3 (.slice (some ⟨g,0,none⟩) 1 cap) 1 [a,b,c]):W.cell? ⟨g,0,none⟩=some a/\W.cell? ⟨g,1,none⟩=some b/\W.cell? ⟨g,2,none⟩=some c/\g<W.heap.size:=by
 obtain⟨-,⟨e1,-⟩ | ⟨g',cap',cur,e1,e2,e3,e4⟩⟩:=h
 ·cases e1
 cases e1
 have t:∀ j,j<3->cur[j]? = [a,b,c][j]?:=fun j hj=>by
  have h1:=congrArg (fun l:List Value=>l[j]?) e4.2.2.2;simp only [List.getElem?_take,if_pos (show j<1*3 by omega)] at h1;rw [<- h1];simp
 have s:∀ j,W.cell? ⟨g,j,none⟩=cur[j]?:=fun j=>by simp [World.cell?,e3]
 exact⟨(s 0).trans (t 0 (by omega)),(s 1).trans (t 1 (by omega)),(s 2).trans (t 2 (by omega)),(Array.getElem?_eq_some_iff.1 e3).1⟩
theorem Tryz.dSync {fm:List UInt8} (db md mn g cap B:Nat) (fd fn:Option (Nat × List UInt8)) (l f:Int) (data:List UInt8) (w:World) (hD:Xk fm w db md mn fd fn (.slice (some ⟨g,0,none⟩) 1 cap) l f) (hl:l<0) (hl1 : -1000000000<=l) (hf:f<0) (hf1 : -1000000000<=f) (hlen:(Jn fd).length+data.length<=1000000000000)
  (hR:w.ownsRow B 172 3 (.slice (some ⟨g,0,none⟩) 1 cap) 1 [.int .i64 2,.string ⟨fm.toArray⟩,.string ⟨data.toArray⟩]) (hg1:db≠g) :
  Calls prog 309 #[.pointer (some ⟨db,0,none⟩)] w fun e w'=>e=.returned .nilIface/\∃ b,w.heap.size<=b/\Xk fm w' db md mn (some (b,Jn fd++data)) fn (.slice none 0 0) (l-1) (f-1)/\Spares [db,md] w w':=by
 have hW:=Un db _ _ _ l f _ hD.box hl hl1 hf hf1;obtain⟨-,-,-,lg⟩:=U8 hR;go_enter func309,ntmps309
 go_wp2_with (go_at_call 314;refine hW.mono ?_;rintro e W1 ⟨rfl,bD1,hS1⟩;have d2:=bD1.cell 2 (v:=.slice (some ⟨g,0,none⟩) 1 cap) rfl)
 have hD1:=hD.cells hS1 bD1;obtain⟨o0,o1,o2,lg1⟩:=U8 (hS1.row hR (by simpa using Ne.symm hg1));have d0:=bD1.cell 0 (v:=.map (some md)) rfl;have f2:=bD1.frozen 2;have lD:=hD1.lt;obtain⟨nn,hnn,hM⟩:=hD1.dm;have hsz:=hS1.size;clear hW;have hDo:=dDo hD1.nl md nn fd data (W1.alloc (.cells #[.int .i64 2,.string ⟨fm.toArray⟩,.string ⟨data.toArray⟩] 172)).drew (hM.alloc _) hnn (fun p hp=>(hD1.sd p hp).alloc _) hlen;have Hsz:=Xb hsz;have Hlen:=Xb hlen;clear hlen hsz;refine wp_loop_rounds 2 ?_;rw [rounds_succ];go_wp2
 go_region_with (go_at_call 98;refine hDo.mono ?_;rintro e W2 ⟨rfl,b,hb,hM2,bS2,hS2⟩)
 all_goals
  have hsz:=Xa Hsz
  have hbb:w.heap.size<=b:=by
   have:(W1.alloc (.cells #[.int .i64 2,.string ⟨fm.toArray⟩,.string ⟨data.toArray⟩] 172)).drew.heap.size=W1.heap.size+1:=by simp
   omega
  have bD2:=hS2.box (W:=(W1.alloc (.cells #[.int .i64 2,.string ⟨fm.toArray⟩,.string ⟨data.toArray⟩] 172)).drew) (bD1.alloc _) (by simpa using Ne.symm hD1.nes.1);obtain⟨n1,hn1,hMn⟩:=hD1.nm;have hMn2:=hS2.map (W:=(W1.alloc (.cells #[.int .i64 2,.string ⟨fm.toArray⟩,.string ⟨data.toArray⟩] 172)).drew) (hMn.alloc _) (by simpa using Ne.symm hD1.ne)
  have hsn2:∀ q,fn=some q->BoxN W2 q.1 9 #[.string ⟨q.2.toArray⟩]:=fun q hq=>hS2.box (W:=(W1.alloc (.cells #[.int .i64 2,.string ⟨fm.toArray⟩,.string ⟨data.toArray⟩] 172)).drew) ((hD1.sn q hq).alloc _) (by have:=BoxN.Xl (hD1.sn q hq) hM;simpa using Ne.symm this)
  have hs2:Spares [db,md] w W2:=(((hS1.mono (bs':=[db,md]) (by simp)).alloc _).drew).trans (hS2.mono (bs':=[db,md]) (by simp))
  have hD2:Xk fm W2 db md mn (some (b,Jn fd++data)) fn (.slice (some ⟨g,0,none⟩) 1 cap) (l-1) (f-1):=⟨bD2,⟨1,by omega,hM2⟩,⟨n1,hn1,hMn2⟩,fun q hq=>by cases hq;exact bS2,hsn2,hD1.ne,hD1.nl⟩
  have e2:=bD2.cell 2 (v:=.slice (some ⟨g,0,none⟩) 1 cap) rfl;have e3:=bD2.frozen 2;have hD3:=hD2.cells ((Spares.of_below (Below.refl _ W2)).set (bs:=[db]) (by simp) 2 (.slice none 0 0)) (bD2.set 2 _);have hs3:=hs2.set (b:=db) (by simp) 2 (.slice none 0 0);have HH:=Xb (And.intro hbb (And.intro hD3 hs3));clear hsz hbb hD3 hs3 hDo hM hM2 bS2 hS2 hMn hMn2 hsn2 hs2 hD2 bD2 d0 d2 o0 o1 o2 f2;go_wp2
  try rw [rounds_succ]
  go_wp2;go_ret;exact⟨rfl,b,(Xa HH).1,(Xa HH).2.1,(Xa HH).2.2⟩
end Go.Proofs
namespace Go.Proofs
open Go.RowKit Go.Sort Go.Lib Go.Shelf Go.Maps
theorem Tryz.Xhv (db:Nat) (w:World):Sem.run prog (method 517 74 (.pointer (some ⟨db,0,none⟩)) "Append") w=.ok (305,.pointer (some ⟨db,0,none⟩)) w:=by kernel_rfl
theorem Tryz.Jp (db:Nat) (w:World):Sem.run prog (method 517 74 (.pointer (some ⟨db,0,none⟩)) "Sync") w=.ok (309,.pointer (some ⟨db,0,none⟩)) w:=by kernel_rfl
theorem Tryz.Xeh (line:List UInt8):∃(cp:World->Nat) (mk:World->World),∀ W,(convert 9 267 (.string ⟨line.toArray⟩)).run prog W=.ok (.slice (some ⟨W.heap.size,0,none⟩) line.length (cp W)) (mk W)/\Below W.heap.size W (mk W)/\W.heap.size<(mk W).heap.size/\BytesAt (mk W) W.heap.size line:=by
 refine⟨fun W=>grownCap W (⟨line.toArray⟩:ByteArray).size 0 5,fun W=>W.drew.alloc (.cells (bytesRow ⟨line.toArray⟩ (grownCap W (⟨line.toArray⟩:ByteArray).size 0 5)) 5 ((bytesRow ⟨line.toArray⟩ (grownCap W (⟨line.toArray⟩:ByteArray).size 0 5)).size,(bytesRow ⟨line.toArray⟩ (grownCap W (⟨line.toArray⟩:ByteArray).size 0 5)).size+1)),fun W=>⟨?_,?_,?_,?_⟩⟩
 ·have:=run_bytes_of_string (P:=prog) W 9 267 5 ⟨line.toArray⟩ underlying9 underlying267 underlying5
  simpa [ByteArray.size] using this
 ·exact((Below.refl _ W).drew).alloc (Nat.le_refl _) _
 ·simp
 intro j hj
 obtain⟨c,hcc⟩:∃ c,grownCap W (⟨line.toArray⟩:ByteArray).size 0 5=c:=⟨_,rfl⟩
 simp only [hcc];have h:(W.drew.alloc (.cells (bytesRow ⟨line.toArray⟩ c) 5 ((bytesRow ⟨line.toArray⟩ c).size,(bytesRow ⟨line.toArray⟩ c).size+1))).heap[W.heap.size]? = some (.cells (bytesRow ⟨line.toArray⟩ c) 5 ((bytesRow ⟨line.toArray⟩ c).size,(bytesRow ⟨line.toArray⟩ c).size+1)):=World.alloc_heap_new W.drew _
 have hc:(bytesRow ⟨line.toArray⟩ c)[j]? = some (.int .u8 (line[j].toNat:Int)):=by
  have:=bytesRow_at ⟨line.toArray⟩ c j (by simpa using hj)
  simpa using this
 have hsz:j<(bytesRow ⟨line.toArray⟩ c).size:=(Array.getElem?_eq_some_iff.1 hc).1
 show (W.drew.alloc (.cells (bytesRow ⟨line.toArray⟩ c) 5 ((bytesRow ⟨line.toArray⟩ c).size,(bytesRow ⟨line.toArray⟩ c).size+1))).cell? ⟨W.heap.size,j,none⟩=_/\(W.drew.alloc (.cells (bytesRow ⟨line.toArray⟩ c) 5 ((bytesRow ⟨line.toArray⟩ c).size,(bytesRow ⟨line.toArray⟩ c).size+1))).frozen? ⟨W.heap.size,j,none⟩=false
 constructor
 ·unfold World.cell?
  rw [h];exact hc
 unfold World.frozen?;rw [h];simp;omega
abbrev JP (jb:Nat) (d:Value) (no:Nat) (W:World):Prop:=W.cell? ⟨jb,0,none⟩=some d/\W.cell? ⟨jb,1,none⟩=some (.int .u64 (no:Int))
def Tryz.Xw (db:Nat):Value:=.iface 74 (.pointer (some ⟨db,0,none⟩))
theorem Tryz.Xnt (jb db md mn no:Nat) (er:Value) (fd fn:Option (Nat × List UInt8)) (l f:Int) (line:List UInt8) (w:World) (hno:no<18446744073709551616) (hE:Env w) (h6:6<=w.heap.size) (hJ:BoxN w jb 212 #[Xw db,.int .u64 (no:Int),er]) (hD:Xk (fileN no) w db md mn fd fn (.slice none 0 0) l f) (hl:l<0) (hl1 : -999999990<=l) (hf:f<0) (hf1 : -999999990<=f)
  (hld:(Jn fd).length+line.length<=1000000000000) (hln:(Jn fn).length+line.length<=1000000000000) :
  Calls prog 163 #[.pointer (some ⟨jb,0,none⟩),.string ⟨line.toArray⟩] w fun e w'=>e=.returned .nilIface/\∃ b b',w.heap.size<=b/\w.heap.size<=b'/\Xk (fileN no) w' db md mn (some (b,Jn fd++line)) (some (b',Jn fn++line)) (.slice none 0 0) (l-2) (f-2)/\Spares [db,md,mn] w w':=by
 have j0:=hJ.cell 0 (v:=Xw db) rfl;have j1:=hJ.cell 1 (v:=.int .u64 (no:Int)) rfl;unfold Xw at j0;have lJ:=hJ.lt
 have hm:=fun W=>Xhv db W
 have hm2:=fun W=>Jp db W
 have hF:=fun W (hb:Below w.heap.size w W)=>Xb5 no hno W (hE.below hb h6)
 obtain⟨cp,mk,hcv⟩:=Xeh line
 have hcr:=fun W=>(hcv W).1
 have HCV:=Xb hcv;have lD:=hD.lt
 have hAp:=fun(W:World) (k cap:Nat) (hb:Below w.heap.size w W) (hK:BytesAt W k line) (h1:w.heap.size<=k) (h2:k<W.heap.size)=>Xni db md mn k cap fd fn l f line W (hD.below hb) hl (by omega) hf (by omega) hln hK h2 (by omega) (by omega) (by omega) (fun q hq=>by have:=(hD.sd q hq).lt;omega)
 have hP:∀ W,Below w.heap.size w W->JP jb (.iface 74 (.pointer (some ⟨db,0,none⟩))) no W:=fun W hb=>⟨cell_later hb j0,cell_later hb j1⟩
 have hjn:jb ∉ [db,mn]:=by
  obtain⟨nm,hnm,hMm⟩:=hD.nm;have h1:=hJ.ne hD.box (by decide);have h2:=BoxN.Xl hJ hMm;simp;exact⟨h1,Ne.symm h2⟩
 have hQ:∀ W w2,Below w.heap.size w W->∀ k,w.heap.size<=k->Spares [db,mn,k] W w2->Spares [db,mn] w w2:=fun W w2 hB0 k hk hS2=>⟨hS2.os.trans hB0.os,hS2.tape.trans hB0.tape,hS2.output.trans hB0.output,Nat.le_trans hB0.size hS2.size,fun b hb hnb=>(hS2.block b (Nat.lt_of_lt_of_le hb hB0.size) (by simp at hnb ⊢;omega)).trans (hB0.block b hb)⟩
 obtain⟨n,hn⟩:∃ n,line.length=n:=⟨_,rfl⟩
 rw [hn] at hcr hAp;have Hn:=Xb hn;have Hld:=Xb hld;generalize fileN no=fm at *;clear hn hld hln hcv;go_enter func163,ntmps163
 go_wp2_with fail
 have hb0:Below w.heap.size w w.drew:=(Below.refl _ w).drew;have hb1:Below w.heap.size w (mk w.drew):=hb0.trans (Xa HCV w.drew).2.1;refine wp_region_held_drew (S:=JP jb (.iface 74 (.pointer (some ⟨db,0,none⟩))) no) (by kernel_rfl) (hP _ hb0) (fun hS0=>?_);refine Xt 0 ?v0 rfl ?y0 hS0 ?_
 case y0=>(rintro w ⟨q0,q1⟩;go_simp;try with_reducible rfl)
 refine Xt 1 ?v1 rfl ?y1 hS0 ?_
 case y1=>(rintro w ⟨q0,q1⟩;go_simp;try with_reducible rfl)
 refine Xt 2 ?v2 rfl ?y2 hS0 ?_
 case y2=>(rintro w ⟨q0,q1⟩;go_simp;try with_reducible rfl)
 refine Xt 3 ?v3 rfl ?y3 hS0 ?_
 case y3=>(rintro w ⟨q0,q1⟩;go_simp;try with_reducible rfl)
 refine Xt 4 ?v4 rfl ?y4 hS0 ?_
 case y4=>(rintro w ⟨q0,q1⟩;go_simp;try with_reducible rfl)
 refine Xt 5 ?v5 rfl ?y5 hS0 ?_
 case y5=>(rintro w ⟨q0,q1⟩;go_simp;try with_reducible rfl)
 refine Xt 6 ?v6 rfl ?y6 hS0 ?_
 case y6=>(rintro w ⟨q0,q1⟩;go_simp;try with_reducible rfl)
 refine Xt 7 ?v7 rfl ?y7 hS0 ?_
 case y7=>(rintro w ⟨q0,q1⟩;go_simp;try with_reducible rfl)
 refine Xt 9 ?v9 rfl ?y9 hS0 ?_
 case y9=>(rintro w ⟨q0,q1⟩;go_simp;try with_reducible rfl)
 refine Xt 11 ?v11 rfl ?y11 hS0 ?_
 case y11=>(rintro w ⟨q0,q1⟩;go_simp;try with_reducible rfl)
 refine Xt 12 ?v12 rfl ?y12 hS0 ?_
 case y12=>(rintro w ⟨q0,q1⟩;go_simp;try with_reducible rfl)
 refine wpAnyH_ready (rs:=[8,10]) (by kernel_rfl) (by simp) ?_;refine AllReadyH.cons rfl (fun K hK=>?_) (AllReadyH.cons rfl (fun K hK=>?_) AllReadyH.nil)
 focus
  go_simp;refine(hF _ hb0).mono ?_;rintro e w1 ⟨rfl,hbx⟩;have hb2:Below w.heap.size w w1:=hb0.trans hbx;refine hK.out _ _ (hP _ hb2) (fun hS1=>?_);clear hK K;refine Xh 10 rfl fun K hK=>?_;go_simp;have hb3:Below w.heap.size w (mk w1):=hb2.trans ((Xa HCV w1).2.1.mono hb2.size);refine hK.out _ _ (hP _ hb3) (fun hS2=>?_);clear hK K;refine Xh 13 rfl fun K hK=>?_;go_simp;refine(hAp _ _ _ hb3 (Xa HCV w1).2.2.2 hb2.size (Xa HCV w1).2.2.1).mono ?_;rintro e w2 ⟨rfl,b',g,cap,hb',hg,hD2,hR2,hS2⟩;have hS3:=hQ _ _ hb3 _ hb2.size hS2
 rotate_left
 focus
  go_simp;refine hK.out _ _ (hP _ hb1) (fun hS1=>?_);clear hK K;refine Xh 8 rfl fun K hK=>?_;go_simp;refine(hF _ hb1).mono ?_;rintro e w1 ⟨rfl,hbx⟩;have hb3:Below w.heap.size w w1:=hb1.trans (hbx.mono hb1.size);refine hK.out _ _ (hP _ hb3) (fun hS2=>?_);clear hK K;refine Xh 13 rfl fun K hK=>?_;go_simp;refine(hAp _ _ _ hb3 (fun j hj=>by have h1:=(Xa HCV w.drew).2.2.2 j hj;have h2:=cell_of_block (hbx.block w.heap.size (Xa HCV w.drew).2.2.1) j;exact⟨h2.1.trans h1.1,h2.2.trans h1.2⟩) (Nat.le_refl _) (Nat.lt_of_lt_of_le (Xa HCV w.drew).2.2.1 hbx.size)).mono ?_;rintro e w2 ⟨rfl,b',g,cap,hb',hg,hD2,hR2,hS2⟩;have hS3:=hQ _ _ hb3 _ (Nat.le_refl _) hS2
 rotate_left
 all_goals
  have hz:=hb3.size;have bJ2:=hS3.box hJ hjn;have j02:=bJ2.cell 0 (v:=Xw db) rfl;have j12:=bJ2.cell 1 (v:=.int .u64 (no:Int)) rfl;unfold Xw at j02;refine hK.out _ _ (show JP jb _ no w2 from ⟨j02,j12⟩) (fun hS4=>?_);clear hK K;refine Xt 14 ?v14 rfl ?y14 hS4 ?_
  case y14=>(rintro w ⟨q0,q1⟩;go_simp;try with_reducible rfl)
  refine wpAnyH_done (by kernel_rfl) ?_ _;have hSy:=dSync db md mn g cap _ fd _ (l-1) (f-1) line w2 hD2 (by omega) (by omega) (by omega) (by omega) (Xa Hld) hR2 (by omega);have hz3:=hS3.size;have HS3:=Xb hS3;clear hS2 hAp hcr j0 j1 hS3 hb0 hb1 hP hF hQ
  go_wp2_with (go_at_call 309;refine hSy.mono ?_;rintro e w3 ⟨rfl,b,hb,hD3,hS5⟩)
  go_ret;refine⟨rfl,b,b',by omega,by omega,?_,((Xa HS3).mono (by simp)).trans (hS5.mono (by simp))⟩;rw [show l-2=l-1-1 by omega,show f-2=f-1-1 by omega];exact hD3
def Yg (s:List UInt8):Prop:=∀ b∈s,b.toNat<128
def Z9 (s:List UInt8):Prop:=(10:UInt8)∉s/\(32:UInt8)∉s/\(59:UInt8)∉s
def Xlj (s:List UInt8):Prop:=Yg s/\Z9 s
theorem Yg.app {a b:List UInt8} (ha:Yg a) (hb:Yg b):Yg (a++b):=fun x hx=>by
 rcases List.mem_append.1 hx with h | h
 ·exact ha x h
 exact hb x h
theorem Yg.cons {c:UInt8} {a:List UInt8} (hc:c.toNat<128) (ha:Yg a):Yg (c :: a):=fun x hx=>by
 rcases List.mem_cons.1 hx with rfl | h
 ·exact hc
 exact ha x h
theorem Yy:Yg []:=fun _ h=>by cases h
theorem Zm (u:Nat):Yg (Lib.decDigits u):=by
 induction u using Nat.strongRecOn with
 | ind u ih =>
  by_cases h:u<10
  ·rw [Lib.decDigits_one h]
   exact Yg.cons (by simp;omega) Yy
  rw [Lib.decDigits,dif_neg h];exact(ih (u / 10) (by omega)).app (Yg.cons (by simp;omega) Yy)
theorem Xbh (n:Int):Yg (Lib.itoa n):=by
 unfold Lib.itoa
 split
 ·exact Yg.cons (by decide) (Zm _)
 exact Zm _
theorem Xe2 (k:Int) (u:Nat):Yg (nmStr k u):=by
 unfold nmStr
 split
 ·exact Yg.cons (by decide) (Zm _)
 split
 ·exact Yg.cons (by decide) (Zm _)
 exact Yy
theorem Xhk (b:Bool):Yg (Lib.formatBool b):=by
 cases b <;> exact fun x hx=>by revert x;decide
theorem Xbo:∀(l:List (List UInt8)) (sep:List UInt8),(∀ x∈l,Yg x)->Yg sep->Yg (Lib.join l sep)
 | [],_,_,_=>by rw [Lib.join_nil];exact Yy
 | x :: l,sep,h,hs=>by
  rw [Lib.join_cons];refine(h x (by simp)).app ?_;unfold Lib.joinTail;intro b hb;obtain⟨y,hy,hby⟩:=List.mem_flatten.1 hb;obtain⟨z,hz,rfl⟩:=List.mem_map.1 hy;exact(hs.app (h z (List.mem_cons_of_mem _ hz))) b hby
theorem Xiz (r:X7) (h:Yg r.pth):Yg (recStr r):=by
 refine Xbo _ _ (fun x hx=>?_) (Yg.cons (by decide) Yy);simp only [Zf,List.mem_cons,List.not_mem_nil,or_false] at hx
 rcases hx with rfl | rfl | rfl | rfl | rfl | rfl | rfl | rfl
 ·exact Xbh _
 ·exact Xe2 _ _
 ·exact Xe2 _ _
 ·exact Xhk _
 ·exact Zm _
 ·exact Xbh _
 ·exact Zm _
 exact h
theorem Uc (rs:List X7) (h:∀ r∈rs,Yg r.pth):Yg (recTxt rs):=by
 refine Xbo _ _ (fun x hx=>?_) (Yg.cons (by decide) Yy);obtain⟨r,hr,rfl⟩:=List.mem_map.1 hx;exact Xiz r (h r hr)
def recLine (rs:List X7):List UInt8:=lineL (recTxt rs)
theorem Uo (rs:List X7) (h:∀ r∈rs,r.Ok) (hn:rs.length<=1000):(recLine rs).length<=1201*rs.length+43:=by
 have h1:=Y1 rs h;have h2:=Mw (recTxt rs) (by omega);unfold recLine;omega
theorem Tryz.jAdd (jb db md mn no g cap:Nat) (rs:List X7) (fd fn:Option (Nat × List UInt8)) (l f:Int) (w:World) (hno:no<18446744073709551616) (hJ:BoxN w jb 212 #[Xw db,.int .u64 (no:Int),.nilIface]) (hD:Xk (fileN no) w db md mn fd fn (.slice none 0 0) l f) (hl:l<0) (hl1 : -999999990<=l) (hf:f<0) (hf1 : -999999990<=f)
  (hld:(Jn fd).length<=900000000000) (hln:(Jn fn).length<=900000000000) (hR:Yo w g rs) (hg:g<w.heap.size) (hok:∀ r∈rs,r.Ok) (hasc:∀ r∈rs,Yg r.pth) (hn:rs.length<=1000) (hE:Env w) (h6:6<=w.heap.size) :
  Calls prog 120 #[.pointer (some ⟨jb,0,none⟩),.slice (some ⟨g,0,none⟩) rs.length cap] w fun e w'=>e=.returned .nilIface/\∃ b b',w.heap.size<=b/\w.heap.size<=b'/\Xk (fileN no) w' db md mn (some (b,Jn fd++recLine rs)) (some (b',Jn fn++recLine rs)) (.slice none 0 0) (l-2) (f-2)/\Spares [db,md,mn] w w':=by
 have hT:=Xik g cap rs w hR hg hok hn hE h6;have hlen:=Y1 rs hok;have hll:=Uo rs hok hn
 have hLn:=fun W (hb:Below w.heap.size w W)=>Xl2 (recTxt rs) W (hE.below hb h6) (Nat.le_trans h6 hb.size) (by omega) (Uc rs hasc)
 have hA:=fun W (hb:Below w.heap.size w W)=>Xnt jb db md mn no .nilIface fd fn l f (recLine rs) W hno (hE.below hb h6) (Nat.le_trans h6 hb.size) (hJ.below hb hJ.lt) (hD.below hb) hl hl1 hf hf1 (by omega) (by omega)
 change ∀ W,Below w.heap.size w W->Calls prog 144 _ W (fun e w'=>e=.returned (.string ⟨(recLine rs).toArray⟩)/\_) at hLn
 have hjn0:jb ∉ [db,md,mn]:=by
  obtain⟨n1,-,hM1⟩:=hD.nm;obtain⟨n2,-,hM2⟩:=hD.dm;have h1:=hJ.ne hD.box (by decide);have h2:=BoxN.Xl hJ hM1;have h3:=BoxN.Xl hJ hM2;simp;exact⟨h1,Ne.symm h3,Ne.symm h2⟩
 have c0:=hJ.cell 2 (v:=.nilIface) rfl;have lJ:=hJ.lt;generalize rs.length=n at *;generalize recLine rs=line at *;generalize recTxt rs=txt at *;go_enter func120,ntmps120
 go_wp2_with (first
  | (go_at_call 145;refine hT.mono ?_;rintro e w1 ⟨rfl,hb1⟩)
  | (go_at_call 144;refine(hLn _ hb1).mono ?_;rintro e w2 ⟨rfl,hb2⟩;have hb3:=hb1.trans (hb2.mono hb1.size))
  | (go_at_call 163;refine(hA _ hb3).mono ?_;rintro e w4 ⟨rfl,b,b',hb,hb',hD4,hS4⟩;have hz4:=hb3.size;have hjn:jb ∉ [db,md,mn]:=hjn0;have bJ4:=hS4.box (hJ.below hb3 hJ.lt) hjn;have c4:=bJ4.cell 2 (v:=.nilIface) rfl;have f4:=bJ4.frozen 2))
 have hjn':=hjn;simp at hjn';have hS5:Spares [jb] w4 (w4.setCell ⟨jb,2,none⟩ .nilIface):=(Spares.of_below (Below.refl _ w4)).set (by simp) _ _;have hD5:=hD4.spared hS5 (by simp;omega) (by simp;omega) (by simp;omega) (fun q hq=>by cases hq;simp;omega) (fun q hq=>by cases hq;simp;omega);have bJ5:=bJ4.set 2 .nilIface
 have hS6:Spares [db,md,mn] w (w4.setCell ⟨jb,2,none⟩ .nilIface):=by
  have h1:Spares [db,md,mn] w w4:=(Spares.of_below hb3).trans hS4;refine⟨h1.os,h1.tape,h1.output,by simpa using h1.size,fun k hk hnk=>?_⟩
  by_cases e:k=jb
  ·subst e
   exact(show _=some (Obj.cells #[Xw db,.int .u64 (no:Int),.nilIface] 212 (0,0)) from bJ5).trans (show w.heap[k]? = some (Obj.cells #[Xw db,.int .u64 (no:Int),.nilIface] 212 (0,0)) from hJ).symm
  rw [Yh _ _ _ _ _ e];exact h1.block k hk hnk
 go_ret;exact⟨rfl,b,b',by omega,by omega,hD5,hS6⟩
end Go.Proofs
namespace Go.Proofs
open Go.RowKit Go.Sort Go.Lib Go.Shelf
theorem Xla {a b:Bool} (h:a=b):Ending.returned (.bool a)=.returned (.bool b):=by rw [h]
def nameR (r:Int):Bool:=decide ((97<=r/\r<=122)\/(48<=r/\r<=57)\/r=45)
theorem Tryz.Xom (r:Int) (w:World):Calls prog 141 #[.int .i32 r] w fun e w'=>e=.returned (.bool (nameR r))/\w'=w:=by
 have hr:Hid (nameR r=decide ((97<=r/\r<=122)\/(48<=r/\r<=57)\/r=45)):=Xb rfl;generalize nameR r=b at *;go_enter func141,ntmps141;go_wp2
 all_goals
  go_ret;refine⟨?_,rfl⟩;rw [Xa hr];refine Xla ?_;rw [Bool.eq_iff_iff];simp
  try omega
theorem Tryz.valid (s:List UInt8) (w:World) (hs:s.length<=1000000) :
  Calls prog 92 #[.string ⟨s.toArray⟩] w fun e w'=>e=.returned (.bool (pathI s))/\Below w.heap.size w w':=by
 have hI:=fun r W=>Xom r W
 by_cases h24:24<s.length
 ·have hr:Hid (pathI s=false):=Xb (by simp [pathI];omega)
  go_enter func92,ntmps92;go_wp2;go_ret;exact⟨by rw [Xa hr];rfl,Below.refl _ _⟩
 go_enter func92,ntmps92;go_wp2
 go_loopw [3] (fun pv wr=>∃(k:Nat) (b:Bool) (z:Int),k<=s.length/\wr=w.iter ⟨s.toArray⟩ k/\pv=.int .i32 z/\Hid ((z=47↔b=false)/\(s.take k).foldl Y7 (some false)=some b)) (fun _ wr=>s.length-wr.iterPos w.heap.size)
 case atStart=>exact⟨0,false,47,Nat.zero_le _,rfl,rfl,Xb ⟨by simp,rfl⟩⟩
 case round =>
  obtain⟨k,b,z,hk,rfl,rfl,hst⟩:=hrel
  by_cases hkl:k<s.length
  ·obtain⟨c,hc⟩:∃ c,s[k]? = some c:=⟨s[k],by simp [hkl]⟩
   have hck:((⟨s.toArray⟩:ByteArray)[k]'(by simpa [ByteArray.size] using hkl))=c:=by
    have h1:s[k]'hkl=c:=by simpa [hkl] using hc
    rw [<- h1];rfl
   have HP:=Xb (fun o=>Xge (o:=o) hc)
   have hks:k<(⟨s.toArray⟩:ByteArray).size:=by simpa [ByteArray.size] using hkl
   by_cases h128:c.toNat<128
   ·have hnx:=fun ty=>run_next_ascii (P:=prog) w ⟨s.toArray⟩ k ty hks (by rw [hck];exact h128)
    simp only [hck] at hnx
    obtain⟨r,hr⟩:∃ r:Int,(c.toNat:Int)=r:=⟨_,rfl⟩
    rw [hr] at hnx
    have hR:=fun W=>hI r W
    have Hr:=Xb hr;clear hr hI
    by_cases h47:r=47
    ·subst h47
     by_cases hz:z=47
     ·subst hz
      have hres:Hid (pathI s=false):=Xb (by
       obtain⟨e1,e2⟩:=Xa hst;have hb:b=false:=e1.1 rfl;refine Mu (k:=k+1) ?_;rw [Xa HP _ e2,Xdc (by have:=Xa Hr;omega),hb]
       rfl)
      clear hst
      go_wp2_with (go_at_call 141;fail)
      go_ret;exact⟨by rw [Xa hres];rfl,(Below.refl _ w).alloc (Nat.le_refl _) _⟩
     have hz':(z==47)=false:=by simpa using hz
     have hst':Hid ((47:Int)=47↔false=false):=Xb (by simp)
     have hnew:Hid ((s.take (k+1)).foldl Y7 (some false)=some false):=Xb (by
      obtain⟨e1,e2⟩:=Xa hst
      have hb:b=true:=by cases b;exact absurd (e1.2 rfl) hz;rfl
      rw [Xa HP _ e2,Xdc (by have:=Xa Hr;omega),hb]
      rfl)
     clear hst hz
     go_wp2_with (go_at_call 141;fail)
     go_roundw
     case rel=>exact⟨k+1,false,47,by omega,rfl,rfl,Xb ⟨by simp,Xa hnew⟩⟩
     case measure=>simp;omega
    have h47':(r==47)=false:=by simpa using h47
    obtain⟨nb,hnb⟩:∃ nb,nameR r=nb:=⟨_,rfl⟩
    rw [hnb] at hR;have Hnb:=Xb hnb;have H47:=Xb h47;clear hnb h47;cases nb
    ·have hres:Hid (pathI s=false):=Xb (by
      obtain⟨e1,e2⟩:=Xa hst;refine Mu (k:=k+1) ?_;rw [Xa HP _ e2];have h1:=Xa Hnb;have h2:=Xa H47;have h3:=Xa Hr;simp only [nameR,decide_eq_false_iff_not] at h1
      exact Xdr (by omega))
     by_cases hz:z=47
     focus
      subst hz;clear hst
     rotate_left
     focus
      have hz':(z==47)=false:=by simpa using hz
      clear hst hz
     rotate_left
     all_goals
      go_wp2_with (go_at_call 141;refine(hR _).mono ?_;rintro e w1 ⟨rfl,rfl⟩)
      go_ret;exact⟨by rw [Xa hres];rfl,(Below.refl _ w).alloc (Nat.le_refl _) _⟩
    have hnew:Hid ((r=47↔true=false)/\(s.take (k+1)).foldl Y7 (some false)=some true):=Xb (by
     obtain⟨e1,e2⟩:=Xa hst;have h1:=Xa Hnb;have h2:=Xa H47;have h3:=Xa Hr;simp only [nameR,decide_eq_true_eq] at h1
     exact⟨by simp [h2],by rw [Xa HP _ e2];exact Xg7 (by omega)⟩)
    by_cases hz:z=47
    focus
     subst hz;clear hst
    rotate_left
    focus
     have hz':(z==47)=false:=by simpa using hz
     clear hst hz
    rotate_left
    all_goals
     go_wp2_with (go_at_call 141;refine(hR _).mono ?_;rintro e w1 ⟨rfl,rfl⟩)
     go_roundw
     case rel=>exact⟨k+1,true,r,by omega,rfl,rfl,hnew⟩
     case measure=>simp;omega
   have hnx:=fun ty=>run_next_any (P:=prog) w ⟨s.toArray⟩ k ty hks
   obtain⟨hd,-⟩:=decode_high ⟨s.toArray⟩ k hks (by rw [hck];omega)
   obtain⟨r,hr⟩:∃ r:Int,((Utf8.decode ⟨s.toArray⟩ k).1:Int)=r:=⟨_,rfl⟩
   rw [hr] at hnx
   have hr128:128<=r:=by omega
   have hR:=fun W=>hI r W
   have hnb:nameR r=false:=by simp only [nameR,decide_eq_false_iff_not];omega
   rw [hnb] at hR
   have h47':(r==47)=false:=by simp;omega
   have hres:Hid (pathI s=false):=Xb (by
    obtain⟨e1,e2⟩:=Xa hst;refine Mu (k:=k+1) ?_;rw [Xa HP _ e2]
    exact Xdr (by omega))
   generalize (Utf8.decode ⟨s.toArray⟩ k).2=wd at *
   have h47p:¬ r=47:=by omega
   clear hr hI hd hnb hr128
   by_cases hz:z=47
   focus
    subst hz;clear hst
   rotate_left
   focus
    have hz':(z==47)=false:=by simpa using hz
    clear hst hz
   rotate_left
   all_goals
    go_wp2_with (go_at_call 141;refine(hR _).mono ?_;rintro e w1 ⟨rfl,rfl⟩)
    go_ret;exact⟨by rw [Xa hres];rfl,(Below.refl _ w).alloc (Nat.le_refl _) _⟩
  obtain rfl:k=s.length:=by omega
  have hnx:=fun ty=>run_next_end (P:=prog) w ⟨s.toArray⟩ s.length ty (by simp [ByteArray.size])
  have hres:Hid (pathI s=(z != 47)):=Xb (by
   obtain⟨e1,e2⟩:=Xa hst;rw [List.take_length] at e2
   have h24':s.length<=24:=by omega
   cases b
   ·rw [e1.2 rfl];simp [pathI,e2]
   have hz:z≠47:=fun e=>by have:=e1.1 e;cases this
   simp [pathI,e2,h24',hz])
  clear hst;go_wp2;go_ret;exact⟨by rw [Xa hres];rfl,(Below.refl _ w).alloc (Nat.le_refl _) _⟩
end Go.Proofs
