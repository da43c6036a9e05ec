import Derived.Test.YtjbekgjdempbiaaGreatDoorJDiskB
import Derived.Laws.IdiomStrings
set_option maxRecDepth 100000
set_option maxHeartbeats 8000000
namespace Go.Proofs
open Go.RowKit Go.Sort Go.Maps Go.WideMaps
def BytesAt (W:World) (k:Nat) (data:List UInt8):Prop:=∀ j (hj:j<data.length),W.cell? ⟨k,j,none⟩=some (.int .u8 (data[j].toNat:Int))∧W.frozen? ⟨k,j,none⟩=false
theorem cell_of_block {W W':World} {k:Nat} (h:W'.heap[k]? = W.heap[k]?) (j:Nat):W'.cell? ⟨k,j,none⟩=W.cell? ⟨k,j,none⟩∧W'.frozen? ⟨k,j,none⟩=W.frozen? ⟨k,j,none⟩:=by
 simp [World.cell?,World.frozen?,h]
theorem Tryz.dPut (db md mn k cap:Nat) (fd fn:Option (Nat × List UInt8)) (l f:Int) (data:List UInt8) (w:World) (hD:DiskAt w db md mn fd fn (.slice none 0 0) l f) (hl:l<0) (hl1 : -1000000000≤l) (hf:f<0) (hf1 : -1000000000≤f) (hlen:(oldS fn).length+data.length≤1000000000000)
  (hK:BytesAt w k data) (hk:k<w.heap.size) (n1:db≠k) (n2:md≠k) (n3:mn≠k) (n4:∀ q,fd=some q→q.1≠k) :
  Calls prog 311 #[.pointer (some ⟨db,0,none⟩),.int .i64 2,.string ⟨#[106,111,117,114,110,97,108]⟩,.slice (some ⟨k,0,none⟩) data.length cap] w fun e w'=>e=.returned .nilIface∧∃ b g cap,w.heap.size≤b∧w.heap.size≤g∧DiskAt w' db md mn fd (some (b,oldS fn++data)) (.slice (some ⟨g,0,none⟩) 1 cap) (l-1) (f-1) ∧
   w'.ownsRow w.heap.size 172 3 (.slice (some ⟨g,0,none⟩) 1 cap) 1 [.int .i64 2,.string ⟨#[106,111,117,114,110,97,108]⟩,.string ⟨data.toArray⟩]∧Spares [db,mn,k] w w':=by
 have hT:=dTell db md mn fd fn l f data w hD hl hl1 hf hf1 hlen
 have hcv:(convert 267 9 (.slice (some ⟨k,0,none⟩) data.length cap)).run prog w=.ok (.string ⟨data.toArray⟩) w:=
  run_convert_bytes_back w 267 9 5 ⟨k,0,none⟩ cap data underlying267 underlying5 underlying9 (fun j hj=>by
   have:=(hK j hj).1
   by_cases h0:j=0
   ·subst h0;simpa [Addr.add] using this
   ·simpa [Addr.add,h0] using this)
 have hdl:data.length≤1000000000000:=by omega
 obtain⟨n,hn⟩:∃ n,data.length=n:=⟨_,rfl⟩
 rw [hn] at hcv hdl ⊢;have Hn:=hid_intro hn;have Hlen:=hid_intro hlen;clear hn hlen;go_enter func311,ntmps311
 go_wp2_with (go_at_call 313;refine hT.mono ?_;rintro e w1 ⟨rfl,b,g,cap1,hb,hg,hD1,hR1,hS1⟩)
 have hK1:∀ j,j<n→∃ v,w1.cell? ⟨k,j,none⟩=some v∧w1.frozen? ⟨k,j,none⟩=false:=fun j hj=>by
  obtain⟨e1,e2⟩:=cell_of_block (hS1.block k hk (by simp;omega)) j;obtain⟨e3,e4⟩:=hK j (by have:=hid_elim Hn;omega);exact⟨_,e1.trans e3,e2.trans e4⟩
 clear hT hcv
 go_loopw [20] (fun i wr=>∃ q:Nat,q≤n∧i=.int .i64 q∧Spares [k] w1 wr∧∀ j,j<n→∃ v,wr.cell? ⟨k,j,none⟩=some v∧wr.frozen? ⟨k,j,none⟩=false) (fun i _=>n-(intOf i).toNat)
 case atStart=>exact⟨0,Nat.zero_le _,rfl,Spares.of_below (Below.refl _ _),hK1⟩
 case round =>
  obtain⟨q,hq,rfl,hSq,hKq⟩:=hrel
  by_cases hqn:q<n
  ·obtain⟨v,hv,hvf⟩:=hKq q hqn
   have HK:=hid_intro hKq;clear hKq;go_wp2
   go_roundw
   case rel =>
    refine⟨q+1,by omega,rfl,hSq.set (by simp) _ _,fun j hj=>?_⟩;obtain⟨u,hu,huf⟩:=hid_elim HK j hj;obtain⟨y,hy⟩:=cell?_setCell_some (w:=wr) (p:=⟨k,q,none⟩) (x:=.int .u8 33) hu;exact⟨y,hy,by rw [World.frozen?_setCell];exact huf⟩
   case measure=>simp [intOf];omega
  ·obtain rfl:q=n:=by omega
   have hD2:=hD1.spared hSq (by simpa using n1) (by simpa using n2) (by simpa using n3) (fun z hz=>by simpa using n4 z hz) (fun z hz=>by cases hz;simp;omega);have hR2:=hSq.row hR1 (by simp;omega);have hS2:Spares [db,mn,k] w wr:=(hS1.mono (by simp)).trans (hSq.mono (by simp));clear hKq;go_wp2;go_ret;exact⟨rfl,b,g,cap1,hb,hg,hD2,hR2,hS2⟩
theorem Tryz.dAppend (db md mn k cap:Nat) (fd fn:Option (Nat × List UInt8)) (l f:Int) (data:List UInt8) (w:World) (hD:DiskAt w db md mn fd fn (.slice none 0 0) l f) (hl:l<0) (hl1 : -1000000000≤l) (hf:f<0) (hf1 : -1000000000≤f) (hlen:(oldS fn).length+data.length≤1000000000000)
  (hK:BytesAt w k data) (hk:k<w.heap.size) (n1:db≠k) (n2:md≠k) (n3:mn≠k) (n4:∀ q,fd=some q→q.1≠k) :
  Calls prog 305 #[.pointer (some ⟨db,0,none⟩),.string ⟨#[106,111,117,114,110,97,108]⟩,.slice (some ⟨k,0,none⟩) data.length cap] w fun e w'=>e=.returned .nilIface∧∃ b g cap,w.heap.size≤b∧w.heap.size≤g∧DiskAt w' db md mn fd (some (b,oldS fn++data)) (.slice (some ⟨g,0,none⟩) 1 cap) (l-1) (f-1) ∧
   w'.ownsRow w.heap.size 172 3 (.slice (some ⟨g,0,none⟩) 1 cap) 1 [.int .i64 2,.string ⟨#[106,111,117,114,110,97,108]⟩,.string ⟨data.toArray⟩]∧Spares [db,mn,k] w w':=by
 have hP:=dPut db md mn k cap fd fn l f data w hD hl hl1 hf hf1 hlen hK hk n1 n2 n3 n4;generalize data.length=n at hP ⊢;go_enter func305,ntmps305
 go_wp2_with (go_at_call 311;refine hP.mono ?_;rintro e w1 ⟨rfl,hR⟩)
 go_ret;exact⟨rfl,hR⟩
theorem row_cells {B g cap:Nat} {e:TypeId} {W:World} {a b c:Value} (h:W.ownsRow B e 3 (.slice (some ⟨g,0,none⟩) 1 cap) 1 [a,b,c]):W.cell? ⟨g,0,none⟩=some a∧W.cell? ⟨g,1,none⟩=some b∧W.cell? ⟨g,2,none⟩=some c∧g<W.heap.size:=by
 obtain⟨-,⟨e1,-⟩ | ⟨g',cap',cur,e1,e2,e3,e4⟩⟩:=h
 ·cases e1
 ·cases e1
  have t:∀ j,j<3→cur[j]? = [a,b,c][j]?:=fun j hj=>by
   have h1:=congrArg (fun l:List Value=>l[j]?) e4.2.2.2;simp only [List.getElem?_take,if_pos (show j<1*3 by omega)] at h1;rw [← h1];simp
  have s:∀ j,W.cell? ⟨g,j,none⟩=cur[j]?:=fun j=>by simp [World.cell?,e3]
  exact⟨(s 0).trans (t 0 (by omega)),(s 1).trans (t 1 (by omega)),(s 2).trans (t 2 (by omega)),(Array.getElem?_eq_some_iff.1 e3).1⟩
theorem Tryz.dSync (db md mn g cap B:Nat) (fd fn:Option (Nat × List UInt8)) (l f:Int) (data:List UInt8) (w:World) (hD:DiskAt w db md mn fd fn (.slice (some ⟨g,0,none⟩) 1 cap) l f) (hl:l<0) (hl1 : -1000000000≤l) (hf:f<0) (hf1 : -1000000000≤f) (hlen:(oldS fd).length+data.length≤1000000000000)
  (hR:w.ownsRow B 172 3 (.slice (some ⟨g,0,none⟩) 1 cap) 1 [.int .i64 2,.string ⟨#[106,111,117,114,110,97,108]⟩,.string ⟨data.toArray⟩]) (hg1:db≠g) :
  Calls prog 309 #[.pointer (some ⟨db,0,none⟩)] w fun e w'=>e=.returned .nilIface∧∃ b,w.heap.size≤b∧DiskAt w' db md mn (some (b,oldS fd++data)) fn (.slice none 0 0) (l-1) (f-1)∧Spares [db,md] w w':=by
 have hW:=dWrites' db _ _ _ l f _ hD.box hl hl1 hf hf1;obtain⟨-,-,-,lg⟩:=row_cells hR;go_enter func309,ntmps309
 go_wp2_with (go_at_call 314;refine hW.mono ?_;rintro e W1 ⟨rfl,bD1,hS1⟩;have d2:=bD1.cell 2 (v:=.slice (some ⟨g,0,none⟩) 1 cap) rfl)
 have hD1:=hD.cells hS1 bD1;obtain⟨o0,o1,o2,lg1⟩:=row_cells (hS1.row hR (by simpa using Ne.symm hg1));have d0:=bD1.cell 0 (v:=.map (some md)) rfl;have f2:=bD1.frozen 2;have lD:=hD1.lt;obtain⟨nn,hnn,hM⟩:=hD1.dm;have hsz:=hS1.size;clear hW;have hDo:=dDo md nn fd data (W1.alloc (.cells #[.int .i64 2,.string ⟨#[106,111,117,114,110,97,108]⟩,.string ⟨data.toArray⟩] 172)).drew (hM.alloc _) hnn (fun p hp=>(hD1.sd p hp).alloc _) hlen;have Hsz:=hid_intro hsz;have Hlen:=hid_intro hlen;clear hlen hsz;refine wp_loop_rounds 2 ?_;rw [rounds_succ];go_wp2
 go_region_with (go_at_call 98;refine hDo.mono ?_;rintro e W2 ⟨rfl,b,hb,hM2,bS2,hS2⟩)
 all_goals
  have hsz:=hid_elim Hsz
  have hbb:w.heap.size≤b:=by
   have:(W1.alloc (.cells #[.int .i64 2,.string ⟨#[106,111,117,114,110,97,108]⟩,.string ⟨data.toArray⟩] 172)).drew.heap.size=W1.heap.size+1:=by simp
   omega
  have bD2:=hS2.box (W:=(W1.alloc (.cells #[.int .i64 2,.string ⟨#[106,111,117,114,110,97,108]⟩,.string ⟨data.toArray⟩] 172)).drew) (bD1.alloc _) (by simpa using Ne.symm hD1.nes.1);obtain⟨n1,hn1,hMn⟩:=hD1.nm;have hMn2:=hS2.map (W:=(W1.alloc (.cells #[.int .i64 2,.string ⟨#[106,111,117,114,110,97,108]⟩,.string ⟨data.toArray⟩] 172)).drew) (hMn.alloc _) (by simpa using Ne.symm hD1.ne)
  have hsn2:∀ q,fn=some q→BoxN W2 q.1 9 #[.string ⟨q.2.toArray⟩]:=fun q hq=>hS2.box (W:=(W1.alloc (.cells #[.int .i64 2,.string ⟨#[106,111,117,114,110,97,108]⟩,.string ⟨data.toArray⟩] 172)).drew) ((hD1.sn q hq).alloc _) (by have:=BoxN.ne_map' (hD1.sn q hq) hM;simpa using Ne.symm this)
  have hs2:Spares [db,md] w W2:=(((hS1.mono (bs':=[db,md]) (by simp)).alloc _).drew).trans (hS2.mono (bs':=[db,md]) (by simp))
  have hD2:DiskAt W2 db md mn (some (b,oldS fd++data)) fn (.slice (some ⟨g,0,none⟩) 1 cap) (l-1) (f-1):=⟨bD2,⟨1,by omega,hM2⟩,⟨n1,hn1,hMn2⟩,fun q hq=>by cases hq;exact bS2,hsn2,hD1.ne⟩
  have e2:=bD2.cell 2 (v:=.slice (some ⟨g,0,none⟩) 1 cap) rfl;have e3:=bD2.frozen 2;have hD3:=hD2.cells ((Spares.of_below (Below.refl _ W2)).set (bs:=[db]) (by simp) 2 (.slice none 0 0)) (bD2.set 2 _);have hs3:=hs2.set (b:=db) (by simp) 2 (.slice none 0 0);have HH:=hid_intro (And.intro hbb (And.intro hD3 hs3));clear hsz hbb hD3 hs3 hDo hM hM2 bS2 hS2 hMn hMn2 hsn2 hs2 hD2 bD2 d0 d2 o0 o1 o2 f2;go_wp2
  try rw [rounds_succ]
  go_wp2;go_ret;exact⟨rfl,b,(hid_elim HH).1,(hid_elim HH).2.1,(hid_elim HH).2.2⟩
end Go.Proofs
