import Derived.Test.YtjbekgjdempbiaaGreatDoorJTelA
import Derived.Test.YtjbekgjdempbiaaGreatDoorJKtD
import Derived.Test.YtjbekgjdempbiaaGreatDoorJKpB
import Derived.Test.YtjbekgjdempbiaaGreatDoorJAskVT
set_option maxRecDepth 100000
set_option maxHeartbeats 8000000
namespace Go.Proofs
open Go.RowKit Go.Sort Go.Lib Go.Shelf Go.Maps Go.WideMaps
theorem Xem {bs bs':List Nat} {W W' W'':World} (h:Below W.heap.size W W') (h':Spares bs' W' W'') (hg:∀ b∈bs',b∈bs\/W.heap.size<=b):Spares bs W W'':=
 ⟨h'.os.trans h.os,h'.tape.trans h.tape,h'.output.trans h.output,Nat.le_trans h.size h'.size,fun k hk hn=>(h'.block k (Nat.lt_of_lt_of_le hk h.size) (fun e=>by
  rcases hg k e with e | e
  ·exact hn e
  omega)).trans (h.block k hk)⟩
theorem Xcd {bs:List Nat} {W W' W'':World} {b:Nat} (h:Spares bs W W') (hg:W'.grownBy W'' (some b)) (hb:W.heap.size<=b):Spares bs W W'':=
 ⟨hg.os.trans h.os,hg.tape.trans h.tape,hg.output.trans h.output,Nat.le_trans h.size hg.size,fun k hk hn=>(hg.block k (Nat.lt_of_lt_of_le hk h.size) (fun e=>by injection e with e;omega)).trans (h.block k hk hn)⟩
theorem Tryz.Yo.reJ {W:World} {vb mt ml:Nat} {vx:VX} {tm:Int} {tn ln:Nat} {tks:List Xd} {lks:List Xc} (h:Yo W vb mt ml vx tm tn ln tks lks) (j:Value):Yo (W.setCell ⟨vb,0,none⟩ j) vb mt ml { vx with jn:=j } tm tn ln tks lks:=by
 have hS:Spares [vb] W (W.setCell ⟨vb,0,none⟩ j):=(Spares.of_below (Below.refl _ W)).set (by simp) _ _;have bV:BoxN (W.setCell ⟨vb,0,none⟩ j) vb 126 (Y8 { vx with jn:=j } tm mt ml tn ln):=h.va.v.set 0 j;obtain⟨n1,k1,m1⟩:=h.va.held.mapT;obtain⟨n2,k2,m2⟩:=h.va.held.mapL;have hb6:=hS.below (B:=6) h.va.six (fun b hb=>by rw [List.mem_singleton.1 hb];have:=h.v9;omega);exact⟨⟨bV,⟨⟨n1,k1,hS.map m1 (by simpa using h.nes.1)⟩,⟨n2,k2,hS.map m2 (by simpa using h.nes.2)⟩⟩,h.va.ok,h.va.env.below hb6 (Nat.le_refl _),Nat.le_trans h.va.six hS.size⟩,h.nt,h.nl,h.t0,h.t1,h.okT,h.okL,h.mne,h.v9,h.m9,h.l9⟩
theorem Xmq:∀(ls:List Ye) (tm:Int),tm<=tmL tm ls/\∀ l∈ls,l.tm<=tmL tm ls
 | [],_=>⟨Int.le_refl _,fun _ h=>by cases h⟩
 | a :: ls,tm=>by
  obtain⟨h1,h2⟩:=Xmq ls (max tm a.tm);have e:tmL tm (a :: ls)=tmL (max tm a.tm) ls:=rfl;rw [e];refine⟨by omega,fun l hl=>?_⟩
  rcases List.mem_cons.1 hl with rfl | hl
  ·omega
  exact h2 l hl
theorem Tryz.Xq4 (db md n b:Nat) (m2 p l f dn:Value) (w:World) (hD:BoxN w db 100 #[.map (some md),m2,p,l,f,dn]) (hown:w.ownsMap prog 9 Yd md n (Zp (some b))) :
  Calls prog 56 #[.pointer (some ⟨db,0,none⟩)] w fun e w'=>e=.returned (.tuple #[])/\∃ b2,w.heap.size<=b2/\w'.ownsMap prog 9 Yd b2 1 (Zp (some b))/\BoxN w' db 100 #[.map (some md),.map (some b2),.slice none 0 0,l,f,.bool false]/\Spares [db] w w':=by
 have hmk:∀ W,(Instr.makeMap 97 none).run prog W=.ok (.map (some W.heap.size)) (W.alloc (.map #[] 0)):=fun W=>run_makeMap _ W
 have d0:=hD.cell 0 (v:=.map (some md)) rfl;have d1:=hD.cell 1 (v:=m2) rfl;have f1:=hD.frozen 1;have lD:=hD.lt;have lM:=hown.lt;go_enter func56,ntmps56;have hne:=hD.ne_map hown;have hown1:=(hown.setCell (a:=⟨db,1,none⟩) hne (.map (some w.heap.size))).alloc (.map #[] 0)
 go_wp2_with (first
  | (at_range;refine wpList_range_own _ rfl _ 97 rfl 9 101 (string_keyed underlying9) underlying97 _ md n _ rfl hown1 ?_;intro w1 hrg hg1 hs1)
  | go_in)
 have bD1:BoxN w1 db 100 #[.map (some md),.map (some w.heap.size),p,l,f,dn]:=((hD.set 1 (.map (some w.heap.size))).alloc (.map #[] 0)).kept hg1 (by simp);have hMn0:=World.ownsMap_made (w.setCell ⟨db,1,none⟩ (.map (some w.heap.size))) prog 9 Yd;have hMn1:=hMn0.kept hg1 (by simp);rw [World.size_setCell] at hMn1;have hS1:Spares [db] w w1:=(((Spares.of_below (Below.refl _ w)).set (by simp) 1 (.map (some w.heap.size))).alloc (.map #[] 0)).trans ⟨hg1.os,hg1.tape,hg1.output,hg1.size,fun k hk _=>hg1.block k hk (by simp)⟩
 have hs1':w1.heap.size=w.heap.size+1+1:=by simpa using hs1
 have HS:=Xb hS1
 have hrr:((w.setCell ⟨db,1,none⟩ (.map (some w.heap.size))).alloc (.map #[] 0)).heap.size=w.heap.size+1:=by simp
 rw [hrr] at hrg ⊢;clear hS1 hg1 hs1 hown1 hown d0 d1 f1 hMn0;refine wp_loop_rounds 2 ?_;rw [rounds_succ]
 go_wp2_with (first
  | (at_next;refine wpList_next_ranges _ rfl _ rfl 9 (string_keyed underlying9) Yd Value.string (fun v:Value=>v) (fun key kl hk=>by obtain⟨x,hx,_⟩:=string_of_keyOf underlying9 hk;exact⟨x,hx⟩) (fun v _ _=>⟨v,rfl⟩) md _ n _ _ _ rfl hrg ?_ ?_)
  | go_in)
 ·intro _ h0
  have h1:=h0 (.string Jw);rw [Xai] at h1;cases h1
 intro x c kl y yp w' cnt' hk hl hv hat hrg2 hlt hgr hsz hen;obtain rfl:=Xat hl;obtain⟨x',hx,hx2,-⟩:=string_of_keyOf underlying9 hk
 obtain rfl:x=x':=by cases hx;rfl
 have hxj:x=⟨#[106,111,117,114,110,97,108]⟩:=by
  have h3:Jw=x.data.toList:=by injection hx2
  apply ByteArray.ext;rw [<- Array.toArray_toList (xs:=x.data),<- h3];rfl
 subst hxj
 have hcb:c=Xbz b:=by
  have h4:=hat (.lit (.bool true));rw [Xew] at h4;simp only at h4
  have h5:Yd c=some (.held (Xbz b),yp):=by rw [h4];exact hv
  exact Jz h5
 subst hcb;have bD2:=bD1.kept hgr (by intro e;injection e with e;omega);have hMn2:=hMn1.kept hgr (by intro e;injection e with e;omega);obtain⟨w3,hrun,hM3,hg3⟩:=Xml (o:=none) hMn2 (by omega) b;have bD3:=bD2.kept hg3 (by intro e;injection e with e;omega);have hrg3:=hrg2.kept hg3 (by intro e;injection e with e;omega) (by intro e;injection e with e;omega);have hS3:Spares [db] w w3:=Xcd (Xcd (Xa HS) hgr (by omega)) hg3 (by omega);unfold Xbz at hrun hen;have e1:=bD2.cell 1 (v:=.map (some w.heap.size)) rfl;clear hk hl hv hat hrg hrg2 hgr hlt hx hx2 hMn1 hMn2 hg3 HS;go_wp2;have k2:=bD3.cell 2 (v:=p) rfl;have k5:=bD3.cell 5 (v:=dn) rfl;have k2f:=bD3.frozen 2;have k5f:=bD3.frozen 5;clear hen hrun e1;rw [rounds_succ]
 go_wp2_with (first
  | (at_next;refine wpList_next_ranges _ rfl _ rfl 9 (string_keyed underlying9) Yd (fun v:Value=>v) (fun v:Value=>v) (fun v _ _=>⟨v,rfl⟩) (fun v _ _=>⟨v,rfl⟩) md _ n _ _ _ rfl hrg3 ?_ ?_)
  | go_in)
 ·intro _ _
  clear hrg3;go_wp2
  go_end0
  have hnn:=bD3.ne_map hM3;exact⟨rfl,_,Nat.le_refl _,(hM3.setCell (a:=⟨db,2,none⟩) hnn _).setCell (a:=⟨db,5,none⟩) hnn _,(bD3.set 2 _).set 5 _,(hS3.set (by simp) _ _).set (by simp) _ _⟩
 intro x c kl y yp w'' cnt'' _ h2 h3;obtain rfl:=Xat h2;exact absurd h3 (by decide)
theorem Tryz.Xl4 (c:Int) (h0 : -9223372036854775808<=c) (h1:c<=9223372036854775807) (w:World):Calls prog 97 #[.int .i64 c,.int .i64 1] w fun e w'=>(∃ z:Int,e=.returned (.int .i64 z))/\w'=w:=by
 by_cases hc:c<0
 ·go_enter func97,ntmps97
  go_wp2;go_ret;exact⟨⟨_,rfl⟩,rfl⟩
 go_enter func97,ntmps97;go_wp2;go_ret;exact⟨⟨_,rfl⟩,rfl⟩
theorem Tryz.Xoh (db md mn b:Nat) (c:List UInt8) (fn:Option (Nat × List UInt8)) (l f:Int) (ke pa:Int) (p0 : -9223372036854775808<=pa) (p1:pa<=9223372036854775807) (w:World) (hD:Xj w db md mn (some (b,c)) fn (.slice none 0 0) l f) :
  Calls prog 54 #[.pointer (some ⟨db,0,none⟩),.int .i64 ke,.int .i64 pa] w fun e w'=>e=.returned (.tuple #[])/\∃ mn',w.heap.size<=mn'/\Xj w' db md mn' (some (b,c)) (some (b,c)) (.slice none 0 0) (-1) (-1)/\Spares [db] w w':=by
 have hP:=fun W=>Xl4 pa p0 p1 W
 have hmk:∀ W,(Instr.makeMap 170 none).run prog W=.ok (.map (some W.heap.size)) (W.alloc (.map #[] 0)):=fun W=>run_makeMap _ W
 have d2:=hD.box.cell 2 (v:=.slice none 0 0) rfl;have d3:=hD.box.cell 3 (v:=.int .i64 l) rfl;have d4:=hD.box.cell 4 (v:=.int .i64 f) rfl;have f3:=hD.box.frozen 3;have f4:=hD.box.frozen 4;have lD:=hD.lt;obtain⟨n,hn,hm⟩:=hD.dm
 change w.ownsMap prog 9 Yd md n (Zp (some b)) at hm
 have hU:=fun W (hS:Spares [db] w W) (bD:BoxN W db 100 #[.map (some md),.map (some mn),.slice none 0 0,.int .i64 (-1),.int .i64 (-1),.bool false])=>Xq4 db md n b _ _ _ _ _ W bD (hS.map hm (by have:=hD.box.ne_map hm;simpa using this))
 have hS1:Spares [db] w (((w.setCell ⟨db,3,none⟩ (.int .i64 (-1))).setCell ⟨db,4,none⟩ (.int .i64 (-1))).alloc (.map #[] 0)):=(((Spares.of_below (Below.refl _ w)).set (by simp) _ _).set (by simp) _ _).alloc (.map #[] 0);have bD1:BoxN (((w.setCell ⟨db,3,none⟩ (.int .i64 (-1))).setCell ⟨db,4,none⟩ (.int .i64 (-1))).alloc (.map #[] 0)) db 100 #[.map (some md),.map (some mn),.slice none 0 0,.int .i64 (-1),.int .i64 (-1),.bool false]:=((hD.box.set 3 _).set 4 _).alloc (.map #[] 0);go_enter func54,ntmps54
 go_wp2_with (go_at_call 97;refine(hP _).mono ?_;rintro e w1 ⟨⟨z,rfl⟩,rfl⟩)
 refine wp_loop_rounds 1 ?_;rw [rounds_succ]
 go_wp2_with (go_at_call 56;refine(hU _ hS1 bD1).mono ?_;rintro e w2 ⟨rfl,mn',hge,hM2,bD2,hS2⟩)
 go_end0
 have hS3:=hS1.trans hS2;have hz1:=hS1.size;have hdb:=hD.box.ne_map hm;have bS:=hS3.box (hD.sd _ rfl) (by have:=(hD.sd _ rfl).ne hD.box (by decide);simpa using this);exact⟨rfl,mn',Nat.le_trans hz1 hge,⟨bD2,⟨n,hn,hS3.map hm (by simpa using hdb)⟩,⟨1,by omega,hM2⟩,fun q hq=>by cases hq;exact bS,fun q hq=>by cases hq;exact bS,by omega⟩,hS3⟩
theorem Tryz.Xom (hb db rb md mn b:Nat) (vv:Value) (c:List UInt8) (fn:Option (Nat × List UInt8)) (l f:Int) (ke pa:Int) (p0 : -9223372036854775808<=pa) (p1:pa<=9223372036854775807) (w:World) (hH:BoxN w hb 78 #[.pointer (some ⟨db,0,none⟩),.pointer (some ⟨rb,0,none⟩),vv]) (hD:Xj w db md mn (some (b,c)) fn (.slice none 0 0) l f) :
  Calls prog 32 #[.pointer (some ⟨hb,0,none⟩),.int .i64 ke,.int .i64 pa] w fun e w'=>e=.returned (.tuple #[])/\BoxN w' hb 78 #[.pointer (some ⟨db,0,none⟩),.pointer (some ⟨rb,0,none⟩),.pointer none]/\∃ mn',w.heap.size<=mn'/\Xj w' db md mn' (some (b,c)) (some (b,c)) (.slice none 0 0) (-1) (-1)/\Spares [hb,db] w w':=by
 have hne:=hH.ne hD.box (by decide);have h0:=hH.cell 0 (v:=.pointer (some ⟨db,0,none⟩)) rfl;have h2:=hH.cell 2 (v:=vv) rfl;have f2:=hH.frozen 2;obtain⟨n,hn,hm⟩:=hD.dm;obtain⟨n',hn',hm'⟩:=hD.nm;have hS1:Spares [hb] w (w.setCell ⟨hb,2,none⟩ (.pointer none)):=(Spares.of_below (Below.refl _ w)).set (by simp) _ _;have bH1:=hH.set 2 (.pointer none);have hD1:=hD.spared hS1 (by simpa using Ne.symm hne) (by simpa using hH.ne_map hm) (by simpa using hH.ne_map hm') (fun q hq=>by have:=(hD.sd q hq).ne hH (by decide);simpa using this) (fun q hq=>by have:=(hD.sn q hq).ne hH (by decide);simpa using this);have hC:=Xoh db md mn b c fn l f ke pa p0 p1 _ hD1;go_enter func32,ntmps32
 go_wp2_with (go_at_call 54;refine hC.mono ?_;rintro e w2 ⟨rfl,mn',hge,hD2,hS2⟩)
 go_end0
 exact⟨rfl,hS2.box bH1 (by simpa using hne),mn',by simpa using hge,hD2,(hS1.mono (by simp)).trans (hS2.mono (by simp))⟩
def pickI (c n:Int):Int:=(if c<0 then -(c+1) else c) % n
theorem Xcx {fd:Option (Nat × List UInt8)} {c:List UInt8} (h:U7 fd=c) (hc:c ≠ []):∃ b,fd=some (b,c):=by
 cases fd with
 | none=>exact absurd h.symm hc
 | some p =>
  obtain⟨b,x⟩:=p;have:x=c:=h;exact⟨b,by rw [this]⟩
theorem Tryz.Xu5 (db md mn b vb mt ml:Nat) (fd:Option (Nat × List UInt8)) (l f:Int) (vx:VX) (tm:Int) (s:VSt) (ls:List Ye) (hok:OkL ls s) (hne:ls ≠ []) (hlen:(textL ls).length<4294967281) (w:World)
  (hD:Xj w db md mn fd (some (b,textL ls)) (.slice none 0 0) l f) (hl:l≠0) (hf:f≠0) (hV:VF w vb mt ml vx (tm,s)) (h9:9<=w.heap.size) (hG:Ja w) (d9:9<=db)
  (n1:db ∉ [vb,mt,ml]) (n2:md ∉ [vb,mt,ml]) (n3:mn ∉ [vb,mt,ml]) (n4:∀ q,fd=some q->q.1 ∉ [vb,mt,ml]) (n5:b ∉ [vb,mt,ml]) :
  Calls prog 99 #[Yg db,.func (.func 100) #[.pointer (some ⟨vb,0,none⟩)] #[]] w fun e w'=>e=.returned (.tuple #[.pointer (some ⟨w.heap.size,0,none⟩),.nilIface])/\BoxN w' w.heap.size 212 #[Yg db,.int .u64 0,.nilIface]/\VF w' vb mt ml vx (tmL tm ls,playL ls s)/\(∃ l' f':Int,Xj w' db md mn fd (some (b,textL ls)) (.slice none 0 0) l' f')/\Spares [db,vb,mt,ml] w w':=by
 have hm:=fun W=>M1 db W
 have hB0:Below w.heap.size w (w.alloc (.cells #[Yg db,.int .u64 0,.nilIface] 212)):=(Below.refl _ w).alloc (Nat.le_refl _) _;have bJ:=BoxN.new w 212 #[Yg db,.int .u64 0,.nilIface]
 have hasc:∀ x∈textL ls,x.toNat<128:=fun x hx=>by
  obtain⟨li,hli,hx⟩:=List.mem_flatMap.1 hx
  have h1:Ym (recLine li.recs):=by
   unfold recLine;rw [Je];exact Ym.cons (by decide) (Xa8 (Mh _ (fun r hr=>(hok.back li hli r hr).c)))
  exact h1 x hx
 have hF:=callsIn_wide.1 (Xga w.heap.size db md mn b _ (textL ls) fd l f _ bJ (hD.below hB0) hlen hasc (Xha hok hne) (hV.below hB0).va.env (Nat.le_trans h9 hB0.size) (hG.below (hB0.mono h9)))
 have hSy:=fun W (hb:Below w.heap.size w W)=>Xqi db md mn fd _ l f W (hD.below hb)
 rw [Xd9 hl hf,beq_eq_false_iff_ne.2 hl] at hSy
 have hT:=fun W (hV:VF W vb mt ml vx (tm,s)) (h9:9<=W.heap.size) (hG:Ja W)=>Xto vb mt ml vx tm s ls hok hlen W hV h9 hG
 have hnt:=Xb9 hne;have lv:=hV.va.v.lt;have lh:=hV.va.held.lt;have lD:=hD.lt;generalize textL ls=txt at *;generalize playL ls s=s' at *;generalize tmL tm ls=tm' at *
 have hnb:(txt == [])=false:=by simpa using hnt
 unfold Yg at hF hB0 bJ ⊢;go_enter func99,ntmps99
 go_wp2_with (first
  | (go_at_call 146;refine hF.mono ?_;rintro e w1 ⟨rfl,hb1⟩;have hB1:=hB0.trans (hb1.mono (by simp));have bJ1:=bJ.below hb1 (by simp))
  | (go_at_call 309;refine(hSy _ hB1).mono ?_;rintro e w2 ⟨rfl,⟨l',f',hD2'⟩,hS2⟩;have hD2:=hD2'.at;have hV2:=(hV.below hB1).spared hS2 (by simp at n1 ⊢;omega) (by simp at n1 ⊢;omega) (by simp at n1 ⊢;omega) (fun b hb=>by rw [List.mem_singleton.1 hb];omega);have hG2:=hG.below (((hB1.mono h9)).trans (hS2.below (by have:=hB1.size;omega) (fun b hb=>by rw [List.mem_singleton.1 hb];exact d9)));have hT2:=hT w2 hV2 (by have:=hB1.size;have:=hS2.size;omega) hG2)
  | (go_at_call 147;refine hT2.mono ?_;rintro e w3 ⟨rfl,hV3,hS3⟩))
 go_ret2
 exact⟨rfl,hS3.box (hS2.box bJ1 (by simp;omega)) (by simp;omega),hV3,⟨l',f',hD2.spared hS3 n1 n2 n3 n4 (fun q hq=>by cases hq;exact n5)⟩,((Spares.of_below hB1).trans (hS2.mono (by simp))).trans (hS3.mono (by simp))⟩
theorem Tryz.Xv7 (db md mn b vb mt ml:Nat) (fd:Option (Nat × List UInt8)) (l f:Int) (vx:VX) (tm:Int) (s:VSt) (ls:List Ye) (hok:OkL ls s) (hne:ls ≠ []) (hlen:(textL ls).length<4294967281) (w:World)
  (hD:Xj w db md mn fd (some (b,textL ls)) (.slice none 0 0) l f) (n:Int) (hev:evD l f=.iface 33 (.int .i64 n)) (hV:VF w vb mt ml vx (tm,s)) (h9:9<=w.heap.size) (hG:Ja w) :
  Calls prog 99 #[Yg db,.func (.func 100) #[.pointer (some ⟨vb,0,none⟩)] #[]] w fun e w'=>e=.returned (.tuple #[.pointer none,.iface 33 (.int .i64 n)])/\(∃ l' f':Int,Mw w' db md mn fd (some (b,textL ls)) (.slice none 0 0) l' f' (l==0))/\Spares [db] w w':=by
 have hm:=fun W=>M1 db W
 have hB0:Below w.heap.size w (w.alloc (.cells #[Yg db,.int .u64 0,.nilIface] 212)):=(Below.refl _ w).alloc (Nat.le_refl _) _;have bJ:=BoxN.new w 212 #[Yg db,.int .u64 0,.nilIface]
 have hasc:∀ x∈textL ls,x.toNat<128:=fun x hx=>by
  obtain⟨li,hli,hx⟩:=List.mem_flatMap.1 hx
  have h1:Ym (recLine li.recs):=by
   unfold recLine;rw [Je];exact Ym.cons (by decide) (Xa8 (Mh _ (fun r hr=>(hok.back li hli r hr).c)))
  exact h1 x hx
 have hF:=callsIn_wide.1 (Xga w.heap.size db md mn b _ (textL ls) fd l f _ bJ (hD.below hB0) hlen hasc (Xha hok hne) (hV.below hB0).va.env (Nat.le_trans h9 hB0.size) (hG.below (hB0.mono h9)))
 have hSy:=fun W (hb:Below w.heap.size w W)=>Xqi db md mn fd _ l f W (hD.below hb)
 rw [hev] at hSy;have hnt:=Xb9 hne;have lv:=hV.va.v.lt;have lh:=hV.va.held.lt;have lD:=hD.lt;generalize textL ls=txt at *
 have hnb:(txt == [])=false:=by simpa using hnt
 unfold Yg at hF hB0 bJ ⊢;go_enter func99,ntmps99
 go_wp2_with (first
  | (go_at_call 146;refine hF.mono ?_;rintro e w1 ⟨rfl,hb1⟩;have hB1:=hB0.trans (hb1.mono (by simp));have bJ1:=bJ.below hb1 (by simp))
  | (go_at_call 309;refine(hSy _ hB1).mono ?_;rintro e w2 ⟨rfl,hD2,hS2⟩))
 go_ret2
 exact⟨rfl,hD2,(Spares.of_below hB1).trans hS2⟩
theorem Tryz.openW (db md mn rb bd b:Nat) (l f now:Int) (ls:List Ye) (hok:OkL ls rootS) (hnel:ls ≠ []) (hlen:(textL ls).length<4294967281) (w:World) (hD:Xj w db md mn (some (bd,textL ls)) (some (b,textL ls)) (.slice none 0 0) l f) (hl:l≠0) (hf:f≠0) (hE:Env w) (h9:9<=w.heap.size) (hG:Ja w) (t0:0<=now) (t1:now<=18446744073709551615) (d9:9<=db/\9<=md/\9<=mn) :
  Calls prog 55 #[Yg db,.iface 75 (.pointer (some ⟨rb,0,none⟩)),.int .u64 now] w fun e w'=>∃ vb mt ml jb,e=.returned (.tuple #[.pointer (some ⟨vb,0,none⟩),.nilIface])/\(∃ l' f':Int,Whole w' ⟨vb,mt,ml,jb,db,md,mn⟩ ⟨.pointer (some ⟨jb,0,none⟩),.iface 75 (.pointer (some ⟨rb,0,none⟩)),false,.slice none 0 0⟩ (tmL now ls) (playL ls rootS) (textL ls) l' f')/\(w.heap.size<=vb/\w.heap.size<=mt/\w.heap.size<=ml/\w.heap.size<=jb)/\Spares [db] w w':=by
 have hmkT:∀ W,(Instr.makeMap 120 none).run prog W=.ok (.map (some W.heap.size)) (W.alloc (.map #[] 0)):=fun W=>run_makeMap _ W
 have hmkL:∀ W,(Instr.makeMap 121 none).run prog W=.ok (.map (some W.heap.size)) (W.alloc (.map #[] 0)):=fun W=>run_makeMap _ W
 have hR:=fun W=>root W
 unfold nmV at hR;have hM:=World.ownsMap_made w prog 114 Yd;have hB0:Below w.heap.size w (w.alloc (.map #[] 0)):=(Below.refl _ w).alloc (Nat.le_refl _) _;have lD:=hD.lt;have lbd:=(hD.sd _ rfl).lt;have lbn:=(hD.sn _ rfl).lt;simp only at lbd lbn
 have hO:=fun W vb mt ml vx (hb:Below w.heap.size w W) (hV:VF W vb mt ml vx (now,rootS)) (q1:w.heap.size<=vb) (q2:w.heap.size<=mt) (q3:w.heap.size<=ml)=>Xu5 db md mn b vb mt ml (some (bd,textL ls)) l f vx now rootS ls hok hnel hlen W (hD.below hb) hl hf hV (Nat.le_trans h9 hb.size) (hG.below (hb.mono h9)) d9.1 (by simp;omega) (by simp;omega) (by simp;omega) (fun q hq=>by cases hq;simp;omega) (by simp;omega)
 have Hnt:Hid (textL ls ≠ []):=Xb (Xb9 hnel);have hlog:Hid (Log (tmL now ls) (playL ls rootS) (textL ls)):=Xb ⟨ls,hok,rfl,rfl,(Xmq ls now).2⟩;generalize textL ls=txt at *;generalize playL ls rootS=s' at *;generalize tmL now ls=tm' at *;unfold Yg at hO ⊢;go_enter func55,ntmps55
 go_wp2_with (first
  | (go_at_call 85;refine(hR _).mono ?_;rintro e w1 ⟨rfl,hb1⟩;have hM1:=Y7 hM hb1;have hB1:=hB0.trans (hb1.mono (by simp));obtain⟨w2,hrun,hM2,hT2⟩:=hM1.store Y1 underlying120 (by decide) (key:=nmV (1,0)) (val:=Vp) (Xz.keyOf ⟨by decide,by decide⟩) (d:=.held Vp) (ps:=[]) rfl;have hB2:=hB1.grown hT2.grown hB1.size (fun q hq=>by cases hq;omega);have hB4:=hB2.alloc hB2.size (.map #[] 0);have hB5:=hB4.alloc hB4.size (.cells #[.pointer none,.iface 75 (.pointer (some ⟨rb,0,none⟩)),.int .u64 now,.map (some w.heap.size),.map (some w2.heap.size),.int .u64 0,.int .u64 0,.bool false,.slice none 0 0] 126);unfold nmV Vp at hrun)
  | fail)
 have hz2:=hB2.size;have lM2:=hM2.lt;have hMl5:=(World.ownsMap_made w2 prog 114 Yd).alloc (.cells #[.pointer none,.iface 75 (.pointer (some ⟨rb,0,none⟩)),.int .u64 now,.map (some w.heap.size),.map (some w2.heap.size),.int .u64 0,.int .u64 0,.bool false,.slice none 0 0] 126);have hMt5:=(hM2.alloc (.map #[] 0)).alloc (.cells #[.pointer none,.iface 75 (.pointer (some ⟨rb,0,none⟩)),.int .u64 now,.map (some w.heap.size),.map (some w2.heap.size),.int .u64 0,.int .u64 0,.bool false,.slice none 0 0] 126);rw [show ((DataW.map []).put (Lit.string (nmB (1,0))) (.held Vp))=mapD ([rootE].map Xd.key).reverse from Xhq] at hMt5;have bV5:=BoxN.new (w2.alloc (.map #[] 0)) 126 #[.pointer none,.iface 75 (.pointer (some ⟨rb,0,none⟩)),.int .u64 now,.map (some w.heap.size),.map (some w2.heap.size),.int .u64 0,.int .u64 0,.bool false,.slice none 0 0];rw [World.size_alloc] at bV5
 have hV5:VF ((w2.alloc (.map #[] 0)).alloc (.cells #[.pointer none,.iface 75 (.pointer (some ⟨rb,0,none⟩)),.int .u64 now,.map (some w.heap.size),.map (some w2.heap.size),.int .u64 0,.int .u64 0,.bool false,.slice none 0 0] 126)) (w2.heap.size+1) w.heap.size w2.heap.size ⟨.pointer none,.iface 75 (.pointer (some ⟨rb,0,none⟩)),false,.slice none 0 0⟩ (now,rootS):=
  { va:=⟨bV5,⟨⟨_,by decide,hMt5⟩,⟨0,by decide,hMl5⟩⟩,Xkz,hE.below hB5 (by omega),by have:=hB5.size;omega⟩,nt:=fun t ht=>by rw [List.mem_singleton.1 ht];exact Nat.le_refl _,nl:=fun l hl=>(by cases hl),t0:=t0,t1:=t1,okT:=fun t ht=>by rw [List.mem_singleton.1 ht];exact⟨by decide,by decide,by decide,by decide,.inr (.inr ⟨rfl,rfl⟩)⟩,okL:=fun l hl=>(by cases hl),mne:=by show w.heap.size≠w2.heap.size;omega,v9:=by show 9<=w2.heap.size+1;omega,m9:=h9,l9:=by show 9<=w2.heap.size;omega }
 have hO5:=hO _ _ _ _ _ hB5 hV5 (by omega) (Nat.le_refl _) (by omega)
 have hz5:((w2.alloc (.map #[] 0)).alloc (.cells #[.pointer none,.iface 75 (.pointer (some ⟨rb,0,none⟩)),.int .u64 now,.map (some w.heap.size),.map (some w2.heap.size),.int .u64 0,.int .u64 0,.bool false,.slice none 0 0] 126)).heap.size=w2.heap.size+1+1:=by simp
 generalize (w2.alloc (.map #[] 0)).alloc (.cells #[.pointer none,.iface 75 (.pointer (some ⟨rb,0,none⟩)),.int .u64 now,.map (some w.heap.size),.map (some w2.heap.size),.int .u64 0,.int .u64 0,.bool false,.slice none 0 0] 126)=W5 at *;rw [hz5] at hO5;clear hO hV5 bV5 hMt5 hMl5 hrun hM2 hT2 hM1 hM;refine hO5.mono ?_;rintro e w6 ⟨rfl,bJ6,hV6,⟨l',f',hD6⟩,hS6⟩;have v0:=hV6.va.v.cell 0 (v:=.pointer none) rfl;have v0f:=hV6.va.v.frozen 0;have hV7:=hV6.reJ (.pointer (some ⟨w2.heap.size+1+1,0,none⟩));have hS7:Spares [w2.heap.size+1] w6 (w6.setCell ⟨w2.heap.size+1,0,none⟩ (.pointer (some ⟨w2.heap.size+1+1,0,none⟩))):=(Spares.of_below (Below.refl _ _)).set (by simp) _ _;have bJ7:=hS7.box bJ6 (by simp);have hD7:=hD6.spared hS7 (by simp;omega) (by simp;omega) (by simp;omega) (fun q hq=>by cases hq;simp;omega) (fun q hq=>by cases hq;simp;omega)
 have hSp:Spares [db] w (w6.setCell ⟨w2.heap.size+1,0,none⟩ (.pointer (some ⟨w2.heap.size+1+1,0,none⟩))):=Xem hB5 ((hS6.mono (bs':=[db,w2.heap.size+1,w.heap.size,w2.heap.size]) (by simp)).trans (hS7.mono (by simp))) (fun b hb=>by
  simp only [List.mem_cons,List.not_mem_nil,or_false] at hb ⊢
  omega)
 go_wp2
 exact bodyPost_ret (v:=.tuple #[.pointer (some ⟨w2.heap.size+1,0,none⟩),.nilIface]) (by simp [results,results55,go_sem]) rfl ⟨w2.heap.size+1,w.heap.size,w2.heap.size,w2.heap.size+1+1,rfl,
  ⟨l',f',{ v:=hV7,jn:=rfl,j:=bJ7,d:=⟨_,_,hD7,Fl.some (Xa Hnt),Fl.some (Xa Hnt)⟩,j9:=by show 9<=w2.heap.size+1+1;omega,d9:=d9.1,md9:=d9.2.1,mn9:=d9.2.2,ne1:=by show md≠w.heap.size/\md≠w2.heap.size/\mn≠w.heap.size/\mn≠w2.heap.size;omega,log:=Xa hlog }⟩,by omega,hSp⟩
theorem Tryz.openE (db md mn rb bd b:Nat) (l f now:Int) (ls:List Ye) (hok:OkL ls rootS) (hnel:ls ≠ []) (hlen:(textL ls).length<4294967281) (w:World) (hD:Xj w db md mn (some (bd,textL ls)) (some (b,textL ls)) (.slice none 0 0) l f) (n:Int) (hev:evD l f=.iface 33 (.int .i64 n)) (hE:Env w) (h9:9<=w.heap.size) (hG:Ja w) (t0:0<=now) (t1:now<=18446744073709551615) (d9:9<=db/\9<=md/\9<=mn) :
  Calls prog 55 #[Yg db,.iface 75 (.pointer (some ⟨rb,0,none⟩)),.int .u64 now] w fun e w'=>e=.returned (.tuple #[.pointer none,.iface 33 (.int .i64 n)])/\(∃ l' f':Int,Mw w' db md mn (some (bd,textL ls)) (some (b,textL ls)) (.slice none 0 0) l' f' (l==0))/\Spares [db] w w':=by
 have hmkT:∀ W,(Instr.makeMap 120 none).run prog W=.ok (.map (some W.heap.size)) (W.alloc (.map #[] 0)):=fun W=>run_makeMap _ W
 have hmkL:∀ W,(Instr.makeMap 121 none).run prog W=.ok (.map (some W.heap.size)) (W.alloc (.map #[] 0)):=fun W=>run_makeMap _ W
 have hR:=fun W=>root W
 unfold nmV at hR;have hM:=World.ownsMap_made w prog 114 Yd;have hB0:Below w.heap.size w (w.alloc (.map #[] 0)):=(Below.refl _ w).alloc (Nat.le_refl _) _;have lD:=hD.lt;have lbd:=(hD.sd _ rfl).lt;have lbn:=(hD.sn _ rfl).lt;simp only at lbd lbn
 have hO:=fun W vb mt ml vx (hb:Below w.heap.size w W) (hV:VF W vb mt ml vx (now,rootS)) (q1:w.heap.size<=vb) (q2:w.heap.size<=mt) (q3:w.heap.size<=ml)=>Xv7 db md mn b vb mt ml (some (bd,textL ls)) l f vx now rootS ls hok hnel hlen W (hD.below hb) n hev hV (Nat.le_trans h9 hb.size) (hG.below (hb.mono h9))
 generalize textL ls=txt at *;unfold Yg at hO ⊢;go_enter func55,ntmps55
 go_wp2_with (first
  | (go_at_call 85;refine(hR _).mono ?_;rintro e w1 ⟨rfl,hb1⟩;have hM1:=Y7 hM hb1;have hB1:=hB0.trans (hb1.mono (by simp));obtain⟨w2,hrun,hM2,hT2⟩:=hM1.store Y1 underlying120 (by decide) (key:=nmV (1,0)) (val:=Vp) (Xz.keyOf ⟨by decide,by decide⟩) (d:=.held Vp) (ps:=[]) rfl;have hB2:=hB1.grown hT2.grown hB1.size (fun q hq=>by cases hq;omega);have hB4:=hB2.alloc hB2.size (.map #[] 0);have hB5:=hB4.alloc hB4.size (.cells #[.pointer none,.iface 75 (.pointer (some ⟨rb,0,none⟩)),.int .u64 now,.map (some w.heap.size),.map (some w2.heap.size),.int .u64 0,.int .u64 0,.bool false,.slice none 0 0] 126);unfold nmV Vp at hrun)
  | fail)
 have hz2:=hB2.size;have lM2:=hM2.lt;have hMl5:=(World.ownsMap_made w2 prog 114 Yd).alloc (.cells #[.pointer none,.iface 75 (.pointer (some ⟨rb,0,none⟩)),.int .u64 now,.map (some w.heap.size),.map (some w2.heap.size),.int .u64 0,.int .u64 0,.bool false,.slice none 0 0] 126);have hMt5:=(hM2.alloc (.map #[] 0)).alloc (.cells #[.pointer none,.iface 75 (.pointer (some ⟨rb,0,none⟩)),.int .u64 now,.map (some w.heap.size),.map (some w2.heap.size),.int .u64 0,.int .u64 0,.bool false,.slice none 0 0] 126);rw [show ((DataW.map []).put (Lit.string (nmB (1,0))) (.held Vp))=mapD ([rootE].map Xd.key).reverse from Xhq] at hMt5;have bV5:=BoxN.new (w2.alloc (.map #[] 0)) 126 #[.pointer none,.iface 75 (.pointer (some ⟨rb,0,none⟩)),.int .u64 now,.map (some w.heap.size),.map (some w2.heap.size),.int .u64 0,.int .u64 0,.bool false,.slice none 0 0];rw [World.size_alloc] at bV5
 have hV5:VF ((w2.alloc (.map #[] 0)).alloc (.cells #[.pointer none,.iface 75 (.pointer (some ⟨rb,0,none⟩)),.int .u64 now,.map (some w.heap.size),.map (some w2.heap.size),.int .u64 0,.int .u64 0,.bool false,.slice none 0 0] 126)) (w2.heap.size+1) w.heap.size w2.heap.size ⟨.pointer none,.iface 75 (.pointer (some ⟨rb,0,none⟩)),false,.slice none 0 0⟩ (now,rootS):=
  { va:=⟨bV5,⟨⟨_,by decide,hMt5⟩,⟨0,by decide,hMl5⟩⟩,Xkz,hE.below hB5 (by omega),by have:=hB5.size;omega⟩,nt:=fun t ht=>by rw [List.mem_singleton.1 ht];exact Nat.le_refl _,nl:=fun l hl=>(by cases hl),t0:=t0,t1:=t1,okT:=fun t ht=>by rw [List.mem_singleton.1 ht];exact⟨by decide,by decide,by decide,by decide,.inr (.inr ⟨rfl,rfl⟩)⟩,okL:=fun l hl=>(by cases hl),mne:=by show w.heap.size≠w2.heap.size;omega,v9:=by show 9<=w2.heap.size+1;omega,m9:=h9,l9:=by show 9<=w2.heap.size;omega }
 have hO5:=hO _ _ _ _ _ hB5 hV5 (by omega) (Nat.le_refl _) (by omega)
 have hz5:((w2.alloc (.map #[] 0)).alloc (.cells #[.pointer none,.iface 75 (.pointer (some ⟨rb,0,none⟩)),.int .u64 now,.map (some w.heap.size),.map (some w2.heap.size),.int .u64 0,.int .u64 0,.bool false,.slice none 0 0] 126)).heap.size=w2.heap.size+1+1:=by simp
 generalize (w2.alloc (.map #[] 0)).alloc (.cells #[.pointer none,.iface 75 (.pointer (some ⟨rb,0,none⟩)),.int .u64 now,.map (some w.heap.size),.map (some w2.heap.size),.int .u64 0,.int .u64 0,.bool false,.slice none 0 0] 126)=W5 at *;clear hO hV5 bV5 hMt5 hMl5 hrun hM2 hT2 hM1 hM;refine hO5.mono ?_;rintro e w6 ⟨rfl,hD6,hS6⟩;have hSp:Spares [db] w w6:=Xem hB5 hS6 (fun b hb=>.inl hb);go_wp2
 go_ret2
 exact⟨rfl,hD6,hSp⟩
theorem Tryz.Mw.spared {W W':World} {bs:List Nat} {db md mn:Nat} {fd fn:Option (Nat × List UInt8)} {p:Value} {l f:Int} {dn:Bool} (h:Mw W db md mn fd fn p l f dn) (hs:Spares bs W W') (n1:db∉bs) (n2:md∉bs) (n3:mn∉bs) (n4:∀ q,fd=some q->q.1∉bs) (n5:∀ q,fn=some q->q.1∉bs):Mw W' db md mn fd fn p l f dn:=by
 obtain⟨n,hn,hm⟩:=h.dm;obtain⟨n',hn',hm'⟩:=h.nm;exact⟨hs.box h.box n1,⟨n,hn,hs.map hm n2⟩,⟨n',hn',hs.map hm' n3⟩,fun q hq=>hs.box (h.sd q hq) (n4 q hq),fun q hq=>hs.box (h.sn q hq) (n5 q hq),h.ne⟩
theorem Tryz.Xv5 (db md mn b:Nat) (c:List UInt8) (fn:Option (Nat × List UInt8)) (l f:Int) (dn:Bool) (ke pa:Int) (p0 : -9223372036854775808<=pa) (p1:pa<=9223372036854775807) (w:World) (hD:Mw w db md mn (some (b,c)) fn (.slice none 0 0) l f dn) :
  Calls prog 54 #[.pointer (some ⟨db,0,none⟩),.int .i64 ke,.int .i64 pa] w fun e w'=>e=.returned (.tuple #[])/\∃ mn',w.heap.size<=mn'/\Xj w' db md mn' (some (b,c)) (some (b,c)) (.slice none 0 0) (-1) (-1)/\Spares [db] w w':=by
 have hP:=fun W=>Xl4 pa p0 p1 W
 have hmk:∀ W,(Instr.makeMap 170 none).run prog W=.ok (.map (some W.heap.size)) (W.alloc (.map #[] 0)):=fun W=>run_makeMap _ W
 have d2:=hD.box.cell 2 (v:=.slice none 0 0) rfl;have d3:=hD.box.cell 3 (v:=.int .i64 l) rfl;have d4:=hD.box.cell 4 (v:=.int .i64 f) rfl;have f3:=hD.box.frozen 3;have f4:=hD.box.frozen 4;have lD:=hD.box.lt;obtain⟨n,hn,hm⟩:=hD.dm
 change w.ownsMap prog 9 Yd md n (Zp (some b)) at hm
 have lM:=hm.lt
 have hU:=fun W (hS:Spares [db] w W) (bD:BoxN W db 100 #[.map (some md),.map (some mn),.slice none 0 0,.int .i64 (-1),.int .i64 (-1),.bool dn])=>Xq4 db md n b _ _ _ _ _ W bD (hS.map hm (by have:=hD.box.ne_map hm;simpa using this))
 have hS1:Spares [db] w (((w.setCell ⟨db,3,none⟩ (.int .i64 (-1))).setCell ⟨db,4,none⟩ (.int .i64 (-1))).alloc (.map #[] 0)):=(((Spares.of_below (Below.refl _ w)).set (by simp) _ _).set (by simp) _ _).alloc (.map #[] 0);have bD1:BoxN (((w.setCell ⟨db,3,none⟩ (.int .i64 (-1))).setCell ⟨db,4,none⟩ (.int .i64 (-1))).alloc (.map #[] 0)) db 100 #[.map (some md),.map (some mn),.slice none 0 0,.int .i64 (-1),.int .i64 (-1),.bool dn]:=((hD.box.set 3 _).set 4 _).alloc (.map #[] 0);go_enter func54,ntmps54
 go_wp2_with (go_at_call 97;refine(hP _).mono ?_;rintro e w1 ⟨⟨z,rfl⟩,rfl⟩)
 refine wp_loop_rounds 1 ?_;rw [rounds_succ]
 go_wp2_with (go_at_call 56;refine(hU _ hS1 bD1).mono ?_;rintro e w2 ⟨rfl,mn',hge,hM2,bD2,hS2⟩)
 go_end0
 have hS3:=hS1.trans hS2;have hz1:=hS1.size;have hdb:=hD.box.ne_map hm;have bS:=hS3.box (hD.sd _ rfl) (by have:=(hD.sd _ rfl).ne hD.box (by decide);simpa using this);exact⟨rfl,mn',Nat.le_trans hz1 hge,⟨bD2,⟨n,hn,hS3.map hm (by simpa using hdb)⟩,⟨1,by omega,hM2⟩,fun q hq=>by cases hq;exact bS,fun q hq=>by cases hq;exact bS,by omega⟩,hS3⟩
theorem Tryz.Xqx (B hb db rb md mn:Nat) (fd fn:Option (Nat × List UInt8)) (vv ra rc:Value) (l f:Int) (now a a' c d tm:Int) (s:VSt) (x:List UInt8) (w:World) (hH:BoxN w hb 78 #[.pointer (some ⟨db,0,none⟩),.pointer (some ⟨rb,0,none⟩),vv]) (hD:Xj w db md mn fd fn (.slice none 0 0) l f) (hR:BoxN w rb 88 #[ra,rc]) (hlo:B<=hb/\B<=db/\B<=rb/\B<=md/\B<=mn) (hBw:B<=w.heap.size) (b9:9<=B) (hG:Ja w)
  (hO:∀ W,Xj W db md mn fd fn (.slice none 0 0) a a'->Below B w W->Calls prog 55 #[Yg db,.iface 75 (.pointer (some ⟨rb,0,none⟩)),.int .u64 now] W fun e w'=>∃ vb mt ml jb,e=.returned (.tuple #[.pointer (some ⟨vb,0,none⟩),.nilIface])/\(∃ l' f':Int,Whole w' ⟨vb,mt,ml,jb,db,md,mn⟩ ⟨.pointer (some ⟨jb,0,none⟩),.iface 75 (.pointer (some ⟨rb,0,none⟩)),false,.slice none 0 0⟩ tm s x l' f')/\(W.heap.size<=vb/\W.heap.size<=mt/\W.heap.size<=ml/\W.heap.size<=jb)/\Spares [db] W w') :
  Calls prog 33 #[.pointer (some ⟨hb,0,none⟩),.int .u64 now,Yn a a' c d] w fun e w'=>e=.returned (.int .i64 0)/\(∃ k vx,Sys B w' hb rb ⟨k,vx,tm,s,x⟩)/\Below B w w'/\Spares [hb,db] w w':=by
 obtain⟨lo1,lo2,lo3,lo4,lo5⟩:=hlo;have hne:=hH.ne hD.box (by decide);have hnr:=hH.ne hR (by decide);have hnd:=hD.box.ne hR (by decide);have lH:=hH.lt;have lD:=hD.lt;have bF:=BoxN.new w 29 #[.int .i64 a,.int .i64 a',.int .i64 c,.int .i64 d];have hB0:Below w.heap.size w (w.alloc (.cells #[.int .i64 a,.int .i64 a',.int .i64 c,.int .i64 d] 29)):=(Below.refl _ w).alloc (Nat.le_refl _) _;have hBf:=before hb db _ _ _ _ _ _ _ _ a a' c d _ (hH.alloc (.cells #[.int .i64 a,.int .i64 a',.int .i64 c,.int .i64 d] 29)) (hD.box.alloc _);unfold Yn at hBf ⊢;go_enter func33,ntmps33
 go_wp2_with (go_at_call 40;refine hBf.mono ?_;rintro e w1 ⟨rfl,bD1,hg1⟩)
 have bH1:=(hH.alloc (.cells #[.int .i64 a,.int .i64 a',.int .i64 c,.int .i64 d] 29)).kept hg1 (by intro e;injection e with e;exact hne e);have bR1:=(hR.alloc (.cells #[.int .i64 a,.int .i64 a',.int .i64 c,.int .i64 d] 29)).kept hg1 (by intro e;injection e with e;exact hnd e.symm);have bF1:=bF.kept hg1 (by intro e;injection e with e;omega);have hD1:=(hD.below hB0).cells (Spares.X6 hg1 (by simp)) bD1;have hB1:Below B w w1:=(hB0.mono hBw).grown hg1 (by simp;omega) (fun q hq=>by cases hq;exact lo2)
 have hP1:Uz hb db rb w1:=⟨bH1.cell 0 rfl,bH1.cell 1 rfl⟩
 have l1:=bH1.lt;have hO1:=hO w1.drew (hD1.below (Below.refl _ _).drew) hB1.drew;unfold Yg at hO1;clear hBf hO
 go_region_held3 (Uz hb db rb) (first
  | with_reducible exact Uz.drew hP1
  | with_reducible assumption) (first | (go_at_call 55;refine hO1.mono ?_;rintro e w2 ⟨vb,mt,ml,jb,rfl,⟨l2,f2,hW2⟩,hlo2,hb2⟩;have bH2:=Spares.box (W:=w1.drew) hb2 bH1 (by simpa using hne);have hP2:Uz hb db rb w2:=⟨bH2.cell 0 rfl,bH2.cell 1 rfl⟩))
 have hz1:w1.drew.heap.size=w1.heap.size:=rfl;have bF2:=Spares.box (W:=w1.drew) hb2 bF1 (by simp;omega);have bR2:=Spares.box (W:=w1.drew) hb2 bR1 (by simpa using Ne.symm hnd);have hB2:Below B w w2:=hB1.drew.trans (hb2.below (by have:=hB1.size;omega) (fun b hb=>by rw [List.mem_singleton.1 hb];exact lo2));have hS3:Spares [hb] w2 (w2.setCell ⟨hb,2,none⟩ (.pointer (some ⟨vb,0,none⟩))):=(Spares.of_below (Below.refl _ _)).set (by simp) _ _;have bH3:=bH2.set 2 (.pointer (some ⟨vb,0,none⟩));have bF3:=hS3.box bF2 (by simp;omega);have bR3:=hS3.box bR2 (by simpa using Ne.symm hnr)
 have hW3:=hW2.spared hS3 (fun b hb'=>by
  obtain⟨fd,fn,hd,-,-⟩:=hW2.d;obtain⟨n3,-,m3⟩:=hd.dm;obtain⟨n4,-,m4⟩:=hd.nm;have hz:=hlo2;simp only [Blk.turns,List.mem_cons,List.not_mem_nil,or_false] at hb';simp only [List.mem_singleton]
  rcases hb' with rfl | rfl | rfl | rfl | rfl | rfl
  ·omega
  ·omega
  ·omega
  ·exact Ne.symm hne
  ·exact BoxN.Xw bH2 m3
  exact BoxN.Xw bH2 m4) (by simp;omega) (fun b x hx=>by simpa using hx.ne bH2 (by decide)) (by simp;omega)
 have hB3:=hB2.setCell (p:=⟨hb,2,none⟩) lo1 (.pointer (some ⟨vb,0,none⟩));obtain⟨fd3,fn3,hD3,-,-⟩:=hW3.d;have hBa:=after hb db _ _ _ _ _ _ _ a a' c d _ bH3 hD3.box;have fz:=bH2.frozen 2;have h2:=bH2.cell 2 (v:=vv) rfl;have g0:=bF2.cell 0 (v:=.int .i64 a) rfl;have g1:=bF2.cell 1 (v:=.int .i64 a') rfl;have g2:=bF2.cell 2 (v:=.int .i64 c) rfl;have g3:=bF2.cell 3 (v:=.int .i64 d) rfl
 have nF:w.heap.size≠hb:=by omega
 unfold Yn at hBa;have HW3:=Xb hW3;clear hW3 hW2 hD3
 go_wp2_with (first
  | (go_at_call 42;refine hBa.mono ?_;rintro e w4 ⟨rfl,bD4,hg4⟩)
  | (go_at_call 43;refine(Xbw _).mono ?_;rintro e w5 ⟨rfl,hb5⟩))
 go_ret;have kH:=bH3.kept hg4 (by intro e;injection e with e;exact hne e);have kR:=bR3.kept hg4 (by intro e;injection e with e;exact hnd e.symm);have hW4:=(Xa HW3).Xhl (Spares.X6 hg4 (by simp)) bD4;have hB4:=hB3.grown hg4 (by have:=hB3.size;omega) (fun q hq=>by cases hq;exact lo2);have hz:=hlo2
 have hSys:Sys B w4 hb rb ⟨⟨vb,mt,ml,jb,db,md,mn⟩,⟨.pointer (some ⟨jb,0,none⟩),.iface 75 (.pointer (some ⟨rb,0,none⟩)),false,.slice none 0 0⟩,tm,s,x⟩:={
  host:=kH,wh:=hW4,err:=hG.below (hB4.mono b9),b9:=b9,hlow:=lo1,
  low:=fun b hb'=>by
   have:=hB1.size;simp only [Blk.turns,List.mem_cons,List.not_mem_nil,or_false] at hb'
   omega,
  rvb:=⟨_,_,kR⟩,rlow:=lo3,vrv:=rfl,vtk:=rfl,due:=World.ownsRow_nil _ _ _ _ }
 have hSp:Spares [hb,db] w w4:=((((Spares.of_below (bs:=[hb,db]) hB0).trans (Spares.X6 hg1 (by simp))).drew).trans (hb2.mono (by simp))).trans ((hS3.mono (by simp)).trans (Spares.X6 hg4 (by simp)));exact⟨rfl,⟨_,_,hSys.below hb5⟩,hB4.trans (hb5.mono (by have:=hB4.size;omega)),hSp.trans (Spares.of_below hb5)⟩
theorem Tryz.Xv0 (B hb db rb md mn bd b:Nat) (vv ra rc:Value) (l f:Int) (now a a' c d:Int) (ha:a≠0) (ha':a'≠0) (ls:List Ye) (hok:OkL ls rootS) (hnel:ls ≠ []) (hlen:(textL ls).length<4294967281) (w:World) (hH:BoxN w hb 78 #[.pointer (some ⟨db,0,none⟩),.pointer (some ⟨rb,0,none⟩),vv]) (hD:Xj w db md mn (some (bd,textL ls)) (some (b,textL ls)) (.slice none 0 0) l f) (hR:BoxN w rb 88 #[ra,rc]) (hlo:B<=hb/\B<=db/\B<=rb/\B<=md/\B<=mn) (hBw:B<=w.heap.size) (b9:9<=B) (hE:Env w) (hG:Ja w) (t0:0<=now) (t1:now<=18446744073709551615) :
  Calls prog 33 #[.pointer (some ⟨hb,0,none⟩),.int .u64 now,Yn a a' c d] w fun e w'=>e=.returned (.int .i64 0)/\(∃ k vx,Sys B w' hb rb ⟨k,vx,tmL now ls,playL ls rootS,textL ls⟩)/\Below B w w'/\Spares [hb,db] w w':=
 Xqx B hb db rb md mn _ _ vv ra rc l f now a a' c d _ _ _ w hH hD hR hlo hBw b9 hG (fun W hD' hb'=>openW db md mn rb bd b a a' now ls hok hnel hlen W hD' ha ha' (hE.below hb' (by omega)) (by have:=hb'.size;omega) (hG.below (hb'.mono b9)) t0 t1 ⟨by omega,by omega,by omega⟩)
theorem Tryz.Xu8 (hb db rb md mn bd b:Nat) (x:List UInt8) (a a' c d l2 f2:Int) (d0 : -9223372036854775808<=d) (d1:d<=9223372036854775807) (W:World) (bH3:BoxN W hb 78 #[.pointer (some ⟨db,0,none⟩),.pointer (some ⟨rb,0,none⟩),.pointer none]) (hD3:Mw W db md mn (some (bd,x)) (some (b,x)) (.slice none 0 0) l2 f2 (a==0)) :
  Calls prog 42 #[.pointer (some ⟨hb,0,none⟩),Yn a a' c d] W fun e w'=>e=.returned (.tuple #[])/\BoxN w' hb 78 #[.pointer (some ⟨db,0,none⟩),.pointer (some ⟨rb,0,none⟩),.pointer none]/\(∃ mn' b',(mn'=mn\/W.heap.size<=mn')/\Xj w' db md mn' (some (bd,x)) (some (b',x)) (.slice none 0 0) (-1) (-1))/\Spares [hb,db] W w':=by
 have hne:=bH3.ne hD3.box (by decide)
 by_cases ha:a=0
 ·rw [show (a==0)=true by simpa using ha] at hD3
  refine(Xvk hb db md W.heap.size (some (bd,x)) (some (bd,x)) _ _ _ _ _ _ _ a a' c d _ bH3 hD3.box (fun W' hSW bW=>?_)).mono ?_
  ·have hDW:=hD3.spared hSW (by simpa using Ne.symm hne) (by obtain⟨n3,-,m3⟩:=hD3.dm;simpa using BoxN.Xw bH3 m3) (by obtain⟨n3,-,m3⟩:=hD3.nm;simpa using BoxN.Xw bH3 m3) (fun q hq=>by simpa using(hD3.sd q hq).ne bH3 (by decide)) (fun q hq=>by simpa using(hD3.sn q hq).ne bH3 (by decide))
   refine(Xv5 db md mn bd x _ l2 f2 true c d d0 d1 W' hDW).mono ?_;rintro e w' ⟨rfl,mn',hmn,hD',hS'⟩;exact⟨rfl,mn',Nat.le_trans hSW.size hmn,hD',hS'⟩
  rintro e w' ⟨rfl,bH',⟨mn',hmn,hD'⟩,hS'⟩;exact⟨rfl,bH',⟨mn',bd,.inr hmn,hD'⟩,hS'⟩
 rw [show (a==0)=false by simpa using ha] at hD3;refine(after hb db _ _ _ _ _ _ _ a a' c d _ bH3 hD3.box).mono ?_;rintro e w' ⟨rfl,bD',hg'⟩;exact⟨rfl,bH3.kept hg' (by intro e;injection e with e;exact hne e),⟨mn,b,.inl rfl,hD3.at.cells (Spares.X6 hg' (by simp)) bD'⟩,Spares.X6 hg' (by simp)⟩
theorem Tryz.Xv8 (B hb db rb md mn bd b:Nat) (vv ra rc:Value) (l f:Int) (now a a' c d:Int) (d0 : -9223372036854775808<=d) (d1:d<=9223372036854775807) (n:Int) (hn:n=7\/n=8) (hev:evD a a'=.iface 33 (.int .i64 n)) (ls:List Ye) (hok:OkL ls rootS) (hnel:ls ≠ []) (hlen:(textL ls).length<4294967281) (w:World) (hH:BoxN w hb 78 #[.pointer (some ⟨db,0,none⟩),.pointer (some ⟨rb,0,none⟩),vv]) (hD:Xj w db md mn (some (bd,textL ls)) (some (b,textL ls)) (.slice none 0 0) l f) (hR:BoxN w rb 88 #[ra,rc]) (hlo:B<=hb/\B<=db/\B<=rb/\B<=md/\B<=mn) (hBw:B<=w.heap.size) (b9:9<=B) (hE:Env w) (hG:Ja w) (t0:0<=now) (t1:now<=18446744073709551615) :
  Calls prog 33 #[.pointer (some ⟨hb,0,none⟩),.int .u64 now,Yn a a' c d] w fun e w'=>e=.returned (.int .i64 n)/\BoxN w' hb 78 #[.pointer (some ⟨db,0,none⟩),.pointer (some ⟨rb,0,none⟩),.pointer none]/\(∃ mn' b',(mn'=mn\/w.heap.size<=mn')/\Xj w' db md mn' (some (bd,textL ls)) (some (b',textL ls)) (.slice none 0 0) (-1) (-1))/\Below B w w'/\Spares [hb,db] w w':=by
 obtain⟨lo1,lo2,lo3,lo4,lo5⟩:=hlo;have hne:=hH.ne hD.box (by decide);have hnr:=hH.ne hR (by decide);have hnd:=hD.box.ne hR (by decide);have lH:=hH.lt;have lD:=hD.lt;have bF:=BoxN.new w 29 #[.int .i64 a,.int .i64 a',.int .i64 c,.int .i64 d];have hB0:Below w.heap.size w (w.alloc (.cells #[.int .i64 a,.int .i64 a',.int .i64 c,.int .i64 d] 29)):=(Below.refl _ w).alloc (Nat.le_refl _) _;have hBf:=before hb db _ _ _ _ _ _ _ _ a a' c d _ (hH.alloc (.cells #[.int .i64 a,.int .i64 a',.int .i64 c,.int .i64 d] 29)) (hD.box.alloc _)
 have hO:=fun W (hD':Xj W db md mn (some (bd,textL ls)) (some (b,textL ls)) (.slice none 0 0) a a') (hb':Below B w W)=>openE db md mn rb bd b a a' now ls hok hnel hlen W hD' n hev (hE.below hb' (by omega)) (by have:=hb'.size;omega) (hG.below (hb'.mono b9)) t0 t1 ⟨by omega,by omega,by omega⟩
 unfold Yn at hBf ⊢;go_enter func33,ntmps33
 go_wp2_with (go_at_call 40;refine hBf.mono ?_;rintro e w1 ⟨rfl,bD1,hg1⟩)
 have bH1:=(hH.alloc (.cells #[.int .i64 a,.int .i64 a',.int .i64 c,.int .i64 d] 29)).kept hg1 (by intro e;injection e with e;exact hne e);have bR1:=(hR.alloc (.cells #[.int .i64 a,.int .i64 a',.int .i64 c,.int .i64 d] 29)).kept hg1 (by intro e;injection e with e;exact hnd e.symm);have bF1:=bF.kept hg1 (by intro e;injection e with e;omega);have hD1:=(hD.below hB0).cells (Spares.X6 hg1 (by simp)) bD1;have hB1:Below B w w1:=(hB0.mono hBw).grown hg1 (by simp;omega) (fun q hq=>by cases hq;exact lo2)
 have hP1:Uz hb db rb w1:=⟨bH1.cell 0 rfl,bH1.cell 1 rfl⟩
 have l1:=bH1.lt;have hO1:=hO w1.drew (hD1.below (Below.refl _ _).drew) hB1.drew;unfold Yg at hO1;clear hBf hO
 go_region_held3 (Uz hb db rb) (first
  | with_reducible exact Uz.drew hP1
  | with_reducible assumption) (first | (go_at_call 55;refine hO1.mono ?_;rintro e w2 ⟨rfl,⟨l2,f2,hD2⟩,hb2⟩;have bH2:=Spares.box (W:=w1.drew) hb2 bH1 (by simpa using hne);have hP2:Uz hb db rb w2:=⟨bH2.cell 0 rfl,bH2.cell 1 rfl⟩))
 have hz1:w1.drew.heap.size=w1.heap.size:=rfl;have bF2:=Spares.box (W:=w1.drew) hb2 bF1 (by simp;omega);have bR2:=Spares.box (W:=w1.drew) hb2 bR1 (by simpa using Ne.symm hnd);have hB2:Below B w w2:=hB1.drew.trans (hb2.below (by have:=hB1.size;omega) (fun b hb=>by rw [List.mem_singleton.1 hb];exact lo2));have hS3:Spares [hb] w2 ((w2.setCell ⟨hb,2,none⟩ (.pointer none)).setCell ⟨hb,2,none⟩ (.pointer none)):=((Spares.of_below (Below.refl _ _)).set (by simp) _ _).set (by simp) _ _;have bH3:=(bH2.set 2 (.pointer none)).set 2 (.pointer none);have hD3:=hD2.spared hS3 (by simpa using Ne.symm hne) (by obtain⟨n3,-,m3⟩:=hD2.dm;simpa using BoxN.Xw bH2 m3) (by obtain⟨n3,-,m3⟩:=hD2.nm;simpa using BoxN.Xw bH2 m3) (fun q hq=>by simpa using(hD2.sd q hq).ne bH2 (by decide)) (fun q hq=>by simpa using(hD2.sn q hq).ne bH2 (by decide));have hB3:Below B w ((w2.setCell ⟨hb,2,none⟩ (.pointer none)).setCell ⟨hb,2,none⟩ (.pointer none)):=(hB2.setCell (p:=⟨hb,2,none⟩) lo1 (.pointer none)).setCell (p:=⟨hb,2,none⟩) lo1 (.pointer none)
 have hTo:=fun W (hS:Spares [hb,db] ((w2.setCell ⟨hb,2,none⟩ (.pointer none)).setCell ⟨hb,2,none⟩ (.pointer none)) W)=>Vf n (.inr (by rcases hn with rfl | rfl <;> simp [Ml])) W (hG.below ((hB3.trans (hS.below (Nat.le_trans hBw hB3.size) (fun q hq=>by simp at hq;omega))).mono b9))
 have fz:=bH2.frozen 2;have h2:=bH2.cell 2 (v:=vv) rfl;have g0:=bF2.cell 0 (v:=.int .i64 a) rfl;have g1:=bF2.cell 1 (v:=.int .i64 a') rfl;have g2:=bF2.cell 2 (v:=.int .i64 c) rfl;have g3:=bF2.cell 3 (v:=.int .i64 d) rfl
 have nF:w.heap.size≠hb:=by omega
 have hn0:¬ n=0:=by omega
 simp only [Jf,if_neg hn0] at hTo;have hAf:=Xu8 hb db rb md mn bd b (textL ls) a a' c d l2 f2 d0 d1 _ bH3 hD3;unfold Yn at hAf;have HB3:=Xb hB3;clear hD3 hD2 hO1 hD1 hB3
 go_wp2_with (first
  | (go_at_call 42;refine hAf.mono ?_;rintro e w4 ⟨rfl,bH4,hD4,hS4⟩)
  | (go_at_call 43;refine(hTo _ hS4).mono ?_;rintro e w5 ⟨rfl,hb5⟩))
 go_ret;obtain⟨mn',b',hmn,hD4⟩:=hD4;have hB4:=(Xa HB3).trans (hS4.below (Nat.le_trans hBw (Xa HB3).size) (fun q hq=>by simp at hq;omega));have hSp:Spares [hb,db] w w4:=((((Spares.of_below (bs:=[hb,db]) hB0).trans (Spares.X6 hg1 (by simp))).drew).trans (hb2.mono (by simp))).trans ((hS3.mono (by simp)).trans hS4)
 have hmn':mn'=mn\/w.heap.size<=mn':=by
  rcases hmn with h | h
  ·exact .inl h
  exact .inr (Nat.le_trans (Xa HB3).size h)
 exact⟨rfl,bH4.below hb5 bH4.lt,⟨mn',b',hmn',hD4.below hb5⟩,hB4.trans (hb5.mono (Nat.le_trans hBw hB4.size)),hSp.trans (Spares.of_below hb5)⟩
theorem Tryz.up0 (db b n:Nat) (m2 p l f dn:Value) (w:World) (hD:BoxN w db 100 #[.map (some b),m2,p,l,f,dn]) (hown:w.ownsMap prog 9 Yd b n (.map [])) :
  Calls prog 56 #[.pointer (some ⟨db,0,none⟩)] w fun e w'=>e=.returned (.tuple #[])/\(∃ b2,w.heap.size<=b2/\w'.ownsMap prog 9 Yd b2 0 (.map [])/\BoxN w' db 100 #[.map (some b),.map (some b2),.slice none 0 0,l,f,.bool false])/\w.grownBy w' (some db):=by
 have hmk:∀ W,(Instr.makeMap 97 none).run prog W=.ok (.map (some W.heap.size)) (W.alloc (.map #[] 0)):=fun W=>run_makeMap _ W
 have d0:=hD.cell 0 (v:=.map (some b)) rfl;have d1:=hD.cell 1 (v:=m2) rfl;have d2:=hD.cell 2 (v:=p) rfl;have d5:=hD.cell 5 (v:=dn) rfl;have f1:=hD.frozen 1;have f2:=hD.frozen 2;have f5:=hD.frozen 5;have lD:=hD.lt;go_enter func56,ntmps56;have hne:=hD.ne_map hown;have hown1:=(hown.setCell (a:=⟨db,1,none⟩) hne (.map (some w.heap.size))).alloc (.map #[] 0)
 go_wp2_with (first
  | (at_range;refine wpList_range_own _ rfl _ 97 rfl 9 101 (string_keyed underlying9) underlying97 _ b n _ rfl hown1 ?_;intro w1 hrg hg1 hs1)
  | go_in)
 have bD1:BoxN w1 db 100 #[.map (some b),.map (some w.heap.size),p,l,f,dn]:=((hD.set 1 (.map (some w.heap.size))).alloc (.map #[] 0)).kept hg1 (by simp);have hMn0:=World.ownsMap_made (w.setCell ⟨db,1,none⟩ (.map (some w.heap.size))) prog 9 Yd;have hMn1:=hMn0.kept hg1 (by simp);rw [World.size_setCell] at hMn1
 have hgr:w.grownBy w1 (some db):=⟨hg1.os,hg1.tape,hg1.output,by rw [hs1];simp;omega,fun k hk hnk=>by
  have hd:k≠db:=fun e=>hnk (by rw [e])
  rw [hg1.block k (by simp;omega) (by simp)]
  show (((w.setCell ⟨db,1,none⟩ (.map (some w.heap.size))).heap.push _)[k]?)=_
  rw [Array.getElem?_push_lt (by simpa using hk),<- Array.getElem?_eq_getElem,Yt _ _ _ _ _ hd]⟩
 have HG:=Xb hgr;clear hgr hg1 hs1 hown1 hown d0 d1 d2 d5 f1 f2 f5;have d2:=bD1.cell 2 (v:=p) rfl;have d5:=bD1.cell 5 (v:=dn) rfl;have f2:=bD1.frozen 2;have f5:=bD1.frozen 5;refine wp_loop_rounds 1 ?_;rw [rounds_succ]
 go_wp2_with (first
  | (at_next;refine wpList_next_ranges _ rfl _ rfl 9 (string_keyed underlying9) Yd (fun v:Value=>v) (fun v:Value=>v) (fun v _ _=>⟨v,rfl⟩) (fun v _ _=>⟨v,rfl⟩) b _ n _ _ _ rfl hrg ?_ ?_)
  | go_in)
 ·intro _ _
  clear hrg;go_wp2
  go_end0
  have hnn:=bD1.ne_map hMn1;exact⟨rfl,⟨_,Nat.le_refl _,(hMn1.setCell (a:=⟨db,2,none⟩) hnn _).setCell (a:=⟨db,5,none⟩) hnn _,(bD1.set 2 _).set 5 _⟩,(Xa HG).andThen (Xfi w1 db 2 5 _ _) (fun j e=>.inr e)⟩
 intro x c kl y yp w' cnt' _ h2;have h3:false=true:=h2;cases h3
theorem Tryz.Xvy (db md mn:Nat) (fn:Option (Nat × List UInt8)) (l f:Int) (ke pa:Int) (p0 : -9223372036854775808<=pa) (p1:pa<=9223372036854775807) (w:World) (hD:Xj w db md mn none fn (.slice none 0 0) l f) :
  Calls prog 54 #[.pointer (some ⟨db,0,none⟩),.int .i64 ke,.int .i64 pa] w fun e w'=>e=.returned (.tuple #[])/\∃ mn',w.heap.size<=mn'/\Xj w' db md mn' none none (.slice none 0 0) (-1) (-1)/\Spares [db] w w':=by
 have hP:=fun W=>Xl4 pa p0 p1 W
 have hmk:∀ W,(Instr.makeMap 170 none).run prog W=.ok (.map (some W.heap.size)) (W.alloc (.map #[] 0)):=fun W=>run_makeMap _ W
 have d2:=hD.box.cell 2 (v:=.slice none 0 0) rfl;have d3:=hD.box.cell 3 (v:=.int .i64 l) rfl;have d4:=hD.box.cell 4 (v:=.int .i64 f) rfl;have f3:=hD.box.frozen 3;have f4:=hD.box.frozen 4;have lD:=hD.lt;obtain⟨n,hn,hm⟩:=hD.dm
 change w.ownsMap prog 9 Yd md n (.map []) at hm
 have lM:=hm.lt
 have hU:=fun W (hS:Spares [db] w W) (bD:BoxN W db 100 #[.map (some md),.map (some mn),.slice none 0 0,.int .i64 (-1),.int .i64 (-1),.bool false])=>up0 db md n _ _ _ _ _ W bD (hS.map hm (by have:=hD.box.ne_map hm;simpa using this))
 have hS1:Spares [db] w (((w.setCell ⟨db,3,none⟩ (.int .i64 (-1))).setCell ⟨db,4,none⟩ (.int .i64 (-1))).alloc (.map #[] 0)):=(((Spares.of_below (Below.refl _ w)).set (by simp) _ _).set (by simp) _ _).alloc (.map #[] 0);have bD1:BoxN (((w.setCell ⟨db,3,none⟩ (.int .i64 (-1))).setCell ⟨db,4,none⟩ (.int .i64 (-1))).alloc (.map #[] 0)) db 100 #[.map (some md),.map (some mn),.slice none 0 0,.int .i64 (-1),.int .i64 (-1),.bool false]:=((hD.box.set 3 _).set 4 _).alloc (.map #[] 0);go_enter func54,ntmps54
 go_wp2_with (go_at_call 97;refine(hP _).mono ?_;rintro e w1 ⟨⟨z,rfl⟩,rfl⟩)
 refine wp_loop_rounds 1 ?_;rw [rounds_succ]
 go_wp2_with (go_at_call 56;refine(hU _ hS1 bD1).mono ?_;rintro e w2 ⟨rfl,⟨mn',hge,hM2,bD2⟩,hg2⟩;have hS2:Spares [db] _ w2:=Spares.X6 hg2 (by simp))
 go_end0
 have hS3:=hS1.trans hS2;have hz1:=hS1.size;have hdb:=hD.box.ne_map hm;exact⟨rfl,mn',Nat.le_trans hz1 hge,⟨bD2,⟨n,hn,hS3.map hm (by simpa using hdb)⟩,⟨0,by omega,hM2⟩,fun q hq=>(by cases hq),fun q hq=>(by cases hq),by omega⟩,hS3⟩
theorem Tryz.Xvl (hb db rb md mn:Nat) (vv:Value) (fn:Option (Nat × List UInt8)) (l f:Int) (ke pa:Int) (p0 : -9223372036854775808<=pa) (p1:pa<=9223372036854775807) (w:World) (hH:BoxN w hb 78 #[.pointer (some ⟨db,0,none⟩),.pointer (some ⟨rb,0,none⟩),vv]) (hD:Xj w db md mn none fn (.slice none 0 0) l f) :
  Calls prog 32 #[.pointer (some ⟨hb,0,none⟩),.int .i64 ke,.int .i64 pa] w fun e w'=>e=.returned (.tuple #[])/\BoxN w' hb 78 #[.pointer (some ⟨db,0,none⟩),.pointer (some ⟨rb,0,none⟩),.pointer none]/\∃ mn',w.heap.size<=mn'/\Xj w' db md mn' none none (.slice none 0 0) (-1) (-1)/\Spares [hb,db] w w':=by
 have hne:=hH.ne hD.box (by decide);have h0:=hH.cell 0 (v:=.pointer (some ⟨db,0,none⟩)) rfl;have h2:=hH.cell 2 (v:=vv) rfl;have f2:=hH.frozen 2;obtain⟨n,hn,hm⟩:=hD.dm;obtain⟨n',hn',hm'⟩:=hD.nm;have hS1:Spares [hb] w (w.setCell ⟨hb,2,none⟩ (.pointer none)):=(Spares.of_below (Below.refl _ w)).set (by simp) _ _;have bH1:=hH.set 2 (.pointer none);have hD1:=hD.spared hS1 (by simpa using Ne.symm hne) (by simpa using hH.ne_map hm) (by simpa using hH.ne_map hm') (fun q hq=>by have:=(hD.sd q hq).ne hH (by decide);simpa using this) (fun q hq=>by have:=(hD.sn q hq).ne hH (by decide);simpa using this);have hC:=Xvy db md mn fn l f ke pa p0 p1 _ hD1;go_enter func32,ntmps32
 go_wp2_with (go_at_call 54;refine hC.mono ?_;rintro e w2 ⟨rfl,mn',hge,hD2,hS2⟩)
 go_end0
 exact⟨rfl,hS2.box bH1 (by simpa using hne),mn',by simpa using hge,hD2,(hS1.mono (by simp)).trans (hS2.mono (by simp))⟩
theorem Tryz.Xsu (B hb db rb md mn:Nat) (vv ra rc:Value) (l f:Int) (now a a' c d:Int) (w:World) (hH:BoxN w hb 78 #[.pointer (some ⟨db,0,none⟩),.pointer (some ⟨rb,0,none⟩),vv]) (hD:Xj w db md mn none none (.slice none 0 0) l f) (hR:BoxN w rb 88 #[ra,rc]) (hlo:B<=hb/\B<=db/\B<=rb/\B<=md/\B<=mn) (hBw:B<=w.heap.size) (b9:9<=B) (hE:Env w) (hG:Ja w) (t0:0<=now) (t1:now<=18446744073709551615) :
  Calls prog 33 #[.pointer (some ⟨hb,0,none⟩),.int .u64 now,Yn a a' c d] w fun e w'=>e=.returned (.int .i64 0)/\(∃ k vx,Sys B w' hb rb ⟨k,vx,now,⟨0,0,[rootE],[]⟩,[]⟩)/\Below B w w'/\Spares [hb,db] w w':=
 Xqx B hb db rb md mn _ _ vv ra rc l f now a a' c d _ _ _ w hH hD hR hlo hBw b9 hG (fun W hD' hb'=>(Xjm db md mn rb a a' now W hD' (hE.below hb' (by omega)) (by have:=hb'.size;omega) (hG.below (hb'.mono b9)) t0 t1 ⟨by omega,by omega,by omega⟩).mono (fun e w' h=>by
  obtain⟨vb,mt,ml,jb,rfl,h1,h2,h3⟩:=h
  exact⟨vb,mt,ml,jb,rfl,⟨_,_,h1⟩,h2,Spares.of_below h3⟩))
structure Tryz.Dn (B:Nat) (W:World) (hb rb:Nat) (tm:Int) (s:VSt) (c:List UInt8):Prop where
 ex:∃ db md mn fd fn vv l f,BoxN W hb 78 #[.pointer (some ⟨db,0,none⟩),.pointer (some ⟨rb,0,none⟩),vv]/\Tryz.Xj W db md mn fd fn (.slice none 0 0) l f/\Fl fd c/\Fl fn c/\B<=db/\B<=md/\B<=mn
 rv:∃ ra rc,BoxN W rb 88 #[ra,rc]
 rlow:B<=rb
 hlow:B<=hb
 b9:9<=B
 bw:B<=W.heap.size
 env:Tryz.Env W
 err:Tryz.Ja W
 log:Log tm s c
 len:c.length<4294967281
theorem Tryz.Sys.dn {B hb rb:Nat} {σ:SS} {W:World} (h:Sys B W hb rb σ) (hbw:B<=W.heap.size) (hl:σ.c.length<4294967281):Dn B W hb rb σ.tm σ.s σ.c:=by
 obtain⟨fd,fn,hd,e1,e2⟩:=h.wh.d;exact⟨⟨_,_,_,fd,fn,_,_,_,h.host,hd,e1,e2,h.low _ (by simp [Blk.turns]),h.low _ (by simp [Blk.turns]),h.low _ (by simp [Blk.turns])⟩,h.rvb,h.rlow,h.hlow,h.b9,hbw,h.wh.v.va.env,h.err,h.wh.log,hl⟩
section
variable {B hb rb:Nat} {tm:Int} {s:VSt} {c:List UInt8} {W W':World}
theorem Tryz.Dn.other (h:Dn B W hb rb tm s c) {bs:List Nat} (hs:Spares bs W W') (hq:∀ b∈bs,X1 W b):Dn B W' hb rb tm s c:=by
 have hbx:∀ {b:Nat} {t:TypeId} {cs:Array Value},BoxN W b t cs->foreign t=false->b∉bs:=fun hB ht hm=>(hq _ hm).ne hB ht rfl
 obtain⟨db,md,mn,fd,fn,vv,l,f,hH,hd,e1,e2,l1⟩:=h.ex;obtain⟨ra,rc,hr⟩:=h.rv;obtain⟨n3,-,m3⟩:=hd.dm;obtain⟨n4,-,m4⟩:=hd.nm;have h9:9<=W.heap.size:=Nat.le_trans h.b9 h.bw;have hB9:Below 9 W W':=hs.below h9 (fun b hm=>(hq b hm).1)
 exact { h with
  ex:=⟨db,md,mn,fd,fn,vv,l,f,hs.box hH (hbx hH (by decide)),hd.spared hs (hbx hd.box (by decide)) (fun hm=>(hq _ hm).ne_map m3 rfl) (fun hm=>(hq _ hm).ne_map m4 rfl) (fun q hq'=>hbx (hd.sd q hq') (by decide)) (fun q hq'=>hbx (hd.sn q hq') (by decide)),e1,e2,l1⟩
  rv:=⟨ra,rc,hs.box hr (hbx hr (by decide))⟩
  bw:=Nat.le_trans h.bw hs.size
  env:=h.env.below hB9 (by decide)
  err:=h.err.below hB9 }
theorem Tryz.Dn.below (h:Dn B W hb rb tm s c) (hB:Below W.heap.size W W'):Dn B W' hb rb tm s c:=h.other (bs:=[]) (Spares.of_below hB) (by simp)
end
theorem Tryz.Xnq {B hb db:Nat} {W W':World} {cs ds:Array Value} (hH:BoxN W hb 78 cs) (hD:BoxN W db 100 ds) (h1:B<=hb) (h2:B<=db) (hs:Spares [hb,db] W W'):Z8 B W W':=⟨_,hs,fun b hm=>by
 simp only [List.mem_cons,List.not_mem_nil,or_false] at hm
 rcases hm with rfl | rfl
 ·exact⟨h1,fun hF=>hF.ne hH (by decide) rfl⟩
 exact⟨h2,fun hF=>hF.ne hD (by decide) rfl⟩⟩
theorem Tryz.Z8.below {B:Nat} {W W':World} (h:Z8 B W W') (hB:B<=W.heap.size):Below B W W':=by
 obtain⟨hs,h1,h2⟩:=h;exact h1.below hB (fun b hb=>(h2 b hb).1)
theorem Xb7 {fd:Option (Nat × List UInt8)} {c:List UInt8} (h:Fl fd c):(c = []/\fd=none)\/(c ≠ []/\∃ b,fd=some (b,c)):=by
 by_cases hc:c = []
 ·exact .inl ⟨hc,h.2 hc⟩
 exact .inr ⟨hc,Xcx h.1 hc⟩
theorem Tryz.Xqn {B hb rb:Nat} {tm:Int} {s:VSt} {c:List UInt8} {w:World} (h:Dn B w hb rb tm s c) (ke pa:Int) (p0 : -9223372036854775808<=pa) (p1:pa<=9223372036854775807) :
  Calls prog 32 #[.pointer (some ⟨hb,0,none⟩),.int .i64 ke,.int .i64 pa] w fun e w'=>e=.returned (.tuple #[])/\Dn B w' hb rb tm s c/\Z8 B w w':=by
 obtain⟨db,md,mn,fd,fn,vv,l,f,hH,hd,e1,e2,l1,l2,l3⟩:=h.ex;obtain⟨ra,rc,hr⟩:=h.rv;have b9:=h.b9;have bw:=h.bw
 have fin:∀ w' (o:Option (Nat × List UInt8)) (mn':Nat),Fl o c->w.heap.size<=mn'->BoxN w' hb 78 #[.pointer (some ⟨db,0,none⟩),.pointer (some ⟨rb,0,none⟩),.pointer none]->Xj w' db md mn' o o (.slice none 0 0) (-1) (-1)->Spares [hb,db] w w'->Dn B w' hb rb tm s c/\Z8 B w w':=fun w' o mn' ho hmn bH hD hs=>by
  have hSp:=Xnq hH hd.box h.hlow l1 hs;have hB:=hSp.below bw;have hB9:=hB.mono b9;refine⟨{ h with ex:=⟨db,md,mn',o,o,_,_,_,bH,hD,ho,ho,l1,l2,by omega⟩,rv:=⟨ra,rc,hs.box hr ?_⟩,bw:=Nat.le_trans bw hB.size,env:=h.env.below hB9 (by decide),err:=h.err.below hB9 },hSp⟩;simp only [List.mem_cons,List.not_mem_nil,or_false,not_or];exact⟨Ne.symm (hH.ne hr (by decide)),Ne.symm (hd.box.ne hr (by decide))⟩
 rcases Xb7 e1 with⟨hc,rfl⟩ | ⟨hc,bd,rfl⟩
 ·refine(Xvl hb db rb md mn _ fn _ _ ke pa p0 p1 w hH hd).mono ?_
  rintro e w' ⟨rfl,bH,mn',hmn,hD,hs⟩;exact⟨rfl,fin w' none mn' (by rw [hc];exact Fl.none) hmn bH hD hs⟩
 refine(Xom hb db rb md mn bd _ c fn _ _ ke pa p0 p1 w hH hd).mono ?_;rintro e w' ⟨rfl,bH,mn',hmn,hD,hs⟩;exact⟨rfl,fin w' (some (bd,c)) mn' (Fl.some hc) hmn bH hD hs⟩
theorem Tryz.Xmd {B hb rb:Nat} {tm:Int} {s:VSt} {c:List UInt8} {w:World} (h:Dn B w hb rb tm s c) (now a a' ke pa:Int) (t0:0<=now) (t1:now<=18446744073709551615) (ha:c = []\/(a≠0/\a'≠0)) :
  Calls prog 33 #[.pointer (some ⟨hb,0,none⟩),.int .u64 now,Yn a a' ke pa] w fun e w'=>e=.returned (.int .i64 0)/\(∃ k vx T,(now<=T/\(T<=now\/T<=tm))/\Sys B w' hb rb ⟨k,vx,T,s,c⟩)/\Z8 B w w':=by
 obtain⟨db,md,mn,fd,fn,vv,l,f,hH,hd,e1,e2,l1,l2,l3⟩:=h.ex;obtain⟨ra,rc,hr⟩:=h.rv;obtain⟨ls,hok,hs,hcc,hle⟩:=h.log.ex;have hl:=h.len
 have lo:B<=hb/\B<=db/\B<=rb/\B<=md/\B<=mn:=⟨h.hlow,l1,h.rlow,l2,l3⟩
 rcases Xb7 e1 with⟨hc,rfl⟩ | ⟨hc,bd,rfl⟩
 ·obtain⟨-,rfl⟩:c = []/\fn=none:=by
   rcases Xb7 e2 with h2 | h2
   ·exact h2
   exact absurd hc h2.1
  subst hc
  have hnil:ls = []:=Classical.byContradiction fun hn=>Xb9 hn hcc.symm
  subst hnil;refine(Xsu B hb db rb md mn _ ra rc _ _ now a a' ke pa w hH hd hr lo h.bw h.b9 h.env h.err t0 t1).mono ?_;rintro e w' ⟨rfl,⟨k,vx,hS⟩,-,hsp⟩;rw [show (⟨0,0,[rootE],[]⟩:VSt)=s from hs.symm] at hS;exact⟨rfl,⟨k,vx,now,⟨Int.le_refl _,.inl (Int.le_refl _)⟩,hS⟩,Xnq hH hd.box h.hlow l1 hsp⟩
 obtain⟨b,rfl⟩:∃ b,fn=some (b,c):=by
  rcases Xb7 e2 with h2 | h2
  ·exact absurd h2.1 hc
  exact h2.2
 have hnel:ls ≠ []:=fun e=>by rw [e] at hcc;exact hc hcc
 obtain⟨ha1,ha2⟩:a≠0/\a'≠0:=by
  rcases ha with e | e
  ·exact absurd e hc
  exact e
 subst hcc;refine(Xv0 B hb db rb md mn bd b _ ra rc _ _ now a a' ke pa ha1 ha2 ls hok hnel hl w hH hd hr lo h.bw h.b9 h.env h.err t0 t1).mono ?_;rintro e w' ⟨rfl,⟨k,vx,hS⟩,-,hsp⟩;rw [<- hs] at hS;refine⟨rfl,⟨k,vx,_,⟨(Xmq ls now).1,?_⟩,hS⟩,Xnq hH hd.box h.hlow l1 hsp⟩
 have key:∀(ls:List Ye) (t:Int),(∀ l∈ls,l.tm<=tm)->tmL t ls<=t\/tmL t ls<=tm:=fun ls=>by
  induction ls with
  | nil=>intro t _;exact .inl (Int.le_refl _)
  | cons x ls ih =>
   intro t hx;have h1:=hx x (by simp);have h2:=ih (max t x.tm) (fun l hl=>hx l (List.mem_cons_of_mem _ hl))
   show tmL (max t x.tm) ls<=t\/tmL (max t x.tm) ls<=tm
   omega
 exact key ls now hle
theorem Tryz.Xue {B hb rb:Nat} {tm:Int} {s:VSt} {c:List UInt8} (now a a' ke pa:Int) (t0:0<=now) (t1:now<=18446744073709551615) (p0 : -9223372036854775808<=pa) (p1:pa<=9223372036854775807) :
  ∃ n:Int,(n=0\/(n=8/\a=0)\/(n=7/\a'=0))/\∀ w,Dn B w hb rb tm s c->Calls prog 33 #[.pointer (some ⟨hb,0,none⟩),.int .u64 now,Yn a a' ke pa] w fun e w'=>e=.returned (.int .i64 n)/\Dn B w' hb rb (max tm now) s c/\Z8 B w w':=by
 by_cases hw:c = []\/(a≠0/\a'≠0)
 ·refine⟨0,.inl rfl,fun w h=>(Xmd h now a a' ke pa t0 t1 hw).mono ?_⟩
  rintro e w' ⟨rfl,⟨k,vx,T,hT,hS⟩,hsp⟩;have hd:=hS.dn (Nat.le_trans h.bw (hsp.below h.bw).size) h.len;exact⟨rfl,{ hd with log:=h.log.mono (by omega) },hsp⟩
 have hc:c ≠ []:=fun e=>hw (.inl e)
 obtain⟨n,hn,hev⟩:∃ n:Int,((n=8/\a=0)\/(n=7/\a'=0))/\evD a a'=.iface 33 (.int .i64 n):=by
  by_cases ha:a=0
  ·exact⟨8,.inl ⟨rfl,ha⟩,Xfp ha⟩
  have ha':a'=0:=Classical.byContradiction fun e=>hw (.inr ⟨ha,e⟩)
  exact⟨7,.inr ⟨rfl,ha'⟩,Xe2 ha ha'⟩
 refine⟨n,.inr hn,fun w h=>?_⟩;obtain⟨db,md,mn,fd,fn,vv,l,f,hH,hd,e1,e2,l1,l2,l3⟩:=h.ex;obtain⟨ra,rc,hr⟩:=h.rv;obtain⟨ls,hok,hs,hcc,hle⟩:=h.log.ex;obtain⟨bd,rfl⟩:=Xcx e1.1 hc;obtain⟨b,rfl⟩:=Xcx e2.1 hc;have hl:=h.len
 have hnel:ls ≠ []:=fun e=>by rw [e] at hcc;exact hc hcc
 have hlog:=h.log;subst hcc;refine(Xv8 B hb db rb md mn bd b _ ra rc _ _ now a a' ke pa p0 p1 n (by omega) hev ls hok hnel hl w hH hd hr ⟨h.hlow,l1,h.rlow,l2,l3⟩ h.bw h.b9 h.env h.err t0 t1).mono ?_;rintro e w' ⟨rfl,bH,⟨mn',b',hmn,hD⟩,hB,hsp⟩;have hB9:=hB.mono h.b9;have bw:=h.bw;refine⟨rfl,{ h with ex:=⟨db,md,mn',_,_,_,_,_,bH,hD,Fl.some hc,Fl.some hc,l1,l2,by omega⟩,rv:=⟨ra,rc,hsp.box hr ?_⟩,bw:=Nat.le_trans bw hB.size,env:=h.env.below hB9 (by decide),err:=h.err.below hB9,log:=hlog.mono (by omega) },Xnq hH hd.box h.hlow l1 hsp⟩;simp only [List.mem_cons,List.not_mem_nil,or_false,not_or];exact⟨Ne.symm (hH.ne hr (by decide)),Ne.symm (hd.box.ne hr (by decide))⟩
end Go.Proofs
