import Derived.Test.YtjbekgjdempbiaaGreatDoorJKpA
import Derived.Test.YtjbekgjdempbiaaGreatDoorJRefR
import Derived.Test.YtjbekgjdempbiaaGreatDoorJAskVT
import Derived.Test.YtjbekgjdempbiaaGreatDoorJRefG
import Derived.Test.YtjbekgjdempbiaaGreatDoorJLogA
set_option maxRecDepth 100000
set_option maxHeartbeats 8000000
namespace Go.Proofs
open Go.RowKit Go.Sort Go.Lib Go.Shelf Go.Maps Go.WideMaps
theorem Jn.some {tm:Int} {a b:TS} (h:Jn tm a b):a.q ≠ []:=fun e=>by
 cases h with
 | fail hs hp hl ho hq=>rw [e] at hp;exact absurd hp.length_eq (by simp)
 | ok hs hp hl ho hq=>rw [e] at hp;exact absurd hp.length_eq (by simp)
def lea1 (at_:Int) (pd:Bool):Xc:=⟨1,1,0,at_,0,pd,[97,47,98],120⟩
def pickI (c n:Int):Int:=(if c<0 then -(c+1) else c) % n
theorem Xc0 {fd:Option (Nat × List UInt8)} {c:List UInt8} (h:U6 fd=c) (hc:c ≠ []):∃ b,fd=some (b,c):=by
 cases fd with
 | none=>exact absurd h.symm hc
 | some p =>
  obtain⟨b,x⟩:=p;have:x=c:=h;exact⟨b,by rw [this]⟩
theorem Tryz.Xu9 (db md mn b vb mt ml:Nat) (fd:Option (Nat × List UInt8)) (l f:Int) (vx:VX) (tm:Int) (s:VSt) (ls:List Yd) (hok:OkL ls s) (hne:ls ≠ []) (hlen:(textL ls).length<4294967281) (w:World)
  (hD:Xj w db md mn fd (some (b,textL ls)) (.slice none 0 0) l f) (hl:l≠0) (hf:f≠0) (hV:VF w vb mt ml vx (tm,s)) (h9:9<=w.heap.size) (hG:Ja w) (d9:9<=db)
  (n1:db ∉ [vb,mt,ml]) (n2:md ∉ [vb,mt,ml]) (n3:mn ∉ [vb,mt,ml]) (n4:∀ q,fd=some q->q.1 ∉ [vb,mt,ml]) (n5:b ∉ [vb,mt,ml]) :
  Calls prog 99 #[Yg db,.func (.func 100) #[.pointer (some ⟨vb,0,none⟩)] #[]] w fun e w'=>e=.returned (.tuple #[.pointer (some ⟨w.heap.size,0,none⟩),.nilIface])/\BoxN w' w.heap.size 212 #[Yg db,.int .u64 0,.nilIface]/\VF w' vb mt ml vx (tmL tm ls,playL ls s)/\(∃ l' f':Int,Xj w' db md mn fd (some (b,textL ls)) (.slice none 0 0) l' f')/\Spares [db,vb,mt,ml] w w':=by
 have hm:=fun W=>Mr db W
 have hB0:Below w.heap.size w (w.alloc (.cells #[Yg db,.int .u64 0,.nilIface] 212)):=(Below.refl _ w).alloc (Nat.le_refl _) _;have bJ:=BoxN.new w 212 #[Yg db,.int .u64 0,.nilIface]
 have hasc:∀ x∈textL ls,x.toNat<128:=fun x hx=>by
  obtain⟨li,hli,hx⟩:=List.mem_flatMap.1 hx
  have h1:Ym (recLine li.recs):=by
   unfold recLine;rw [Jc];exact Ym.cons (by decide) (Xbk (Me _ (fun r hr=>(hok.back li hli r hr).c)))
  exact h1 x hx
 have hF:=callsIn_wide.1 (Xg3 w.heap.size db md mn b _ (textL ls) fd l f _ bJ (hD.below hB0) hlen hasc (Xgo hok hne) (hV.below hB0).va.env (Nat.le_trans h9 hB0.size) (hG.below (hB0.mono h9)))
 have hSy:=fun W (hb:Below w.heap.size w W)=>Xp8 db md mn fd _ l f W (hD.below hb)
 rw [Xff hl hf,beq_eq_false_iff_ne.2 hl] at hSy
 have hT:=fun W (hV:VF W vb mt ml vx (tm,s)) (h9:9<=W.heap.size) (hG:Ja W)=>Xtp vb mt ml vx tm s ls hok hlen W hV h9 hG
 have hnt:=Xbz hne;have lv:=hV.va.v.lt;have lh:=hV.va.held.lt;have lD:=hD.lt;generalize textL ls=txt at *;generalize playL ls s=s' at *;generalize tmL tm ls=tm' at *
 have hnb:(txt == [])=false:=by simpa using hnt
 unfold Yg at hF hB0 bJ ⊢;go_enter func99,ntmps99
 go_wp2_with (first
  | (go_at_call 146;refine hF.mono ?_;rintro e w1 ⟨rfl,hb1⟩;have hB1:=hB0.trans (hb1.mono (by simp));have bJ1:=bJ.below hb1 (by simp))
  | (go_at_call 309;refine(hSy _ hB1).mono ?_;rintro e w2 ⟨rfl,⟨l',f',hD2'⟩,hS2⟩;have hD2:=hD2'.at;have hV2:=(hV.below hB1).spared hS2 (by simp at n1 ⊢;omega) (by simp at n1 ⊢;omega) (by simp at n1 ⊢;omega) (fun b hb=>by rw [List.mem_singleton.1 hb];omega);have hG2:=hG.below (((hB1.mono h9)).trans (hS2.below (by have:=hB1.size;omega) (fun b hb=>by rw [List.mem_singleton.1 hb];exact d9)));have hT2:=hT w2 hV2 (by have:=hB1.size;have:=hS2.size;omega) hG2)
  | (go_at_call 147;refine hT2.mono ?_;rintro e w3 ⟨rfl,hV3,hS3⟩))
 go_ret2
 exact⟨rfl,hS3.box (hS2.box bJ1 (by simp;omega)) (by simp;omega),hV3,⟨l',f',hD2.spared hS3 n1 n2 n3 n4 (fun q hq=>by cases hq;exact n5)⟩,((Spares.of_below hB1).trans (hS2.mono (by simp))).trans (hS3.mono (by simp))⟩
theorem Tryz.Xvn (db md mn b vb mt ml:Nat) (fd:Option (Nat × List UInt8)) (l f:Int) (vx:VX) (tm:Int) (s:VSt) (ls:List Yd) (hok:OkL ls s) (hne:ls ≠ []) (hlen:(textL ls).length<4294967281) (w:World)
  (hD:Xj w db md mn fd (some (b,textL ls)) (.slice none 0 0) l f) (n:Int) (hev:evD l f=.iface 33 (.int .i64 n)) (hV:VF w vb mt ml vx (tm,s)) (h9:9<=w.heap.size) (hG:Ja w) :
  Calls prog 99 #[Yg db,.func (.func 100) #[.pointer (some ⟨vb,0,none⟩)] #[]] w fun e w'=>e=.returned (.tuple #[.pointer none,.iface 33 (.int .i64 n)])/\(∃ l' f':Int,Mx w' db md mn fd (some (b,textL ls)) (.slice none 0 0) l' f' (l==0))/\Spares [db] w w':=by
 have hm:=fun W=>Mr db W
 have hB0:Below w.heap.size w (w.alloc (.cells #[Yg db,.int .u64 0,.nilIface] 212)):=(Below.refl _ w).alloc (Nat.le_refl _) _;have bJ:=BoxN.new w 212 #[Yg db,.int .u64 0,.nilIface]
 have hasc:∀ x∈textL ls,x.toNat<128:=fun x hx=>by
  obtain⟨li,hli,hx⟩:=List.mem_flatMap.1 hx
  have h1:Ym (recLine li.recs):=by
   unfold recLine;rw [Jc];exact Ym.cons (by decide) (Xbk (Me _ (fun r hr=>(hok.back li hli r hr).c)))
  exact h1 x hx
 have hF:=callsIn_wide.1 (Xg3 w.heap.size db md mn b _ (textL ls) fd l f _ bJ (hD.below hB0) hlen hasc (Xgo hok hne) (hV.below hB0).va.env (Nat.le_trans h9 hB0.size) (hG.below (hB0.mono h9)))
 have hSy:=fun W (hb:Below w.heap.size w W)=>Xp8 db md mn fd _ l f W (hD.below hb)
 rw [hev] at hSy;have hnt:=Xbz hne;have lv:=hV.va.v.lt;have lh:=hV.va.held.lt;have lD:=hD.lt;generalize textL ls=txt at *
 have hnb:(txt == [])=false:=by simpa using hnt
 unfold Yg at hF hB0 bJ ⊢;go_enter func99,ntmps99
 go_wp2_with (first
  | (go_at_call 146;refine hF.mono ?_;rintro e w1 ⟨rfl,hb1⟩;have hB1:=hB0.trans (hb1.mono (by simp));have bJ1:=bJ.below hb1 (by simp))
  | (go_at_call 309;refine(hSy _ hB1).mono ?_;rintro e w2 ⟨rfl,hD2,hS2⟩))
 go_ret2
 exact⟨rfl,hD2,(Spares.of_below hB1).trans hS2⟩
theorem Tryz.Xwf (db md mn rb bd b:Nat) (l f now:Int) (ls:List Yd) (hok:OkL ls rootS) (hnel:ls ≠ []) (hlen:(textL ls).length<4294967281) (w:World) (hD:Xj w db md mn (some (bd,textL ls)) (some (b,textL ls)) (.slice none 0 0) l f) (hl:l≠0) (hf:f≠0) (hE:Env w) (h9:9<=w.heap.size) (hG:Ja w) (t0:0<=now) (t1:now<=18446744073709551615) (d9:9<=db/\9<=md/\9<=mn) :
  Calls prog 55 #[Yg db,.iface 75 (.pointer (some ⟨rb,0,none⟩)),.int .u64 now] w fun e w'=>∃ vb mt ml jb,e=.returned (.tuple #[.pointer (some ⟨vb,0,none⟩),.nilIface])/\(∃ l' f':Int,Whole w' ⟨vb,mt,ml,jb,db,md,mn⟩ ⟨.pointer (some ⟨jb,0,none⟩),.iface 75 (.pointer (some ⟨rb,0,none⟩)),false,.slice none 0 0⟩ (tmL now ls) (playL ls rootS) (textL ls) l' f')/\(w.heap.size<=vb/\w.heap.size<=mt/\w.heap.size<=ml/\w.heap.size<=jb)/\Spares [db] w w':=by
 have hmkT:∀ W,(Instr.makeMap 120 none).run prog W=.ok (.map (some W.heap.size)) (W.alloc (.map #[] 0)):=fun W=>run_makeMap _ W
 have hmkL:∀ W,(Instr.makeMap 121 none).run prog W=.ok (.map (some W.heap.size)) (W.alloc (.map #[] 0)):=fun W=>run_makeMap _ W
 have hR:=fun W=>root W
 unfold nmV at hR;have hM:=World.ownsMap_made w prog 114 Ye;have hB0:Below w.heap.size w (w.alloc (.map #[] 0)):=(Below.refl _ w).alloc (Nat.le_refl _) _;have lD:=hD.lt;have lbd:=(hD.sd _ rfl).lt;have lbn:=(hD.sn _ rfl).lt;simp only at lbd lbn
 have hO:=fun W vb mt ml vx (hb:Below w.heap.size w W) (hV:VF W vb mt ml vx (now,rootS)) (q1:w.heap.size<=vb) (q2:w.heap.size<=mt) (q3:w.heap.size<=ml)=>Xu9 db md mn b vb mt ml (some (bd,textL ls)) l f vx now rootS ls hok hnel hlen W (hD.below hb) hl hf hV (Nat.le_trans h9 hb.size) (hG.below (hb.mono h9)) d9.1 (by simp;omega) (by simp;omega) (by simp;omega) (fun q hq=>by cases hq;simp;omega) (by simp;omega)
 have Hnt:Hid (textL ls ≠ []):=Xb (Xbz hnel);have hlog:Hid (Log (tmL now ls) (playL ls rootS) (textL ls)):=Xb ⟨ls,hok,rfl,rfl,(Xkt ls now).2⟩;generalize textL ls=txt at *;generalize playL ls rootS=s' at *;generalize tmL now ls=tm' at *;unfold Yg at hO ⊢;go_enter func55,ntmps55
 go_wp2_with (first
  | (go_at_call 85;refine(hR _).mono ?_;rintro e w1 ⟨rfl,hb1⟩;have hM1:=Y8 hM hb1;have hB1:=hB0.trans (hb1.mono (by simp));obtain⟨w2,hrun,hM2,hT2⟩:=hM1.store Y1 underlying120 (by decide) (key:=nmV (1,0)) (val:=Vt) (Xz.keyOf ⟨by decide,by decide⟩) (d:=.held Vt) (ps:=[]) rfl;have hB2:=hB1.grown hT2.grown hB1.size (fun q hq=>by cases hq;omega);have hB4:=hB2.alloc hB2.size (.map #[] 0);have hB5:=hB4.alloc hB4.size (.cells #[.pointer none,.iface 75 (.pointer (some ⟨rb,0,none⟩)),.int .u64 now,.map (some w.heap.size),.map (some w2.heap.size),.int .u64 0,.int .u64 0,.bool false,.slice none 0 0] 126);unfold nmV Vt at hrun)
  | fail)
 have hz2:=hB2.size;have lM2:=hM2.lt;have hMl5:=(World.ownsMap_made w2 prog 114 Ye).alloc (.cells #[.pointer none,.iface 75 (.pointer (some ⟨rb,0,none⟩)),.int .u64 now,.map (some w.heap.size),.map (some w2.heap.size),.int .u64 0,.int .u64 0,.bool false,.slice none 0 0] 126);have hMt5:=(hM2.alloc (.map #[] 0)).alloc (.cells #[.pointer none,.iface 75 (.pointer (some ⟨rb,0,none⟩)),.int .u64 now,.map (some w.heap.size),.map (some w2.heap.size),.int .u64 0,.int .u64 0,.bool false,.slice none 0 0] 126);rw [show ((DataW.map []).put (Lit.string (nmB (1,0))) (.held Vt))=mapD ([rootE].map Xd.key).reverse from Xid] at hMt5;have bV5:=BoxN.new (w2.alloc (.map #[] 0)) 126 #[.pointer none,.iface 75 (.pointer (some ⟨rb,0,none⟩)),.int .u64 now,.map (some w.heap.size),.map (some w2.heap.size),.int .u64 0,.int .u64 0,.bool false,.slice none 0 0];rw [World.size_alloc] at bV5
 have hV5:VF ((w2.alloc (.map #[] 0)).alloc (.cells #[.pointer none,.iface 75 (.pointer (some ⟨rb,0,none⟩)),.int .u64 now,.map (some w.heap.size),.map (some w2.heap.size),.int .u64 0,.int .u64 0,.bool false,.slice none 0 0] 126)) (w2.heap.size+1) w.heap.size w2.heap.size ⟨.pointer none,.iface 75 (.pointer (some ⟨rb,0,none⟩)),false,.slice none 0 0⟩ (now,rootS):=
  { va:=⟨bV5,⟨⟨_,by decide,hMt5⟩,⟨0,by decide,hMl5⟩⟩,Xla,hE.below hB5 (by omega),by have:=hB5.size;omega⟩,nt:=fun t ht=>by rw [List.mem_singleton.1 ht];exact Nat.le_refl _,nl:=fun l hl=>(by cases hl),t0:=t0,t1:=t1,okT:=fun t ht=>by rw [List.mem_singleton.1 ht];exact⟨by decide,by decide,by decide,by decide,.inr (.inr ⟨rfl,rfl⟩)⟩,okL:=fun l hl=>(by cases hl),mne:=by show w.heap.size≠w2.heap.size;omega,v9:=by show 9<=w2.heap.size+1;omega,m9:=h9,l9:=by show 9<=w2.heap.size;omega }
 have hO5:=hO _ _ _ _ _ hB5 hV5 (by omega) (Nat.le_refl _) (by omega)
 have hz5:((w2.alloc (.map #[] 0)).alloc (.cells #[.pointer none,.iface 75 (.pointer (some ⟨rb,0,none⟩)),.int .u64 now,.map (some w.heap.size),.map (some w2.heap.size),.int .u64 0,.int .u64 0,.bool false,.slice none 0 0] 126)).heap.size=w2.heap.size+1+1:=by simp
 generalize (w2.alloc (.map #[] 0)).alloc (.cells #[.pointer none,.iface 75 (.pointer (some ⟨rb,0,none⟩)),.int .u64 now,.map (some w.heap.size),.map (some w2.heap.size),.int .u64 0,.int .u64 0,.bool false,.slice none 0 0] 126)=W5 at *;rw [hz5] at hO5;clear hO hV5 bV5 hMt5 hMl5 hrun hM2 hT2 hM1 hM;refine hO5.mono ?_;rintro e w6 ⟨rfl,bJ6,hV6,⟨l',f',hD6⟩,hS6⟩;have v0:=hV6.va.v.cell 0 (v:=.pointer none) rfl;have v0f:=hV6.va.v.frozen 0;have hV7:=hV6.reJ (.pointer (some ⟨w2.heap.size+1+1,0,none⟩));have hS7:Spares [w2.heap.size+1] w6 (w6.setCell ⟨w2.heap.size+1,0,none⟩ (.pointer (some ⟨w2.heap.size+1+1,0,none⟩))):=(Spares.of_below (Below.refl _ _)).set (by simp) _ _;have bJ7:=hS7.box bJ6 (by simp);have hD7:=hD6.spared hS7 (by simp;omega) (by simp;omega) (by simp;omega) (fun q hq=>by cases hq;simp;omega) (fun q hq=>by cases hq;simp;omega)
 have hSp:Spares [db] w (w6.setCell ⟨w2.heap.size+1,0,none⟩ (.pointer (some ⟨w2.heap.size+1+1,0,none⟩))):=Xfm hB5 ((hS6.mono (bs':=[db,w2.heap.size+1,w.heap.size,w2.heap.size]) (by simp)).trans (hS7.mono (by simp))) (fun b hb=>by
  simp only [List.mem_cons,List.not_mem_nil,or_false] at hb ⊢
  omega)
 go_wp2
 exact bodyPost_ret (v:=.tuple #[.pointer (some ⟨w2.heap.size+1,0,none⟩),.nilIface]) (by simp [results,results55,go_sem]) rfl ⟨w2.heap.size+1,w.heap.size,w2.heap.size,w2.heap.size+1+1,rfl,
  ⟨l',f',{ v:=hV7,jn:=rfl,j:=bJ7,d:=⟨_,_,hD7,Fl.some (Xa Hnt),Fl.some (Xa Hnt)⟩,j9:=by show 9<=w2.heap.size+1+1;omega,d9:=d9.1,md9:=d9.2.1,mn9:=d9.2.2,ne1:=by show md≠w.heap.size/\md≠w2.heap.size/\mn≠w.heap.size/\mn≠w2.heap.size;omega,log:=Xa hlog }⟩,by omega,hSp⟩
theorem Tryz.openE (db md mn rb bd b:Nat) (l f now:Int) (ls:List Yd) (hok:OkL ls rootS) (hnel:ls ≠ []) (hlen:(textL ls).length<4294967281) (w:World) (hD:Xj w db md mn (some (bd,textL ls)) (some (b,textL ls)) (.slice none 0 0) l f) (n:Int) (hev:evD l f=.iface 33 (.int .i64 n)) (hE:Env w) (h9:9<=w.heap.size) (hG:Ja w) (t0:0<=now) (t1:now<=18446744073709551615) (d9:9<=db/\9<=md/\9<=mn) :
  Calls prog 55 #[Yg db,.iface 75 (.pointer (some ⟨rb,0,none⟩)),.int .u64 now] w fun e w'=>e=.returned (.tuple #[.pointer none,.iface 33 (.int .i64 n)])/\(∃ l' f':Int,Mx w' db md mn (some (bd,textL ls)) (some (b,textL ls)) (.slice none 0 0) l' f' (l==0))/\Spares [db] w w':=by
 have hmkT:∀ W,(Instr.makeMap 120 none).run prog W=.ok (.map (some W.heap.size)) (W.alloc (.map #[] 0)):=fun W=>run_makeMap _ W
 have hmkL:∀ W,(Instr.makeMap 121 none).run prog W=.ok (.map (some W.heap.size)) (W.alloc (.map #[] 0)):=fun W=>run_makeMap _ W
 have hR:=fun W=>root W
 unfold nmV at hR;have hM:=World.ownsMap_made w prog 114 Ye;have hB0:Below w.heap.size w (w.alloc (.map #[] 0)):=(Below.refl _ w).alloc (Nat.le_refl _) _;have lD:=hD.lt;have lbd:=(hD.sd _ rfl).lt;have lbn:=(hD.sn _ rfl).lt;simp only at lbd lbn
 have hO:=fun W vb mt ml vx (hb:Below w.heap.size w W) (hV:VF W vb mt ml vx (now,rootS)) (q1:w.heap.size<=vb) (q2:w.heap.size<=mt) (q3:w.heap.size<=ml)=>Xvn db md mn b vb mt ml (some (bd,textL ls)) l f vx now rootS ls hok hnel hlen W (hD.below hb) n hev hV (Nat.le_trans h9 hb.size) (hG.below (hb.mono h9))
 generalize textL ls=txt at *;unfold Yg at hO ⊢;go_enter func55,ntmps55
 go_wp2_with (first
  | (go_at_call 85;refine(hR _).mono ?_;rintro e w1 ⟨rfl,hb1⟩;have hM1:=Y8 hM hb1;have hB1:=hB0.trans (hb1.mono (by simp));obtain⟨w2,hrun,hM2,hT2⟩:=hM1.store Y1 underlying120 (by decide) (key:=nmV (1,0)) (val:=Vt) (Xz.keyOf ⟨by decide,by decide⟩) (d:=.held Vt) (ps:=[]) rfl;have hB2:=hB1.grown hT2.grown hB1.size (fun q hq=>by cases hq;omega);have hB4:=hB2.alloc hB2.size (.map #[] 0);have hB5:=hB4.alloc hB4.size (.cells #[.pointer none,.iface 75 (.pointer (some ⟨rb,0,none⟩)),.int .u64 now,.map (some w.heap.size),.map (some w2.heap.size),.int .u64 0,.int .u64 0,.bool false,.slice none 0 0] 126);unfold nmV Vt at hrun)
  | fail)
 have hz2:=hB2.size;have lM2:=hM2.lt;have hMl5:=(World.ownsMap_made w2 prog 114 Ye).alloc (.cells #[.pointer none,.iface 75 (.pointer (some ⟨rb,0,none⟩)),.int .u64 now,.map (some w.heap.size),.map (some w2.heap.size),.int .u64 0,.int .u64 0,.bool false,.slice none 0 0] 126);have hMt5:=(hM2.alloc (.map #[] 0)).alloc (.cells #[.pointer none,.iface 75 (.pointer (some ⟨rb,0,none⟩)),.int .u64 now,.map (some w.heap.size),.map (some w2.heap.size),.int .u64 0,.int .u64 0,.bool false,.slice none 0 0] 126);rw [show ((DataW.map []).put (Lit.string (nmB (1,0))) (.held Vt))=mapD ([rootE].map Xd.key).reverse from Xid] at hMt5;have bV5:=BoxN.new (w2.alloc (.map #[] 0)) 126 #[.pointer none,.iface 75 (.pointer (some ⟨rb,0,none⟩)),.int .u64 now,.map (some w.heap.size),.map (some w2.heap.size),.int .u64 0,.int .u64 0,.bool false,.slice none 0 0];rw [World.size_alloc] at bV5
 have hV5:VF ((w2.alloc (.map #[] 0)).alloc (.cells #[.pointer none,.iface 75 (.pointer (some ⟨rb,0,none⟩)),.int .u64 now,.map (some w.heap.size),.map (some w2.heap.size),.int .u64 0,.int .u64 0,.bool false,.slice none 0 0] 126)) (w2.heap.size+1) w.heap.size w2.heap.size ⟨.pointer none,.iface 75 (.pointer (some ⟨rb,0,none⟩)),false,.slice none 0 0⟩ (now,rootS):=
  { va:=⟨bV5,⟨⟨_,by decide,hMt5⟩,⟨0,by decide,hMl5⟩⟩,Xla,hE.below hB5 (by omega),by have:=hB5.size;omega⟩,nt:=fun t ht=>by rw [List.mem_singleton.1 ht];exact Nat.le_refl _,nl:=fun l hl=>(by cases hl),t0:=t0,t1:=t1,okT:=fun t ht=>by rw [List.mem_singleton.1 ht];exact⟨by decide,by decide,by decide,by decide,.inr (.inr ⟨rfl,rfl⟩)⟩,okL:=fun l hl=>(by cases hl),mne:=by show w.heap.size≠w2.heap.size;omega,v9:=by show 9<=w2.heap.size+1;omega,m9:=h9,l9:=by show 9<=w2.heap.size;omega }
 have hO5:=hO _ _ _ _ _ hB5 hV5 (by omega) (Nat.le_refl _) (by omega)
 have hz5:((w2.alloc (.map #[] 0)).alloc (.cells #[.pointer none,.iface 75 (.pointer (some ⟨rb,0,none⟩)),.int .u64 now,.map (some w.heap.size),.map (some w2.heap.size),.int .u64 0,.int .u64 0,.bool false,.slice none 0 0] 126)).heap.size=w2.heap.size+1+1:=by simp
 generalize (w2.alloc (.map #[] 0)).alloc (.cells #[.pointer none,.iface 75 (.pointer (some ⟨rb,0,none⟩)),.int .u64 now,.map (some w.heap.size),.map (some w2.heap.size),.int .u64 0,.int .u64 0,.bool false,.slice none 0 0] 126)=W5 at *;clear hO hV5 bV5 hMt5 hMl5 hrun hM2 hT2 hM1 hM;refine hO5.mono ?_;rintro e w6 ⟨rfl,hD6,hS6⟩;have hSp:Spares [db] w w6:=Xfm hB5 hS6 (fun b hb=>.inl hb);go_wp2
 go_ret2
 exact⟨rfl,hD6,hSp⟩
end Go.Proofs
namespace Go.Proofs
open Go.RowKit Go.Sort Go.Lib Go.Maps Go.WideMaps
abbrev CrP (hb db fb:Nat) (ke pa:Int) (W:World):Prop:=W.cell? ⟨hb,0,none⟩=some (.pointer (some ⟨db,0,none⟩))/\W.cell? ⟨fb,2,none⟩=some (.int .i64 ke)/\W.cell? ⟨fb,3,none⟩=some (.int .i64 pa)
abbrev Tryz.DnP (hb db:Nat) (W:World):Prop:=
 W.cell? ⟨hb,0,none⟩=some (.pointer (some ⟨db,0,none⟩))/\(W.cell? ⟨db,3,none⟩=some (X5 W ⟨db,3,none⟩)/\W.cell? ⟨db,4,none⟩=some (X5 W ⟨db,4,none⟩))/\W.frozen? ⟨db,3,none⟩=false/\W.frozen? ⟨db,4,none⟩=false
theorem Tryz.DnP.of {W:World} {hb db:Nat} {cs ds:Array Value} (hH:BoxN W hb 78 cs) (h0:cs[0]? = some (.pointer (some ⟨db,0,none⟩))) (hD:BoxN W db 100 ds) (h6:ds.size=6):DnP hb db W.drew:=
 ⟨hH.cell 0 h0,⟨Xg (by have h:=hD.cell 3 (v:=ds[3]) (by simp [h6]);show (W.cell? _).isSome;rw [h];rfl),Xg (by have h:=hD.cell 4 (v:=ds[4]) (by simp [h6]);show (W.cell? _).isSome;rw [h];rfl)⟩,hD.frozen 3,hD.frozen 4⟩
theorem Tryz.DnP.of1 {W:World} {hb db:Nat} {cs ds:Array Value} (hH:BoxN W hb 78 cs) (h0:cs[0]? = some (.pointer (some ⟨db,0,none⟩))) (hD:BoxN W db 100 ds) (h6:ds.size=6) (i:Nat) (v:Value):DnP hb db (W.setCell ⟨db,i,none⟩ v).drew:=
 DnP.of (hH.other (hH.ne hD (by decide)) i v) h0 (hD.set i v) (by simpa using h6)
theorem Tryz.DnP.of2 {W:World} {hb db:Nat} {cs ds:Array Value} (hH:BoxN W hb 78 cs) (h0:cs[0]? = some (.pointer (some ⟨db,0,none⟩))) (hD:BoxN W db 100 ds) (h6:ds.size=6) (i:Nat) (v:Value) (i':Nat) (v':Value):DnP hb db ((W.setCell ⟨db,i,none⟩ v).setCell ⟨db,i',none⟩ v').drew:=
 DnP.of1 (hH.other (hH.ne hD (by decide)) i v) h0 (hD.set i v) (by simpa using h6) i' v'
theorem Tryz.Xv7 (hb db md lo:Nat) (fd fn:Option (Nat × List UInt8)) (c1 vv m1 m2 p l f:Value) (a b ke pa:Int) (w:World) (hH:BoxN w hb 78 #[.pointer (some ⟨db,0,none⟩),c1,vv]) (hD:BoxN w db 100 #[m1,m2,p,l,f,.bool true])
  (hC:∀ W,Spares [hb] w W->BoxN W db 100 #[m1,m2,p,l,f,.bool true]->Calls prog 54 #[.pointer (some ⟨db,0,none⟩),.int .i64 ke,.int .i64 pa] W fun e w'=>e=.returned (.tuple #[])/\∃ mn',lo<=mn'/\Xj w' db md mn' fd fn (.slice none 0 0) (-1) (-1)/\Spares [db] W w') :
  Calls prog 42 #[.pointer (some ⟨hb,0,none⟩),Yo a b ke pa] w fun e w'=>e=.returned (.tuple #[])/\BoxN w' hb 78 #[.pointer (some ⟨db,0,none⟩),c1,.pointer none]/\(∃ mn',lo<=mn'/\Xj w' db md mn' fd fn (.slice none 0 0) (-1) (-1))/\Spares [hb,db] w w':=by
 have h0:=hH.cell 0 (v:=.pointer (some ⟨db,0,none⟩)) rfl;have h2:=hH.cell 2 (v:=vv) rfl;have f2:=hH.frozen 2;have d5:=hD.cell 5 (v:=.bool true) rfl;have lH:=hH.lt;have lD:=hD.lt;have hne:=hH.ne hD (by decide);have bF1:=BoxN.new (w.setCell ⟨hb,2,none⟩ (.pointer none)) 29 #[.int .i64 a,.int .i64 b,.int .i64 ke,.int .i64 pa];rw [World.size_setCell] at bF1;have hS1:Spares [hb] w ((w.setCell ⟨hb,2,none⟩ (.pointer none)).alloc (.cells #[.int .i64 a,.int .i64 b,.int .i64 ke,.int .i64 pa] 29)):=((Spares.of_below (Below.refl _ w)).set (by simp) _ _).alloc _;have bH1:=(hH.set 2 (.pointer none)).alloc (.cells #[.int .i64 a,.int .i64 b,.int .i64 ke,.int .i64 pa] 29);have bD1:=hS1.box hD (by simpa using Ne.symm hne)
 have hP1:CrP hb db w.heap.size ke pa ((w.setCell ⟨hb,2,none⟩ (.pointer none)).alloc (.cells #[.int .i64 a,.int .i64 b,.int .i64 ke,.int .i64 pa] 29)).drew:=⟨bH1.cell 0 rfl,bF1.cell 2 rfl,bF1.cell 3 rfl⟩
 have hC1:=hC ((w.setCell ⟨hb,2,none⟩ (.pointer none)).alloc (.cells #[.int .i64 a,.int .i64 b,.int .i64 ke,.int .i64 pa] 29)).drew hS1.drew bD1;unfold Yo;go_enter func42,ntmps42
 go_wp2_with fail
 generalize ((w.setCell ⟨hb,2,none⟩ (.pointer none)).alloc (.cells #[.int .i64 a,.int .i64 b,.int .i64 ke,.int .i64 pa] 29))=W1 at *
 go_region_held3 (CrP hb db w.heap.size ke pa) (first
  | with_reducible exact hP1
  | with_reducible exact hP2
  | with_reducible assumption) (first | (go_at_call 54;refine hC1.mono ?_;rintro e w2 ⟨rfl,mn',hmn,hD2,hS2⟩;have bD2:=hD2.box;have bH2:=Spares.box (W:=W1.drew) hS2 bH1 (by simpa using hne);have bF2:=Spares.box (W:=W1.drew) hS2 bF1 (by simp;omega);have hP2:CrP hb db w.heap.size ke pa w2:=⟨bH2.cell 0 rfl,bF2.cell 2 rfl,bF2.cell 3 rfl⟩))
 go_wp2_with fail
 go_region_held3 (DnP hb db) (first
  | with_reducible exact DnP.of bH2 rfl bD2 rfl
  | with_reducible exact DnP.of1 bH2 rfl bD2 rfl _ _
  | with_reducible exact DnP.of2 bH2 rfl bD2 rfl _ _ _ _
  | with_reducible assumption) (fail)
 all_goals
  go_wp2
  go_end0
  have hS3:Spares [db] w2 ((w2.setCell ⟨db,3,none⟩ (.int .i64 (-1))).setCell ⟨db,4,none⟩ (.int .i64 (-1))).drew:=(((Spares.of_below (Below.refl _ w2)).set (by simp) _ _).set (by simp) _ _).drew;exact⟨rfl,hS3.box bH2 (by simpa using hne),⟨mn',hmn,hD2.cells hS3 ((bD2.set 3 _).set 4 _)⟩,((hS1.drew.mono (by simp)).trans (hS2.mono (by simp))).trans (hS3.mono (by simp))⟩
end Go.Proofs
