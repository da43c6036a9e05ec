import Derived.Test.YtjbekgjdempbiaaGreatDoorJSq
import Derived.Test.YtjbekgjdempbiaaGreatDoorJLogA
import Derived.Test.YtjbekgjdempbiaaGreatDoorJRounds
import Derived.Test.YtjbekgjdempbiaaGreatDoorJCodeE
import Derived.RangeFuncCalls
import Derived.Test.YtjbekgjdempbiaaGreatDoorProg
import Derived.Shelf.Strconv.Atoi
import Derived.Shelf.Pu.Clone
import Derived.Ground.MpProg
import Derived.Ground.NamesProg
import Derived.Test.YtjbekgjdempbiaaGreatDoorJAskVT
set_option maxRecDepth 100000
set_option maxHeartbeats 8000000
namespace Go.Proofs
open Go.RowKit Go.Sort Go.Lib Go.Shelf Go.Maps Go.WideMaps
theorem Xae {b:Nat} {kl:Lit} (h:Maps.has (Zp (some b)) kl=true):kl=.string Jw:=by
 unfold Zp Maps.has at h;simp only [List.any_cons,List.any_nil,Bool.or_false] at h
 cases kl with
 | string s =>
  have:Jw=s:=by simpa [Lit.sameKey] using h
  rw [this]
 | _=>simp [Lit.sameKey] at h
theorem Tryz.Xkx (db md mn b:Nat) (c:List UInt8) (fd:Option (Nat × List UInt8)) (l f:Int) (w:World) (hD:Xj w db md mn fd (some (b,c)) (.slice none 0 0) l f) :
  Calls prog 306 #[.pointer (some ⟨db,0,none⟩)] w fun e w'=>∃ g cap,e=.returned (.tuple #[.slice (some ⟨g,0,none⟩) 1 cap,.nilIface])/\w'.cell? ⟨g,0,none⟩=some (.string ⟨#[106,111,117,114,110,97,108]⟩)/\g<w'.heap.size/\Below w.heap.size w w':=by
 have hS:=fun p cap W=>Xdy p cap W
 have d1:=hD.box.cell 1 (v:=.map (some mn)) rfl;have d5:=hD.box.cell 5 (v:=.bool false) rfl;obtain⟨n,hn,hown⟩:=hD.nm;obtain⟨i0,hi,hz0,hz1,hz2⟩:=info_parts Xbo
 change w.ownsMap prog 9 Ye mn n (Zp (some b)) at hown
 go_enter func306,ntmps306
 go_wp2_with (first
  | (at_range;refine wpList_range_own _ rfl _ 97 rfl 9 101 (string_keyed underlying9) underlying97 _ mn n _ rfl hown ?_;intro w1 hrg hg1 hs1)
  | go_in)
 have HB:=Xb (show Below w.heap.size w w1 from ⟨hg1.os,hg1.tape,hg1.output,hg1.size,fun k hk=>hg1.block k hk (by simp)⟩)
 have hz:w.heap.size<w1.heap.size:=by omega
 clear hg1 hs1 hown d1 d5;refine wp_loop_rounds 2 ?_;rw [rounds_succ]
 go_wp2_with (first
  | (at_next;refine wpList_next_ranges _ rfl _ rfl 9 (string_keyed underlying9) Ye Value.string (fun v:Value=>v) (fun key kl hk=>by obtain⟨x,hx,_⟩:=string_of_keyOf underlying9 hk;exact⟨x,hx⟩) (fun v _ _=>⟨v,rfl⟩) mn _ n _ _ _ rfl hrg ?_ ?_)
  | go_in)
 ·intro _ h0
  have h1:=h0 (.string Jw);rw [Xar] at h1;cases h1
 intro x c kl y yp w' cnt' hk hl hv hat hrg2 hlt hgr hsz hen;obtain rfl:=Xae hl;obtain⟨x',hx,hx2,-⟩:=string_of_keyOf underlying9 hk
 obtain rfl:x=x':=by cases hx;rfl
 have hxj:x=⟨#[106,111,117,114,110,97,108]⟩:=by
  have h3:Jw=x.data.toList:=by injection hx2
  apply ByteArray.ext;rw [<- Array.toArray_toList (xs:=x.data),<- h3];rfl
 subst hxj;have HB2:=Xb (show Below w.heap.size w w' from (Xa HB).grown hgr (by omega) (fun q hq=>by cases hq;exact Nat.le_refl _));clear hx hx2 hk hl hv hat hrg HB hgr hlt
 go_wp2_with (at_builtin;refine wpList_append_own _ rfl _ _ 40 rfl w.heap.size 9 i0 _ 1 16 underlying40 hi hz0 hz1 hz2 rfl (by decide) _ _ _ rfl (World.ownsRow_nil _ _ _ _) ⟨w'.heap.size,0,none⟩ 1 1 [.string ⟨#[106,111,117,114,110,97,108]⟩] rfl rfl (fun j u hu=>by
  match j,hu with
  | 0,hu =>
   have hu':Value.string ⟨#[106,111,117,114,110,97,108]⟩=u:=by simpa using hu
   rw [<- hu',Mo];exact(BoxN.new w' 9 #[.string ⟨#[106,111,117,114,110,97,108]⟩]).cell 0 rfl
  | k+1,hu=>simp at hu) (by simp [Value.oneCell']) (by decide) (by decide) (by simp;omega) ?_)
 obtain⟨cap,hcap⟩:∃ cap,(Question.appendCap 1 0 9).cut (w'.tape w'.drawn (Question.appendCap 1 0 9))=cap:=⟨_,rfl⟩
 rw [hcap];have bG:=BoxN.new (w'.alloc (.cells #[.string ⟨#[106,111,117,114,110,97,108]⟩] 9)) 9 (#[.string ⟨#[106,111,117,114,110,97,108]⟩] ++ Builtin.zeroCells #[.string ⟨#[]⟩] (cap-1));rw [World.size_alloc,hsz] at bG;have g0:=bG.cell 0 (v:=.string ⟨#[106,111,117,114,110,97,108]⟩) (by rw [Array.getElem?_append_left (by simp)];rfl);have hr3:=(hrg2.alloc (.cells #[.string ⟨#[106,111,117,114,110,97,108]⟩] 9)).alloc (.cells (#[.string ⟨#[106,111,117,114,110,97,108]⟩] ++ Builtin.zeroCells #[.string ⟨#[]⟩] (cap-1)) 9);have hB3:=(((Xa HB2).alloc (by omega) (.cells #[.string ⟨#[106,111,117,114,110,97,108]⟩] 9)).alloc (by simp;omega) (.cells (#[.string ⟨#[106,111,117,114,110,97,108]⟩] ++ Builtin.zeroCells #[.string ⟨#[]⟩] (cap-1)) 9)).drew;have hr4:((w'.alloc (.cells #[.string ⟨#[106,111,117,114,110,97,108]⟩] 9)).alloc (.cells (#[.string ⟨#[106,111,117,114,110,97,108]⟩] ++ Builtin.zeroCells #[.string ⟨#[]⟩] (cap-1)) 9)).drew.ranges prog 9 Ye mn w.heap.size n (Zp (some b)) (fun z=>Maps.has (Zp (some b)) z && !z.sameKey (Lit.string Jw)) cnt':=hr3;have g1:((w'.alloc (.cells #[.string ⟨#[106,111,117,114,110,97,108]⟩] 9)).alloc (.cells (#[.string ⟨#[106,111,117,114,110,97,108]⟩] ++ Builtin.zeroCells #[.string ⟨#[]⟩] (cap-1)) 9)).drew.cell? ⟨w1.heap.size+1,0,none⟩=some (.string ⟨#[106,111,117,114,110,97,108]⟩):=g0;have g2:w1.heap.size+1<((w'.alloc (.cells #[.string ⟨#[106,111,117,114,110,97,108]⟩] 9)).alloc (.cells (#[.string ⟨#[106,111,117,114,110,97,108]⟩] ++ Builtin.zeroCells #[.string ⟨#[]⟩] (cap-1)) 9)).drew.heap.size:=bG.lt;generalize ((w'.alloc (.cells #[.string ⟨#[106,111,117,114,110,97,108]⟩] 9)).alloc (.cells (#[.string ⟨#[106,111,117,114,110,97,108]⟩] ++ Builtin.zeroCells #[.string ⟨#[]⟩] (cap-1)) 9)).drew=W3 at *;clear bG g0 hr3 hcap hrg2 HB2 hen;rw [rounds_succ]
 go_wp2_with (first
  | (at_next;refine wpList_next_ranges _ rfl _ rfl 9 (string_keyed underlying9) Ye (fun v:Value=>v) (fun v:Value=>v) (fun v _ _=>⟨v,rfl⟩) (fun v _ _=>⟨v,rfl⟩) mn _ n _ _ _ rfl hr4 ?_ ?_)
  | go_in)
 ·intro _ _
  clear hr4
  go_wp2_with (go_at_call 312;refine(hS _ _ _).mono ?_;rintro e w2 ⟨rfl,rfl⟩)
  exact bodyPost_ret (v:=.tuple #[.slice (some ⟨w1.heap.size+1,0,none⟩) 1 cap,.nilIface]) (by simp [results,results306,go_sem]) rfl ⟨_,_,rfl,g1,g2,hB3⟩
 intro x c kl y yp w'' cnt'' _ h2 h3;obtain rfl:=Xae h2;exact absurd h3 (by decide)
theorem Tryz.Xo6 (db md mn b:Nat) (c:List UInt8) (fd:Option (Nat × List UInt8)) (l f:Int) (w:World) (hD:Xj w db md mn fd (some (b,c)) (.slice none 0 0) l f) :
  Calls prog 307 #[.pointer (some ⟨db,0,none⟩),.string ⟨#[106,111,117,114,110,97,108]⟩] w fun e w'=>∃ g cap,e=.returned (.tuple #[.slice (some ⟨g,0,none⟩) c.length cap,.nilIface])/\BytesAt w' g c/\(w.heap.size<=g/\g<w'.heap.size)/\Below w.heap.size w w':=by
 obtain⟨cp,mk,hTB⟩:=Xnr c;have d1:=hD.box.cell 1 (v:=.map (some mn)) rfl;have d5:=hD.box.cell 5 (v:=.bool false) rfl;obtain⟨n,hn,hown⟩:=hD.nm;have hL:=Xpn hown;unfold Xb0 at hL;have s0:=(hD.sn (b,c) rfl).cell 0 (v:=.string ⟨c.toArray⟩) rfl;simp only at s0
 have hcv:=fun W=>(hTB W).1
 go_enter func307,ntmps307;go_wp2;refine bodyPost_ret (v:=.tuple #[.slice (some ⟨w.heap.size,0,none⟩) c.length (cp w),.nilIface]) (by simp [results,results307,go_sem]) rfl ?_;exact⟨w.heap.size,⟨cp w,rfl⟩,(hTB w).2.2.2,⟨Nat.le_refl _,(hTB w).2.2.1⟩,(hTB w).2.1⟩
theorem Tryz.Xfw (db md mn b:Nat) (c:List UInt8) (fd:Option (Nat × List UInt8)) (l f:Int) (w:World) (hD:Xj w db md mn fd (some (b,c)) (.slice none 0 0) l f) (hE:Env w) (h6:6<=w.heap.size) :
  Calls prog 180 #[Yg db] w fun e w'=>∃ g cap,e=.returned (.tuple #[.slice (some ⟨g,0,none⟩) 1 cap,.nilIface])/\w'.cell? ⟨g,0,none⟩=some (.int .u64 0)/\g<w'.heap.size/\Below w.heap.size w w':=by
 have hm:=fun W=>Xcb db W
 have hN:=Xkx db md mn b c fd l f w hD
 have hS:=fun p cap W=>Xir p cap W
 have hO:=fun W (hb:Below w.heap.size w W)=>Xlr W (hE.below hb h6)
 unfold Yg;go_enter func180,ntmps180
 go_wp2_with (go_at_call 306;refine hN.mono ?_;rintro e w1 ⟨g,cap,rfl,g0,g1,hb1⟩)
 refine wp_loop_rounds 2 ?_;rw [rounds_succ]
 go_wp2_with (go_at_call 210;refine(hO _ hb1).mono ?_;rintro e w2 ⟨rfl,hb2⟩)
 obtain⟨cap2,hcap⟩:∃ cap,(Question.appendCap 1 0 31).cut (w2.tape w2.drawn (Question.appendCap 1 0 31))=cap:=⟨_,rfl⟩
 rw [hcap];have hB2:=hb1.trans (hb2.mono hb1.size);have bG:=BoxN.new (w2.alloc (.cells #[.int .u64 0] 31)) 31 (#[.int .u64 0] ++ Builtin.zeroCells #[.int .u64 0] (cap2-1));rw [World.size_alloc] at bG;have q0:=bG.cell 0 (v:=.int .u64 0) (by rw [Array.getElem?_append_left (by simp)];rfl);have hB3:=((hB2.alloc hB2.size (.cells #[.int .u64 0] 31)).alloc (by have:=hB2.size;simp;omega) (.cells (#[.int .u64 0] ++ Builtin.zeroCells #[.int .u64 0] (cap2-1)) 31)).drew;have q1:((w2.alloc (.cells #[.int .u64 0] 31)).alloc (.cells (#[.int .u64 0] ++ Builtin.zeroCells #[.int .u64 0] (cap2-1)) 31)).drew.cell? ⟨w2.heap.size+1,0,none⟩=some (.int .u64 0):=q0;have q2:w2.heap.size+1<((w2.alloc (.cells #[.int .u64 0] 31)).alloc (.cells (#[.int .u64 0] ++ Builtin.zeroCells #[.int .u64 0] (cap2-1)) 31)).drew.heap.size:=bG.lt;generalize ((w2.alloc (.cells #[.int .u64 0] 31)).alloc (.cells (#[.int .u64 0] ++ Builtin.zeroCells #[.int .u64 0] (cap2-1)) 31)).drew=W3 at *;clear bG q0 hcap;rw [rounds_succ]
 go_wp2_with (go_at_call 211;refine(hS _ _ _).mono ?_;rintro e w4 ⟨rfl,rfl⟩)
 go_ret2
 exact⟨_,_,rfl,q1,q2,hB3⟩
def begB (c:List UInt8):Bool:=wholeB (Lib.cut (Lib.cut c [10]).2.1 [10]).1
theorem Tryz.Xjb (c:List UInt8) (hc:c.length<4294967281) (ha:∀ b∈c,b.toNat<128) (w:World) (hE:Env w) (h9:9<=w.heap.size) (hG:Ja w) :
  Calls prog 182 #[.string ⟨c.toArray⟩] w fun e w'=>e=.returned (.bool (begB c))/\Below w.heap.size w w':=by
 obtain⟨-,a1,l0,l1⟩:=Xd4 c [10];obtain⟨a2,-,l2,l3⟩:=Xd4 (Lib.cut c [10]).2.1 [10]
 have hC1:=fun W (hb:Below w.heap.size w W)=>cut c [10] W hc (hG.below (hb.mono h9))
 have hC2:=fun W (hb:Below w.heap.size w W)=>cut (Lib.cut c [10]).2.1 [10] W (by omega) (hG.below (hb.mono h9))
 have hT:=fun W (hb:Below w.heap.size w W)=>textOf (Lib.cut (Lib.cut c [10]).2.1 [10]).1 W (by omega) (fun b hb=>ha b (a1 b (a2 b hb))) (hE.below hb (by omega)) (Nat.le_trans h9 hb.size) (hG.below (hb.mono h9))
 change ∀ W,_->Calls _ _ _ _ (fun e w'=>e=.returned (.tuple #[.string ⟨(txtL (Lib.cut (Lib.cut c [10]).2.1 [10]).1).toArray⟩,.bool (begB c)])/\_) at hT
 generalize begB c=bg at *;generalize txtL (Lib.cut (Lib.cut c [10]).2.1 [10]).1=tx at *;generalize Lib.cut c [10]=x1 at *;obtain⟨n1,r1,f1⟩:=x1;simp only at *;generalize Lib.cut r1 [10]=x2 at *;obtain⟨n2,r2,f2⟩:=x2;simp only at *;clear a1 a2 l0 l1 l2 l3 ha hc;go_enter func182,ntmps182
 go_wp2_with (first
  | (go_at_call_of 213 (Value.string ⟨c.toArray⟩);refine(hC1 _ (Below.refl _ _)).mono ?_;rintro e w1 ⟨rfl,hb1⟩)
  | (go_at_call_of 213 (Value.string ⟨r1.toArray⟩);refine(hC2 _ hb1).mono ?_;rintro e w2 ⟨rfl,hb2⟩;have hB2:=hb1.trans (hb2.mono hb1.size))
  | (go_at_call 185;refine(hT _ hB2).mono ?_;rintro e w3 ⟨rfl,hb3⟩;have hB3:=hB2.trans (hb3.mono hB2.size)))
 go_ret;exact⟨rfl,hB3⟩
theorem Xgo {ls:List Yd} {s:VSt} (h:OkL ls s) (hne:ls ≠ []):begB (textL ls)=true:=by
 obtain⟨l,ls,rfl⟩:=List.exists_cons_of_ne_nil hne
 have hb:=fun r hr=>h.back l (by simp) r hr
 have hno:(10:UInt8)∉bodyL (recTxt l.recs):=by
  have h1:=Xrm (fun r hr=>(hb r hr).p);unfold bodyL;intro hm
  rcases List.mem_append.1 hm with hm | hm
  ·exact Xc4 (by decide) _ hm
  rcases List.mem_cons.1 hm with hm | hm
  ·cases hm
  rcases List.mem_append.1 hm with hm | hm
  ·exact Xc4 (by decide) _ hm
  rcases List.mem_cons.1 hm with hm | hm
  ·cases hm
  exact h1 hm
 have hl:(recTxt l.recs).length<18446744073709551616:=by
  have h2:=Zx l.recs (fun r hr=>(hb r hr).ok);have h3:=h.1.2.2.2
  have h4:l.recs.length=l.is.length+1:=by simp [Yd.recs]
  omega
 have e1:textL (l :: ls) = [] ++ 10 :: (bodyL (recTxt l.recs)++textL ls):=by
  unfold textL recLine;rw [List.flatMap_cons,Jc];simp
 unfold begB;rw [e1,Xij (by simp)];simp only
 have e2:(Lib.cut (bodyL (recTxt l.recs)++textL ls) [10]).1=bodyL (recTxt l.recs):=by
  cases ls with
  | nil =>
   unfold Lib.cut;rw [show bodyL (recTxt l.recs)++textL []=bodyL (recTxt l.recs) by simp [textL],Xbj hno,if_neg (by decide)]
  | cons l2 ls =>
   have e3:textL (l2 :: ls)=10 :: (bodyL (recTxt l2.recs)++textL ls):=by
    unfold textL recLine;rw [List.flatMap_cons,Jc];simp
   rw [e3,Xij hno]
 rw [e2];exact(Xbe _ hl).1
attribute [local go_sem] Oper.semAt_some
theorem Tryz.Xh6 (g cap:Nat) (w:World):Calls prog 181 #[.slice (some ⟨g,0,none⟩) 1 cap] w fun e w'=>e=.returned (.func (.func 212) #[] #[.pointer (some ⟨w.heap.size,0,none⟩)])/\w'=w.alloc (.cells #[.slice (some ⟨g,0,none⟩) 1 cap] 272):=by
 go_enter func181,ntmps181;go_wp2;go_ret;exact⟨rfl,rfl⟩
theorem Tryz.Xf3 (n bx g cap:Nat) (hn:1<=n) (w:World) (hb:BoxN w bx 272 #[.slice (some ⟨g,0,none⟩) 1 cap]) (hg:w.cell? ⟨g,0,none⟩=some (.int .u64 0)) (hgl:g<w.heap.size) :
  Xs5 (α:=Unit) n prog 212 #[.pointer (some ⟨bx,0,none⟩)] (fun _=>#[.int .i64 0,.int .u64 0]) (fun _=>True) (fun _ _=>True) (fun xs=>xs = [()]) (fun pre=>pre = [()]) 1 w:=by
 intro l J Jx W hbW _ _ _ hY h0;have c0:=(hb.below hbW hb.lt).cell 0 (v:=.slice (some ⟨g,0,none⟩) 1 cap) rfl;have g0:W.cell? ⟨g,0,none⟩=some (.int .u64 0):=(hbW.cell (p:=⟨g,0,none⟩) hgl).trans hg;obtain⟨fn,tmps,assign,body,hy,hR⟩:=hY [] () W h0 (by simp);refine callsIn_of_wp func212 rfl trivial ?_ rfl;simp only [ntmps212,List.size_toArray,List.length_cons,List.length_nil,Nat.reduceAdd,Nat.reduceSub,Array.replicate_succ,Array.replicate_zero,List.push_toArray,List.append_toArray,List.nil_append,List.cons_append]
 gi_wp2
 gi_loopw [3] (fun i wr=>(i=.int .i64 0/\wr=W)\/(i=.int .i64 (-1)/\J [()] wr)) (fun i _=>(intOf i+1).toNat)
 case atStart=>exact .inl ⟨rfl,rfl⟩
 case round =>
  rcases hrel with⟨rfl,rfl⟩ | ⟨rfl,hJ1⟩
  ·gi_wp2
   refine hR.mono ?_;rintro e W3 (⟨rfl,hJ4,-,-⟩ | ⟨rfl,hJx3,-⟩)
   ·gi_wp2
    go_roundw
    case rel=>exact .inr ⟨rfl,hJ4⟩
    case measure=>simp [intOf]
   gi_wp2
   refine bodyPost_ret (results_none rfl _ _ _) rfl ?_;exact⟨⟨_,rfl⟩,.inr ⟨[()],rfl,hJx3⟩⟩
  gi_wp2
  go_end0
  exact⟨⟨_,rfl⟩,.inl ⟨[()],rfl,hJ1⟩⟩
theorem Vn {B b i:Nat} {V W:World} {v:Value} (h:KeepsFrom B V W) (hb:b<B):KeepsFrom B V (W.setCell ⟨b,i,none⟩ v):=
 h.trans (KeepsFrom.of_grownBy (row:=some b) ⟨rfl,rfl,rfl,by simp,fun k _ hne=>Yt _ _ _ _ _ (fun e=>hne (by rw [e]))⟩ (fun k e=>by cases e;exact hb))
theorem BytesAt.below {B g:Nat} {W W':World} {c:List UInt8} (h:BytesAt W g c) (hb:Below B W W') (hg:g<B):BytesAt W' g c:=fun j hj=>by
 have e:=cell_of_block (hb.block g hg) j;exact⟨e.1.trans (h j hj).1,e.2.trans (h j hj).2⟩
theorem Tryz.Xgr {W:World} {g cap:Nat} {c:List UInt8} (h:BytesAt W g c):(convert 267 9 (.slice (some ⟨g,0,none⟩) c.length cap)).run prog W=.ok (.string ⟨c.toArray⟩) W:=
 run_convert_bytes_back W 267 9 5 ⟨g,0,none⟩ cap c underlying267 underlying5 underlying9 (fun j hj=>by
  rw [Mo]
  exact(h j hj).1)
theorem Xa6 {B:Nat} {w W:World} {b i:Nat} {t:TypeId} {cs:Array Value} {v:Value} (h:Below B w W) (hb:BoxN W b t cs) (hv:cs[i]? = some v):Below B w (W.setCell ⟨b,i,none⟩ v):=by
 have e:cs.setIfInBounds i v=cs:=by
  apply Array.ext
  ·simp
  intro j h1 h2;rw [Array.getElem_setIfInBounds (by simpa using h2)]
  split
  ·rename_i hij
   subst hij;obtain⟨h3,h4⟩:=Array.getElem?_eq_some_iff.1 hv;exact h4.symm
  rfl
 have h1:BoxN (W.setCell ⟨b,i,none⟩ v) b t cs:=by
  have:=hb.set i v
  rwa [e] at this
 exact⟨h.os,h.tape,h.output,by simpa using h.size,fun k hk=>by
  by_cases hkb:k=b
  ·subst hkb
   exact h1.trans (hb.symm.trans (h.block k hk))
  rw [Yt _ _ _ _ _ hkb]
  exact h.block k hk⟩
theorem Tryz.Xg3 (jb db md mn b:Nat) (c2:Value) (c:List UInt8) (fd:Option (Nat × List UInt8)) (l f:Int) (w:World) (hJ:BoxN w jb 212 #[Yg db,.int .u64 0,c2]) (hD:Xj w db md mn fd (some (b,c)) (.slice none 0 0) l f) (hc:c.length<4294967281) (ha:∀ b∈c,b.toNat<128) (hbg:begB c=true) (hE:Env w) (h9:9<=w.heap.size) (hG:Ja w) :
  CallsIn Fence.wide 9 prog 146 #[.pointer (some ⟨jb,0,none⟩)] w fun e w'=>e=.returned (.tuple #[.string ⟨c.toArray⟩,.nilIface])/\Below w.heap.size w w':=by
 have j0:=hJ.cell 0 (v:=Yg db) rfl;unfold Yg at j0;have lJ:=hJ.lt
 have hm:=fun W=>Xdp db W
 have hB0:Below w.heap.size w (((w.alloc (.cells #[.pointer (some ⟨jb,0,none⟩)] 117)).alloc (.cells #[.string ⟨#[]⟩] 9)).alloc (.cells #[.nilIface] 81)):=(((Below.refl _ w).alloc (Nat.le_refl _) _).alloc (by simp) _).alloc (by simp;omega) _;have bP:=((BoxN.new w 117 #[.pointer (some ⟨jb,0,none⟩)]).alloc (.cells #[.string ⟨#[]⟩] 9)).alloc (.cells #[.nilIface] 81);have bS:=(BoxN.new (w.alloc (.cells #[.pointer (some ⟨jb,0,none⟩)] 117)) 9 #[.string ⟨#[]⟩]).alloc (.cells #[.nilIface] 81);have bE:=BoxN.new ((w.alloc (.cells #[.pointer (some ⟨jb,0,none⟩)] 117)).alloc (.cells #[.string ⟨#[]⟩] 9)) 81 #[.nilIface];simp only [World.size_alloc] at bS bE;have hN:=Xfw db md mn b c fd l f _ (hD.below hB0) (hE.below hB0 (Nat.le_trans (by decide) h9)) (Nat.le_trans (Nat.le_trans (by decide) h9) hB0.size);unfold Yg at hN;have j0w:=cell_later hB0 j0;have hf1:Fence.wide.fn 180:=trivial;have hf2:Fence.wide.fn 181:=trivial;have hf3:Fence.wide.fn 182:=trivial;have hf4:Fence.wide.fn 175:=trivial;have hf5:Fence.wide.fn 307:=trivial;refine callsIn_of_wp_marks func146 rfl trivial ?_ rfl;simp only [ntmps146,List.size_toArray,List.length_cons,List.length_nil,Nat.reduceAdd,Nat.reduceSub,Array.replicate_succ,Array.replicate_zero,List.push_toArray,List.append_toArray,List.nil_append,List.cons_append]
 gi_wp2_with (first
  | (gi_at_call 180;refine(callsIn_wide.2 hN).mono ?_;rintro e w1 ⟨g,cap,rfl,g0,gl,hb1⟩)
  | (gi_at_call 181;refine(callsIn_wide.2 (Xh6 _ _ _)).mono ?_;rintro e w2 ⟨rfl,rfl⟩))
 have hB1:=hB0.trans (hb1.mono (by simp;omega));have bP1:=(bP.below hb1 (by simp;omega)).alloc (.cells #[.slice (some ⟨g,0,none⟩) 1 cap] 272);have bS1:=(bS.below hb1 (by simp)).alloc (.cells #[.slice (some ⟨g,0,none⟩) 1 cap] 272);have bE1:=(bE.below hb1 (by simp)).alloc (.cells #[.slice (some ⟨g,0,none⟩) 1 cap] 272);have bX1:=BoxN.new w1 272 #[.slice (some ⟨g,0,none⟩) 1 cap];have hB2:=hB1.alloc hB1.size (.cells #[.slice (some ⟨g,0,none⟩) 1 cap] 272)
 have hsz:(w1.alloc (.cells #[.slice (some ⟨g,0,none⟩) 1 cap] 272)).heap.size=w1.heap.size+1:=by simp
 have g0':(w1.alloc (.cells #[.slice (some ⟨g,0,none⟩) 1 cap] 272)).cell? ⟨g,0,none⟩=some (.int .u64 0):=cell_later ((Below.refl _ w1).alloc (Nat.le_refl _) _) g0;have hz1:=hB1.size
 obtain⟨W2,hW2⟩:∃ W2,w1.alloc (.cells #[.slice (some ⟨g,0,none⟩) 1 cap] 272)=W2:=⟨_,rfl⟩
 rw [hW2] at bP1 bS1 bE1 bX1 hB2 hsz g0' ⊢;clear hW2 bP bS bE hN j0w
 have hown:∀ sv:Value,OwnFrom W2.heap.size (fun(_:List Unit) V=>((BoxN V w.heap.size 117 #[.pointer (some ⟨jb,0,none⟩)]/\BoxN V (w.heap.size+1) 9 #[sv])/\BoxN V (w.heap.size+1+1) 81 #[.nilIface])/\Below w.heap.size w V):=fun sv =>
  OwnFrom.and (OwnFrom.and (OwnFrom.and (Own.from (Xy _ _ (fun _=>#[.pointer (some ⟨jb,0,none⟩)])) _) (Own.from (Xy _ _ (fun _=>#[sv])) _)) (Own.from (Xy _ _ (fun _=>#[.nilIface])) _)) (ownFrom_below (Nat.le_refl _) (by omega))
 refine Vd (n:=9) (by omega) (gf:=212) (lb:=#[.pointer (some ⟨w1.heap.size,0,none⟩)]) rfl (enters_of func212 (by kernel_rfl) rfl) (Xf3 8 w1.heap.size g cap (by decide) W2 bX1 g0' (by omega)) (fun _ _=>trivial) (fun _ _ _ _ _ _ _ _=>trivial) (Below.refl _ _) (fun _=>rfl)
  (fun pre V=>pre = []/\((BoxN V w.heap.size 117 #[.pointer (some ⟨jb,0,none⟩)]/\BoxN V (w.heap.size+1) 9 #[.string ⟨#[]⟩])/\BoxN V (w.heap.size+1+1) 81 #[.nilIface])/\Below w.heap.size w V)
  (fun cd pre V=>cd=Code.ret/\((BoxN V w.heap.size 117 #[.pointer (some ⟨jb,0,none⟩)]/\BoxN V (w.heap.size+1) 9 #[.string ⟨c.toArray⟩])/\BoxN V (w.heap.size+1+1) 81 #[.nilIface])/\Below w.heap.size w V)
  ?Xdz ?ownX
  (fun _ _ _=>trivial)
  ⟨rfl,⟨⟨bP1,bS1⟩,bE1⟩,hB2⟩
  (fun _ a' V=>a' = { tmps:=#[.pointer (some ⟨jb,0,none⟩),.pointer (some ⟨w.heap.size,0,none⟩),.pointer (some ⟨w.heap.size+1,0,none⟩),.pointer (some ⟨w.heap.size+1+1,0,none⟩),.slice (some ⟨g,0,none⟩) 1 cap,.nilIface,undef,.int .u64 0,undef,undef,.tuple #[.slice (some ⟨g,0,none⟩) 1 cap,.nilIface],.pointer (some ⟨jb,0,none⟩),.pointer (some ⟨jb,0,none⟩),.pointer (some ⟨jb,0,none⟩),.iface 74 (.pointer (some ⟨db,0,none⟩)),.tuple #[.slice (some ⟨g,0,none⟩) 1 cap,.nilIface],.slice (some ⟨g,0,none⟩) 1 cap,.nilIface,.nilIface,.bool false,undef,.slice (some ⟨g,0,none⟩) 1 cap,.func (.func 212) #[] #[.pointer (some ⟨w1.heap.size,0,none⟩)],.int .i64 0,.int .u64 0,undef,undef,undef,undef,undef,undef,undef,undef,undef,undef,undef,undef,undef,undef,undef,undef,undef,undef,undef,undef,undef,undef,undef,undef,undef,undef,undef,undef],defers:=[] }) ?ownA
  ?assign ?body ?done ?stop
 case Xdz=>exact fun s A B row hs hg hr=>⟨hs.1,hown (.string ⟨#[]⟩) s A B row hs.2 hg hr⟩
 case ownX=>exact fun cd s A B row hs hg hr=>⟨hs.1,hown (.string ⟨c.toArray⟩) s A B row hs.2 hg hr⟩
 case assign =>
  rintro ll pre x V K ⟨rfl,⟨⟨bPV,bSV⟩,bEV⟩,hBV⟩ hK
  gi_wp2
  exact hK _ _ (KeepsFrom.refl _ _) trivial ⟨by simp,⟨⟨bPV,bSV⟩,bEV⟩,hBV⟩ rfl
 case ownA=>exact fun _ _ _ _ _ _ hs _ _=>hs
 case body =>
  rintro ll pre x _ V hl ⟨rfl,⟨⟨bPV,bSV⟩,bEV⟩,hBV⟩ rfl hlt;have p0:=bPV.cell 0 (v:=.pointer (some ⟨jb,0,none⟩)) rfl;have p0d:V.drew.cell? ⟨w.heap.size,0,none⟩=some (.pointer (some ⟨jb,0,none⟩)):=p0;have jV:=cell_later hBV j0;have jVd:V.drew.cell? ⟨jb,0,none⟩=some (.iface 74 (.pointer (some ⟨db,0,none⟩))):=jV;have hRd:=Xo6 db md mn b c fd l f V.drew (hD.below hBV.drew)
  gi_wp2_with fail
  refine wpIn_region_any (by kernel_rfl) (X1 ll (by kernel_rfl) _ _ _ _ ?_)
  change wpAnyIn _ _ _ _ _ _ _ _ _ (World.drew _)
  refine Xv 4 (.int .u64 0) rfl ?_
  refine Xs 0 5 rfl rfl (fun K hK=>?_) fun K hK=>?_
  focus
   go_simp;refine hK _ _ ?_;clear hK K;refine Xv 1 (.pointer (some ⟨jb,0,none⟩)) rfl ?_
   refine Xv 2 (.pointer (some ⟨jb,0,none⟩)) rfl ?_
   refine Xs 3 5 rfl rfl (fun K hK=>?_) fun K hK=>?_
   focus
    go_simp;refine hK _ _ ?_;clear hK K;refine Xv 6 (.iface 74 (.pointer (some ⟨db,0,none⟩))) rfl ?_
    refine Xv 7 (.iface 74 (.pointer (some ⟨db,0,none⟩))) rfl ?_
    refine Xr 5 rfl fun K hK=>?_;go_simp;refine(callsIn_wide.2 (Xch _)).mono ?_;rintro e V2 ⟨rfl,rfl⟩;refine hK _ _ ?_;clear hK K;refine Xr 8 rfl fun K hK=>?_;go_simp;refine(callsIn_wide.2 hRd).mono ?_;rintro e V2 ⟨g,cap,rfl,hby,⟨hg1,hg2⟩,hb2⟩;refine hK _ _ ?_;clear hK K;refine Xv 9 (.tuple #[.slice (some ⟨g,0,none⟩) c.length cap,.nilIface]) rfl ?_
    refine Xv 10 (.slice (some ⟨g,0,none⟩) c.length cap) rfl ?_
    refine Xv 11 (.nilIface) rfl ?_
   rotate_left
   focus
    go_simp;refine(callsIn_wide.2 (Xch _)).mono ?_;rintro e V2 ⟨rfl,rfl⟩;refine hK _ _ ?_;clear hK K;refine Xr 3 rfl fun K hK=>?_;go_simp;refine hK _ _ ?_;clear hK K;refine Xv 6 (.iface 74 (.pointer (some ⟨db,0,none⟩))) rfl ?_
    refine Xv 7 (.iface 74 (.pointer (some ⟨db,0,none⟩))) rfl ?_
    refine Xr 8 rfl fun K hK=>?_;go_simp;refine(callsIn_wide.2 hRd).mono ?_;rintro e V2 ⟨g,cap,rfl,hby,⟨hg1,hg2⟩,hb2⟩;refine hK _ _ ?_;clear hK K;refine Xv 9 (.tuple #[.slice (some ⟨g,0,none⟩) c.length cap,.nilIface]) rfl ?_
    refine Xv 10 (.slice (some ⟨g,0,none⟩) c.length cap) rfl ?_
    refine Xv 11 (.nilIface) rfl ?_
   rotate_left
  rotate_left 2
  focus
   go_simp;refine(callsIn_wide.2 (Xch _)).mono ?_;rintro e V2 ⟨rfl,rfl⟩;refine hK _ _ ?_;clear hK K;refine Xr 0 rfl fun K hK=>?_;go_simp;refine hK _ _ ?_;clear hK K;refine Xv 1 (.pointer (some ⟨jb,0,none⟩)) rfl ?_
   refine Xv 2 (.pointer (some ⟨jb,0,none⟩)) rfl ?_
   refine Xr 3 rfl fun K hK=>?_;go_simp;refine hK _ _ ?_;clear hK K;refine Xv 6 (.iface 74 (.pointer (some ⟨db,0,none⟩))) rfl ?_
   refine Xv 7 (.iface 74 (.pointer (some ⟨db,0,none⟩))) rfl ?_
   refine Xr 8 rfl fun K hK=>?_;go_simp;refine(callsIn_wide.2 hRd).mono ?_;rintro e V2 ⟨g,cap,rfl,hby,⟨hg1,hg2⟩,hb2⟩;refine hK _ _ ?_;clear hK K;refine Xv 9 (.tuple #[.slice (some ⟨g,0,none⟩) c.length cap,.nilIface]) rfl ?_
   refine Xv 10 (.slice (some ⟨g,0,none⟩) c.length cap) rfl ?_
   refine Xv 11 (.nilIface) rfl ?_
  rotate_left
  all_goals
   refine Xr 12 rfl fun K hK=>?_;go_simp;refine hK _ _ ?_;clear hK K;refine Xr 13 rfl fun K hK=>?_;go_simp;refine hK _ _ ?_;clear hK K;refine wpAnyIn_done (by kernel_rfl) ?_ _;have hB2d:Below w.heap.size w V2:=hBV.drew.trans (hb2.mono hBV.size);have hbV2:Below V.heap.size V V2:=(Below.refl _ V).drew.trans hb2;have hcv2:=Xgr (cap:=cap) hby;have hBW:=Xjb c hc ha V2 (hE.below hB2d (Nat.le_trans (by decide) h9)) (Nat.le_trans h9 hB2d.size) (hG.below (hB2d.mono h9));rw [hbg] at hBW;clear hRd hm
   gi_wp2_with fail
   refine(CallsIn.inRound ll (callsIn_wide.2 hBW)).mono ?_;rintro e V3 ⟨rfl,hb3⟩;have hbV3:=hbV2.trans (hb3.mono hbV2.size);have hB3:=hBV.trans (hbV3.mono hBV.size);have bP3:=bPV.below hbV3 bPV.lt;have bS3:=bSV.below hbV3 bSV.lt;have bE3:=bEV.below hbV3 bEV.lt;have bJ3:=hJ.below hB3 hJ.lt;have hby3:=hby.below hb3 hg2;have p3:=bP3.cell 0 (v:=.pointer (some ⟨jb,0,none⟩)) rfl;have j3:=bJ3.cell 1 (v:=.int .u64 0) rfl;have j3f:=bJ3.frozen 1;have hB4:=Xa6 hB3 (i:=1) (v:=.int .u64 0) bJ3 rfl;have hbJ4:=Xa6 (Below.refl V3.heap.size V3) (i:=1) (v:=.int .u64 0) bJ3 rfl;have hcv4:=Xgr (cap:=cap) (hby3.below hbJ4 (Nat.lt_of_lt_of_le hg2 hb3.size));have s3:=(bS3.below hbJ4 bS3.lt).cell 0 (v:=.string ⟨#[]⟩) rfl;have s3f:=(bS3.below hbJ4 bS3.lt).frozen 0;have e3:=(bE3.below hbJ4 bE3.lt).cell 0 (v:=.nilIface) rfl;have e3f:=(bE3.below hbJ4 bE3.lt).frozen 0
   gi_wp2
   have bP5:=((bP3.below hbJ4 bP3.lt).other (B':=w.heap.size+1) (by omega) 0 (.string ⟨c.toArray⟩)).other (B':=w.heap.size+1+1) (by omega) 0 .nilIface;have bS5:=((bS3.below hbJ4 bS3.lt).set 0 (.string ⟨c.toArray⟩)).other (B':=w.heap.size+1+1) (by omega) 0 .nilIface;have bE5:=((bE3.below hbJ4 bE3.lt).other (B':=w.heap.size+1) (by omega) 0 (.string ⟨c.toArray⟩)).set 0 .nilIface;have hB5:=(hB4.setCell (p:=⟨w.heap.size+1,0,none⟩) (by simp) (.string ⟨c.toArray⟩)).setCell (p:=⟨w.heap.size+1+1,0,none⟩) (by simp;omega) .nilIface;have hlE:=bE1.lt;exact⟨Vn (Vn (Vn (X0 _ hbV3) (by omega)) (by omega)) (by omega),rfl,⟨⟨bP5,bS5⟩,bE5⟩,hB5⟩
 case done =>
  rintro D zs V hD0 rfl ⟨h,-⟩ _;exact absurd h (by simp)
 case stop =>
  rintro D cd pre V hD0 _ ⟨rfl,⟨⟨bPV,bSV⟩,bEV⟩,hBV⟩ hK;have s0:=bSV.cell 0 (v:=.string ⟨c.toArray⟩) rfl;have e0:=bEV.cell 0 (v:=.nilIface) rfl
  gi_wp2
  refine⟨by simp,.inl ⟨_,_,rfl,run_takeDeferred hK,?_⟩⟩;have bS6:BoxN (V.putObj D (.deferred none)) (w.heap.size+1) 9 #[.string ⟨c.toArray⟩]:=(World.putObj_heap_other (by have:=bE1.lt;omega)).trans bSV;have bE6:BoxN (V.putObj D (.deferred none)) (w.heap.size+1+1) 81 #[.nilIface]:=(World.putObj_heap_other (by have:=bE1.lt;omega)).trans bEV;have q1:=bS6.cell 0 (v:=.string ⟨c.toArray⟩) rfl;have q2:=bE6.cell 0 (v:=.nilIface) rfl;exact⟨.tuple #[.string ⟨c.toArray⟩,.nilIface],by simp [results,results146,go_sem,q1,q2],rfl,hBV.trans (belowK_b (w:=w) (Nat.le_refl _) V D _ _ (by omega) hK rfl rfl)⟩
end Go.Proofs
namespace Go.Proofs
open Go.Shelf
def Tryz.Xho:Go.Shelf.Ren:=⟨fun | 172=>237 | 244=>267 | 245=>162 | 247=>282 | 279=>191 | 280=>192 | 281=>193 | 282=>194 | 287=>161 | 316=>217 | 171=>205 | 205=>218 | 321=>189 | 322=>190 | 243=>227 | 246=>250 | 283=>195 | 284=>196 | 285=>197 | 286=>198 | 129=>220 | 317=>219 | 318=>221 | 319=>222 | 320=>223 | 337=>239 | 338=>240 | n=>n,fun | 9=>9 | 3=>3 | 75=>81 | 76=>94 | 4=>4 | 5=>5 | 167=>286 | 37=>267 | 0=>0 | 85=>362 | 2=>2 | 168=>288 | 53=>31 | 175=>85 | 46=>54 | 210=>316 | 127=>324 | 145=>331 | 143=>329 | 21=>21 | 171=>291 | 173=>294 | 212=>318 | 51=>319 | 20=>20 | 213=>320 | 232=>353 | 233=>354 | 80=>137 | n=>n,fun | 15=>1 | 16=>2 | 17=>3 | 18=>4 | 19=>5 | n=>n⟩
theorem Tryz.Xqp:Go.Proofs.Lays.n172 prog Xho:={
 mixed:=by kernel_rfl
 f129:=Xf func220
 f171:=Xf func205
 f172:=Xf func237
 f205:=Xf func218
 f243:=Xf func227
 f244:=Xf func267
 f245:=Xf func162
 f246:=Xf func250
 f247:=Xf func282
 f279:=Xf func191
 f280:=Xf func192
 f281:=Xf func193
 f282:=Xf func194
 f283:=Xf func195
 f284:=Xf func196
 f285:=Xf func197
 f286:=Xf func198
 f287:=Xf func161
 f316:=Xf func217
 f317:=Xf func219
 f318:=Xf func221
 f319:=Xf func222
 f320:=Xf func223
 f321:=Xf func189
 f322:=Xf func190
 f337:=Xf func239
 f338:=Xf func240
 t0:=underlying0
 a0:=isAgg0
 z0:=sizeOf0
 v0:=zeroValue0
 t2:=underlying2
 a2:=isAgg2
 z2:=sizeOf2
 v2:=zeroValue2
 t3:=underlying3
 a3:=isAgg3
 z3:=sizeOf3
 v3:=zeroValue3
 t4:=underlying4
 a4:=isAgg4
 z4:=sizeOf4
 v4:=zeroValue4
 t5:=underlying5
 a5:=isAgg5
 z5:=sizeOf5
 v5:=zeroValue5
 t9:=underlying9
 a9:=isAgg9
 z9:=sizeOf9
 v9:=zeroValue9
 t20:=underlying20
 a20:=isAgg20
 z20:=sizeOf20
 v20:=zeroValue20
 t21:=underlying21
 a21:=isAgg21
 z21:=sizeOf21
 v21:=zeroValue21
 t37:=underlying267
 a37:=isAgg267
 z37:=sizeOf267
 v37:=zeroValue267
 t46:=underlying54
 a46:=isAgg54
 z46:=sizeOf54
 v46:=zeroValue54
 t51:=underlying319
 a51:=isAgg319
 z51:=sizeOf319
 v51:=zeroValue319
 t53:=underlying31
 a53:=isAgg31
 z53:=sizeOf31
 v53:=zeroValue31
 t75:=underlying81
 a75:=isAgg81
 z75:=sizeOf81
 v75:=zeroValue81
 t76:=underlying94
 a76:=isAgg94
 z76:=sizeOf94
 v76:=zeroValue94
 t85:=underlying362
 a85:=isAgg362
 z85:=sizeOf362
 v85:=zeroValue362
 t127:=underlying324
 a127:=isAgg324
 z127:=sizeOf324
 v127:=zeroValue324
 t143:=underlying329
 a143:=isAgg329
 z143:=sizeOf329
 v143:=zeroValue329
 t145:=underlying331
 a145:=isAgg331
 z145:=sizeOf331
 v145:=zeroValue331
 t167:=underlying286
 a167:=isAgg286
 z167:=sizeOf286
 v167:=zeroValue286
 t168:=underlying288
 a168:=isAgg288
 z168:=sizeOf288
 v168:=zeroValue288
 t171:=underlying291
 a171:=isAgg291
 z171:=sizeOf291
 v171:=zeroValue291
 t173:=underlying294
 a173:=isAgg294
 z173:=sizeOf294
 v173:=zeroValue294
 t175:=underlying85
 a175:=isAgg85
 z175:=sizeOf85
 v175:=zeroValue85
 t210:=underlying316
 a210:=isAgg316
 z210:=sizeOf316
 v210:=zeroValue316
 t212:=underlying318
 a212:=isAgg318
 z212:=sizeOf318
 v212:=zeroValue318
 t213:=underlying320
 a213:=isAgg320
 z213:=sizeOf320
 t232:=underlying353
 a232:=isAgg353
 z232:=sizeOf353
 v232:=zeroValue353
 t233:=underlying354
 a233:=isAgg354
 z233:=sizeOf354
 v233:=zeroValue354
 g15:=by kernel_rfl
 g16:=by kernel_rfl
 g17:=by kernel_rfl
 g18:=by kernel_rfl
 g19:=by kernel_rfl }
def Tryz.Xf1:Go.Shelf.Ren:=⟨fun | 25=>217 | n=>n,fun | 9=>9 | 3=>3 | 4=>4 | 37=>267 | 0=>0 | 47=>324 | 5=>5 | n=>n,fun | n=>n⟩
theorem Tryz.Xn5:Go.Proofs.LaysPu.n25 prog Xf1:={
 mixed:=by kernel_rfl
 f25:=Xf func217
 t0:=underlying0
 a0:=isAgg0
 z0:=sizeOf0
 v0:=zeroValue0
 i0:=by kernel_rfl
 t3:=underlying3
 a3:=isAgg3
 z3:=sizeOf3
 v3:=zeroValue3
 i3:=by kernel_rfl
 t4:=underlying4
 a4:=isAgg4
 z4:=sizeOf4
 v4:=zeroValue4
 i4:=by kernel_rfl
 t5:=underlying5
 a5:=isAgg5
 z5:=sizeOf5
 v5:=zeroValue5
 i5:=by kernel_rfl
 t9:=underlying9
 a9:=isAgg9
 z9:=sizeOf9
 v9:=zeroValue9
 i9:=by kernel_rfl
 t37:=underlying267
 a37:=isAgg267
 z37:=sizeOf267
 v37:=zeroValue267
 i37:=by kernel_rfl
 t47:=underlying324
 a47:=isAgg324
 z47:=sizeOf324
 v47:=zeroValue324
 i47:=by kernel_rfl }
end Go.Proofs
namespace Go.Proofs
open Go.RowKit Go.Sort Go.Lib Go.Shelf Go.Maps
theorem Xmh (xs:List (List UInt8)) (bs:List ByteArray) (h:bs.map (·.data.toList)=xs):bs.map Value.string=xs.map (fun x=>.string ⟨x.toArray⟩):=by
 rw [<- h,List.map_map];exact List.map_congr_left (fun b _=>rfl)
theorem Tryz.Xma (s:List UInt8) (c:UInt8) (w:World) (hs:s.length<4294967281) (hG:Ja w) (xs:List (List UInt8)) (hx:Lib.split s [c]=xs) :
  Calls prog 184 #[.string ⟨s.toArray⟩,.string ⟨#[c]⟩] w fun e w'=>e=.returned (.slice (some ⟨w.heap.size,0,none⟩) xs.length xs.length)/\w'=w.alloc (.cells (xs.map (fun x=>.string ⟨x.toArray⟩)).toArray 9):=by
 obtain⟨-,m,hm⟩:=hG;have h:=Any.strings_Split Xg1 Xm1 ⟨s.toArray⟩ ⟨#[c]⟩ m w (by simpa [ByteArray.size] using hs) hm (Nat.le_refl 1)
 have hd:(Lib.splitB ⟨#[c]⟩ 0 (Lib.countB ⟨s.toArray⟩ ⟨#[c]⟩) ⟨s.toArray⟩).map (·.data.toList)=xs:=by
  rw [Lib.splitB_data];exact hx
 have hl:=Lib.splitB_all ⟨#[c]⟩ (Nat.le_refl 1) 0 _ ⟨s.toArray⟩ rfl;rw [Xmh xs _ hd,<- hl,show (Lib.splitB ⟨#[c]⟩ 0 (Lib.countB ⟨s.toArray⟩ ⟨#[c]⟩) ⟨s.toArray⟩).length=xs.length by rw [<- hd,List.length_map]] at h;exact h
theorem Tryz.atoi (s:List UInt8) (n:Int) (hl:s.length<=18) (h:Lib.atoi s=some n) (w:World) :
  Calls prog 237 #[.string ⟨s.toArray⟩] w fun e w'=>e=.returned (.tuple #[.int .i64 n,.nilIface])/\Below w.heap.size w w':=
 (Any.strconv_Atoi Xqp ⟨s.toArray⟩ n (by simpa [ByteArray.size] using hl) h w).mono fun _ _ ⟨h1,t,h2⟩=>⟨h1,by rw [h2];exact Lib.bytesWorld_below _ _ _⟩
theorem Tryz.Xu8 (s:List UInt8) (hl:s.length<=281474976710656) (w:World) :
  Calls prog 217 #[.string ⟨s.toArray⟩] w fun e w'=>e=.returned (.string ⟨s.toArray⟩)/\Below w.heap.size w w':=
 AnyPu.stringslite_Clone Xn5 ⟨s.toArray⟩ w (by simpa [ByteArray.size] using hl)
theorem Tryz.clone (s:List UInt8) (hl:s.length<=281474976710656) (w:World) :
  Calls prog 238 #[.string ⟨s.toArray⟩] w fun e w'=>e=.returned (.string ⟨s.toArray⟩)/\Below w.heap.size w w':=by
 have hC:=fun W=>Xu8 s hl W
 go_enter func238,ntmps238
 go_wp2_with (go_at_call 217;refine(hC _).mono ?_;rintro e w1 ⟨rfl,hb1⟩)
 go_ret;exact⟨rfl,hb1⟩
end Go.Proofs
