import Derived.Test.YtjbekgjdempbiaaGreatDoorJSq
import Derived.Test.YtjbekgjdempbiaaGreatDoorJCTkI
set_option maxRecDepth 100000
set_option maxHeartbeats 8000000
namespace Go.Proofs
open Go.RowKit Go.Sort Go.Lib Go.Shelf Go.Maps Go.WideMaps
attribute [local go_sem] Oper.semAt_some
theorem Spares.Xes {bad:TypeId->Bool} {bs:List Nat} {W W':World} (hS:Spares bs W W') (hbs:∀ b∈bs,∃ t cs,BoxN W b t cs/\bad t=true):KeepsT bad W W':=
 ⟨hS.size,fun k o hk hs=>by
  by_cases hm:k∈bs
  ·obtain⟨t,cs,hB,hb⟩:=hbs k hm
   rw [show W.heap[k]? = _ from hB] at hk;cases hk;simp [Xaw,hb] at hs
  exact(hS.block k (Array.getElem?_eq_some_iff.1 hk).1 hm).trans hk⟩
theorem Spares.Vf {bs:List Nat} {W W':World} (hS:Spares bs W W') (hbs:∀ b∈bs,∃ t cs,BoxN W b t cs) (B:Nat):KeepsFrom B W W':=
 ⟨hS.size,fun k o _ hk hs=>by
  by_cases hm:k∈bs
  ·obtain⟨t,cs,hB⟩:=hbs k hm
   rw [show W.heap[k]? = _ from hB] at hk;cases hk;cases hs
  exact(hS.block k (Array.getElem?_eq_some_iff.1 hk).1 hm).trans hk⟩
def Tryz.Xix (t:TypeId):Bool:=t==126||t==144
theorem Tryz.QAt.lea {B:Nat} {w V:World} {k:Blk} {vx:VX} {tm:Int} {s:VSt} {c:List UInt8} {l f:Int} {rb:Nat} {fl:Int} {v:Value} {xs:List Value} {zs:List Xc} (h:QAt B w k vx tm s c l f rb fl v xs zs V) (hz:zs.length<=100) (t:Xc) :
  Calls prog 131 #[.pointer (some ⟨k.vb,8,none⟩),.agg t.cells] V fun e V'=>e=.returned (.tuple #[])/\QAt B w k vx tm s c l f rb fl v xs (zs ++ [t]) V'/\∃ bs,Spares bs V V'/\∀ b∈bs,∃ t cs,BoxN V b t cs/\(t=126\/t=144):=by
 obtain⟨vx',q,h1,h2,h3,h4,h5,h6⟩:=h;refine(Xn5 B k.vb vx'.due q.length q (Yp vx' tm k.mt k.ml s.tn s.ln) t V h2.wh.v.va.v rfl h2.due h2.hp h2.bw (by rw [h1.length_eq];exact hz)).mono ?_;rintro e V' ⟨rfl,g,cap,ys,hq,hH,hpm,hg,hs⟩;refine⟨rfl,h2.Xmq h1 h3 h4 h5 h6 hq hH hpm hg hs,_,hs,fun b hb=>?_⟩
 rcases List.mem_cons.1 hb with rfl | hb
 ·exact⟨_,_,h2.wh.v.va.v,.inl rfl⟩
 obtain⟨-,cs,hB⟩:=Xn h2.due (g:=b) (by simpa using hb);exact⟨_,_,hB,.inr rfl⟩
theorem Y0 {α β:Type} (f:α->List β) (hf:∀ x,(f x).length<=1):∀ pre:List α,(pre.flatMap f).length<=pre.length
 | []=>by simp
 | a :: pre=>by
  have:=Y0 f hf pre;have:=hf a;rw [List.flatMap_cons,List.length_append,List.length_cons];omega
theorem Tryz.Xkz (B:Nat) (k:Blk) (vx:VX) (tm:Int) (s:VSt) (c:List UInt8) (l f:Int) (rb:Nat) (fl:Int) (v:Value) (xs:List Value) (w:World) (h:TAt B w k vx tm s c l f rb fl v xs []) (h50:s.tks.length+s.lks.length<=50) :
  CallsIn Fence.wide 9 prog 75 #[.pointer (some ⟨k.vb,0,none⟩)] w fun e w'=>e=.returned (.tuple #[])/\QAt B w k vx tm s c l f rb fl v xs (s.tks.flatMap (Yv s tm)++s.lks.flatMap (Zi tm)) w':=by
 have hfw:Fence.wide.fn 79:=trivial;have hfw2:Fence.wide.fn 81:=trivial;have v1:=h.wh.v.va.v.cell 3 (v:=.map (some k.mt)) rfl;have lv:=h.wh.v.va.v.lt;refine callsIn_of_wp_marks func75 rfl trivial ?_ rfl;simp only [ntmps75,List.size_toArray,List.length_cons,List.length_nil,Nat.reduceAdd,Nat.reduceSub,Array.replicate_succ,Array.replicate_zero,List.push_toArray,List.append_toArray,List.nil_append,List.cons_append]
 gi_wp2_with (gi_at_call 79;refine(callsIn_wide.2 (Xd0 (some k.mt) _)).mono ?_;rintro e w' ⟨rfl,rfl⟩)
 obtain⟨kT,sT⟩:=h.wh.v.va.ok.ksT;obtain⟨nT,hnT,mT⟩:=h.wh.v.va.held.mapT;obtain⟨n2,-,m2⟩:=h.wh.v.va.held.mapL;obtain⟨fd0,fn0,hd0,-,-⟩:=h.wh.d;obtain⟨n3,-,m3⟩:=hd0.dm;obtain⟨n4,-,m4⟩:=hd0.nm
 have hw:k.mt<w.heap.size/\k.ml<w.heap.size/\k.md<w.heap.size/\k.mn<w.heap.size/\6<=w.heap.size:=⟨mT.lt,m2.lt,m3.lt,m4.lt,h.wh.v.va.six⟩
 have bB:=(BoxN.new w 76 #[.pointer (some ⟨k.vb,0,none⟩)]).alloc (.cells #[.map (some k.mt)] 120);have bM:=BoxN.new (w.alloc (.cells #[.pointer (some ⟨k.vb,0,none⟩)] 76)) 120 #[.map (some k.mt)];have hB0:Below w.heap.size w ((w.alloc (.cells #[.pointer (some ⟨k.vb,0,none⟩)] 76)).alloc (.cells #[.map (some k.mt)] 120)):=((Below.refl _ w).alloc (Nat.le_refl _) _).alloc (by simp) _;have mT0:=(KeepsT.below (bad:=Xix) hB0).map mT
 have hsz:((w.alloc (.cells #[.pointer (some ⟨k.vb,0,none⟩)] 76)).alloc (.cells #[.map (some k.mt)] 120)).heap.size=w.heap.size+2:=by simp
 rw [World.size_alloc] at bM
 have hQ0:QAt B w k vx tm s c l f rb fl v xs [] ((w.alloc (.cells #[.pointer (some ⟨k.vb,0,none⟩)] 76)).alloc (.cells #[.map (some k.mt)] 120)):=⟨vx,[],List.Perm.refl _,h.below hB0,rfl,rfl,fun d hd=>.inl hd,Spares.of_below hB0⟩
 obtain⟨W0,hW0⟩:∃ W0,(w.alloc (.cells #[.pointer (some ⟨k.vb,0,none⟩)] 76)).alloc (.cells #[.map (some k.mt)] 120)=W0:=⟨_,rfl⟩
 rw [hW0] at bB bM hB0 mT0 hsz hQ0 ⊢;have hokT:=h.wh.v.va.ok;clear hW0 h hd0 m2 m3 m4 mT v1
 refine wpIn_rangeFunc_ownH rfl (by omega) (gf:=136) (lb:=#[.pointer (some ⟨w.heap.size+1,0,none⟩)]) rfl trivial M4
  (Jt 8 (by omega) Xix (by decide) (by decide) (w.heap.size+1) k.mt nT (s.tks.map Xe.key) kT sT (by have:=hokT.lenT;simp;omega) (Xe.sh s.tks) W0 bM mT0) Jl Jk (Below.refl _ _) (fun _=>rfl)
  (fun pre V=>QAt B w k vx tm s c l f rb fl v xs (pre.flatMap fun x=>Yv s tm (X3 x)) V/\BoxN V w.heap.size 76 #[.pointer (some ⟨k.vb,0,none⟩)])
  (fun _ _ _=>False)
  (fun pre X Y row hs hgr hr=>⟨hs.1.own hw hgr (fun r e=>⟨by have:=(hr r e).1;omega,(hr r e).2⟩),X6 w.heap.size 76 (fun(_:Unit)=>#[.pointer (some ⟨k.vb,0,none⟩)]) () X Y row hs.2 hgr (fun r e=>(hr r e).2)⟩)
  (fun _ _ _ _ _ hs _ _=>hs)
  ⟨hQ0,bB⟩
  (fun x a' V=>∃ Bx,BoxN V Bx 114 #[.int .i64 x.1.1.1,.int .u64 x.1.1.2]/\a' = { tmps:=#[.pointer (some ⟨k.vb,0,none⟩),.pointer (some ⟨w.heap.size,0,none⟩),.pointer (some ⟨Bx,0,none⟩),undef,undef,.pointer (some ⟨k.vb,0,none⟩),.pointer (some ⟨k.vb,0,none⟩),.pointer (some ⟨k.vb,3,none⟩),.map (some k.mt),.func (.func 136) #[] #[.pointer (some ⟨w.heap.size+1,0,none⟩)],.agg #[.int .i64 x.1.1.1,.int .u64 x.1.1.2],.agg (X3 x).cells,undef,undef,undef,undef,undef,undef,undef,undef,undef,undef,undef,undef,undef,undef,undef,undef,undef,undef,undef,undef,undef,undef,undef,undef,undef,undef,undef],defers:=[] })
  (fun x a' _ X Y row hs hgr hr=>by obtain⟨Bx,h2,h3⟩:=hs;exact⟨Bx,X6 Bx 114 (fun(_:Unit)=>#[.int .i64 x.1.1.1,.int .u64 x.1.1.2]) () X Y row h2 hgr (fun r e=>(hr r e).2),h3⟩)
  ?assign ?body ?done ?stop
 case assign =>
  rintro ll pre x V K ⟨hJ1,bV⟩ hK
  have e2:x.1.2=.agg (X3 x).cells:=by rw [<- (Zk x).2];rfl
  rw [e2];unfold nmV
  gi_wp2
  exact hK _ _ ((KeepsOthers.alloc _ _).from _) (KeepsT.alloc _ _) ⟨hJ1.below ((Below.refl _ V).alloc (Nat.le_refl _) _),bV.alloc _⟩ ⟨V.heap.size,BoxN.new V 114 _,rfl⟩
 case body =>
  rintro ll pre x a' V hl ⟨r,hr⟩ ⟨hJ1,bV⟩ ⟨Bx,bX,rfl⟩ hlt';obtain⟨ht,hkx⟩:=Zk x
  have hzl:(pre.flatMap fun x=>Yv s tm (X3 x)).length<=100:=by
   have:=Y0 (fun x=>Yv s tm (X3 x)) (fun x=>by unfold Yv;split <;> simp) pre;simp at hlt';omega
  have hJ2:∀ V2,QAt B w k vx tm s c l f rb fl v xs ((pre.flatMap fun x=>Yv s tm (X3 x))++Yv s tm (X3 x)) V2->QAt B w k vx tm s c l f rb fl v xs ((pre ++ [x]).flatMap fun x=>Yv s tm (X3 x)) V2:=fun V2 h=>by simpa using h
  obtain⟨tk,htk⟩:∃ tk,X3 x=tk:=⟨_,rfl⟩
  rw [htk] at ht hkx hJ2 ⊢;obtain⟨x,hxm⟩:=x;simp only at hkx;subst hkx;have hq:=hJ1.tok hzl tk ht;have x0:=bX.cell 0 (v:=.int .i64 1) rfl;have x1:=bX.cell 1 (v:=.int .u64 (tk.n:Int)) rfl;have cB:=bV.cell 0 (v:=.pointer (some ⟨k.vb,0,none⟩)) rfl;unfold nmV at hq;have hfq:Fence.wide.fn 130:=trivial;simp only [Xe.key]
  gi_wp2_with (gi_at_call 130;refine(callsIn_wide.2 hq).mono ?_;rintro e V2 ⟨rfl,hQ2,bs,hsp,hbs⟩)
  refine⟨hsp.Vf (fun b hb=>by obtain⟨t,cs,h1,-⟩:=hbs b hb;exact⟨t,cs,h1⟩) _,hsp.Xes (fun b hb=>by obtain⟨t,cs,h1,h2⟩:=hbs b hb;exact⟨t,cs,h1,by rcases h2 with rfl | rfl <;> decide⟩),hJ2 _ hQ2,hsp.box bV (fun hm=>by obtain⟨t,cs,h1,h2⟩:=hbs _ hm;rcases h2 with rfl | rfl <;> exact bV.ne h1 (by decide) rfl)⟩
 case done =>
  rintro D1 zs V hD hzs ⟨hI,bV⟩ hD1;have hD1lt:=(Array.getElem?_eq_some_iff.1 hD1).1
  have hzs':(zs.flatMap fun x=>Yv s tm (X3 x))=s.tks.flatMap (Yv s tm):=by
   rw [hzs]
   conv=>rhs;rw [<- Ua hokT.incT]
   rw [List.flatMap_map]
  rw [hzs'] at hI;clear hzs hzs';obtain⟨vx1,q1,h1,h2,h3,h4,h5,h6⟩:=hI;have cB:=bV.cell 0 (v:=.pointer (some ⟨k.vb,0,none⟩)) rfl;have v2:=h2.wh.v.va.v.cell 4 (v:=.map (some k.ml)) rfl;have lvV:=h2.wh.v.va.v.lt
  gi_wp2_with (gi_at_call 81;refine(callsIn_wide.2 (Xd4 (some k.ml) _)).mono ?_;rintro e w' ⟨rfl,rfl⟩)
  clear v2 cB;obtain⟨kL,sL⟩:=hokT.ksL;obtain⟨nL,hnL,mL⟩:=h2.wh.v.va.held.mapL;have bM2:=BoxN.new V 121 #[.map (some k.ml)];have hB1:Below V.heap.size V (V.alloc (.cells #[.map (some k.ml)] 121)):=(Below.refl _ V).alloc (Nat.le_refl _) _;have mL1:=(KeepsT.below (bad:=Xix) hB1).map mL;have hD2:(V.alloc (.cells #[.map (some k.ml)] 121)).heap[D1]? = some (.deferred (some [])):=(hB1.block D1 hD1lt).trans hD1
  have hs1:(V.alloc (.cells #[.map (some k.ml)] 121)).heap.size=V.heap.size+1:=by simp
  have hbx:=bV.below hB1 bV.lt
  have hQ1:QAt B w k vx tm s c l f rb fl v xs (s.tks.flatMap (Yv s tm)) V:=⟨vx1,q1,h1,h2,h3,h4,h5,h6⟩
  have hQ2:=hQ1.below hB1;have hsV:=h6.size;have hlT:=Y0 (Yv s tm) (fun x=>by unfold Yv;split <;> simp) s.tks
  obtain⟨V1,hVe⟩:∃ V1,V.alloc (.cells #[.map (some k.ml)] 121)=V1:=⟨_,rfl⟩
  rw [hVe] at bM2 hB1 mL1 hD2 hs1 hbx hQ2 ⊢;clear hVe hQ1 h2 h1 h3 h4 h5 h6 bV hD1 mL
  refine wpIn_rangeFunc_ownH rfl (by omega) (gf:=139) (lb:=#[.pointer (some ⟨V.heap.size,0,none⟩)]) rfl trivial Mv
   (Ju 8 (by omega) Xix (by decide) (by decide) V.heap.size k.ml nL (s.lks.map Xd.key) kL sL (by have:=hokT.lenL;simp;omega) (Xd.sh s.lks) V1 bM2 mL1) Jl Jk (Below.refl _ _) (fun _=>rfl)
   (fun pre X=>(QAt B w k vx tm s c l f rb fl v xs (s.tks.flatMap (Yv s tm)++pre.flatMap fun x=>Zi tm (Xy x)) X/\BoxN X w.heap.size 76 #[.pointer (some ⟨k.vb,0,none⟩)])/\X.heap[D1]? = some (.deferred (some [])))
   (fun _ _ _=>False)
   (fun pre X Y row hs hgr hr=>⟨⟨hs.1.1.own hw hgr (fun r e=>⟨by have:=(hr r e).1;omega,(hr r e).2⟩),X6 w.heap.size 76 (fun(_:Unit)=>#[.pointer (some ⟨k.vb,0,none⟩)]) () X Y row hs.1.2 hgr (fun r e=>(hr r e).2)⟩,Xa7 (β:=Unit) D1 _ (by omega) () X Y row hs.2 hgr hr⟩)
   (fun _ _ _ _ _ hs _ _=>hs)
   ⟨⟨by simpa using hQ2,hbx⟩,hD2⟩
   (fun x a' X=>∃ Bx Bt,BoxN X Bx 114 #[.int .i64 x.1.1.1,.int .u64 x.1.1.2]/\BoxN X Bt 131 (Xy x).cells/\a' = { tmps:=#[.pointer (some ⟨k.vb,0,none⟩),.pointer (some ⟨w.heap.size,0,none⟩),undef,.pointer (some ⟨Bx,0,none⟩),.pointer (some ⟨Bt,0,none⟩),.pointer (some ⟨k.vb,0,none⟩),.pointer (some ⟨k.vb,0,none⟩),.pointer (some ⟨k.vb,3,none⟩),.map (some k.mt),.func (.func 136) #[] #[.pointer (some ⟨w.heap.size+1,0,none⟩)],undef,undef,undef,undef,undef,.pointer (some ⟨k.vb,0,none⟩),.pointer (some ⟨k.vb,0,none⟩),.pointer (some ⟨k.vb,4,none⟩),.map (some k.ml),.func (.func 139) #[] #[.pointer (some ⟨V.heap.size,0,none⟩)],.agg #[.int .i64 x.1.1.1,.int .u64 x.1.1.2],.agg (Xy x).cells,undef,undef,undef,undef,undef,undef,undef,undef,undef,undef,undef,undef,undef,undef,undef,undef,undef],defers:=[] })
   (fun x a' _ X Y row hs hgr hr=>by obtain⟨Bx,Bt,h2,h2',h3⟩:=hs;exact⟨Bx,Bt,X6 Bx 114 (fun(_:Unit)=>#[.int .i64 x.1.1.1,.int .u64 x.1.1.2]) () X Y row h2 hgr (fun r e=>(hr r e).2),X6 Bt 131 (fun(_:Unit)=>(Xy x).cells) () X Y row h2' hgr (fun r e=>(hr r e).2),h3⟩)
   ?assign2 ?body2 ?done2 ?stop2
  case assign2 =>
   rintro ll pre x X K ⟨⟨hJ1,bX1⟩,hDX⟩ hK
   have e2:x.1.2=.agg (Xy x).cells:=by rw [<- (Zl x).2];rfl
   rw [e2];unfold nmV;simp only [Xd.cells] at hK ⊢
   gi_wp2
   have hBB:Below X.heap.size X ((X.alloc (.cells #[.int .i64 x.1.1.1,.int .u64 x.1.1.2] 114)).alloc (.cells (Xy x).cells 131)):=((Below.refl _ X).alloc (Nat.le_refl _) _).alloc (by simp) _;refine hK _ _ (((KeepsOthers.alloc _ _).from _).trans ((KeepsOthers.alloc _ _).from _)) ((KeepsT.alloc _ _).trans (KeepsT.alloc _ _)) ⟨⟨hJ1.below hBB,(bX1.alloc _).alloc _⟩,(hBB.block D1 (Array.getElem?_eq_some_iff.1 hDX).1).trans hDX⟩ ⟨X.heap.size,X.heap.size+1,(BoxN.new X 114 _).alloc _,?_,?_⟩
   ·have:=BoxN.new (X.alloc (.cells #[.int .i64 x.1.1.1,.int .u64 x.1.1.2] 114)) 131 (Xy x).cells
    rwa [World.size_alloc] at this
   simp
  case body2 =>
   rintro ll pre x a' V hl ⟨r,hr⟩ ⟨⟨hJ1,bV⟩,hDX⟩ ⟨Bx,Bt,bX,bT,rfl⟩ hlt';obtain⟨ht,hkx⟩:=Zl x
   have hzl:(s.tks.flatMap (Yv s tm)++pre.flatMap fun x=>Zi tm (Xy x)).length<=100:=by
    have:=Y0 (fun x=>Zi tm (Xy x)) (fun x=>by unfold Zi;split <;> simp) pre;simp at hlt';rw [List.length_append];omega
   have hJ2:∀ V2,QAt B w k vx tm s c l f rb fl v xs ((s.tks.flatMap (Yv s tm)++pre.flatMap fun x=>Zi tm (Xy x))++Zi tm (Xy x)) V2->QAt B w k vx tm s c l f rb fl v xs (s.tks.flatMap (Yv s tm)++(pre ++ [x]).flatMap fun x=>Zi tm (Xy x)) V2:=fun V2 h=>by simpa using h
   obtain⟨tk,htk⟩:∃ tk,Xy x=tk:=⟨_,rfl⟩
   rw [htk] at ht hkx hJ2 bT ⊢;obtain⟨x,hxm⟩:=x;simp only at hkx;subst hkx
   have hVt:V.cell? ⟨k.vb,2,none⟩=some (.int .u64 tm):=by
    obtain⟨vx',q',-,h2,-⟩:=hJ1;exact h2.wh.v.va.v.cell 2 rfl
   have x0:=bX.cell 0 (v:=.int .i64 2) rfl;have x1:=bX.cell 1 (v:=.int .u64 (tk.n:Int)) rfl;have cB:=bV.cell 0 (v:=.pointer (some ⟨k.vb,0,none⟩)) rfl;have cT:=bT.cell 2 (v:=.int .u64 tk.at_) rfl;have hfp:Fence.wide.fn 131:=trivial
   by_cases hat:tk.at_<=tm
   ·have hcall:∀ m X,Below V.heap.size V X->CallsIn Fence.wide m prog 131 #[.pointer (some ⟨k.vb,8,none⟩),.agg #[.int .u64 tk.at_,.int .i64 2,.int .u64 (tk.n:Int)]] X fun e V3=>e=.returned (.tuple #[])/\KeepsFrom V1.heap.size V V3/\KeepsT Xix V V3/\QAt B w k vx tm s c l f rb fl v xs (s.tks.flatMap (Yv s tm)++(pre ++ [(⟨tk.key,hxm⟩:{ p // p∈s.lks.map Xd.key })]).flatMap fun x=>Zi tm (Xy x)) V3/\BoxN V3 w.heap.size 76 #[.pointer (some ⟨k.vb,0,none⟩)]/\V3.heap[D1]? = some (.deferred (some [])):=fun m X hbX=>by
     refine callsIn_wide.2 (((hJ1.below hbX).lea hzl ⟨tk.at_,2,tk.n⟩).mono ?_);rintro e V3 ⟨rfl,hQ3,bs,hsp,hbs⟩;have bVX:=bV.below hbX bV.lt;have kf:=(Y4 0 hbX).trans (hsp.Vf (fun b hb=>by obtain⟨t,cs,h1,-⟩:=hbs b hb;exact⟨t,cs,h1⟩) 0);exact⟨rfl,Ys kf (Nat.zero_le _),(KeepsT.below hbX).trans (hsp.Xes (fun b hb=>by obtain⟨t,cs,h1,h2⟩:=hbs b hb;exact⟨t,cs,h1,by rcases h2 with rfl | rfl <;> decide⟩)),hJ2 _ (by rw [show Zi tm tk=([⟨tk.at_,2,tk.n⟩]:List Xc) from if_pos hat];exact hQ3),hsp.box bVX (fun hm=>by obtain⟨t,cs,h1,h2⟩:=hbs _ hm;rcases h2 with rfl | rfl <;> exact bVX.ne h1 (by decide) rfl),kf.same D1 _ (Nat.zero_le _) hDX rfl⟩
    clear hJ2 hJ1 hzl hokT hQ0 bB bM mT0 kT sT kL sL bM2 mL1 hB1 hQ2 hbx hD2 hB0 bT bX bV;simp only [Xd.key]
    gi_wp2_with fail
    refine wpIn_region_any (by kernel_rfl) (Xx ll (by kernel_rfl) _ _ _ _ ?_)
    change wpAnyIn _ _ _ _ _ _ _ _ _ (World.drew _)
    refine Xv 0 (.pointer (some ⟨Bt,0,none⟩)) rfl ?_
    refine Xv 1 (.pointer (some ⟨Bt,2,none⟩)) rfl ?_
    refine Xs 2 3 rfl rfl (fun K hK=>?_) fun K hK=>?_
    focus
     go_simp;refine hK _ _ ?_;clear hK K;refine Xr 3 rfl fun K hK=>?_;go_simp;refine hK _ _ ?_;clear hK K;refine Xv 4 (.pointer (some ⟨k.vb,0,none⟩)) rfl ?_
     refine Xv 5 (.pointer (some ⟨k.vb,2,none⟩)) rfl ?_
     refine Xr 6 rfl fun K hK=>?_;go_simp;refine hK _ _ ?_;clear hK K;refine Xv 7 (.bool true) rfl ?_
     refine wpAnyIn_done (by kernel_rfl) ?_ _
     gi_wp2_with fail
     refine wpIn_region_any (by kernel_rfl) (Xx ll (by kernel_rfl) _ _ _ _ ?_)
     change wpAnyIn _ _ _ _ _ _ _ _ _ (World.drew _)
     refine Xv 3 (.pointer (some ⟨Bt,0,none⟩)) rfl ?_
     refine Xv 4 (.pointer (some ⟨Bt,2,none⟩)) rfl ?_
     refine wpAnyIn_ready (rs:=[0,5,6]) (by kernel_rfl) (by simp) ?_;refine AllReadyIn.cons rfl (fun K hK=>?_) (AllReadyIn.cons rfl (fun K hK=>?_) (AllReadyIn.cons rfl (fun K hK=>?_) (AllReadyIn.nil)))
     focus
      go_simp;refine hK _ _ ?_;clear hK K;refine Xv 1 (.pointer (some ⟨k.vb,0,none⟩)) rfl ?_
      refine Xv 2 (.pointer (some ⟨k.vb,8,none⟩)) rfl ?_
      refine Xs 5 6 rfl rfl (fun K hK=>?_) fun K hK=>?_
      focus
       go_simp;refine hK _ _ ?_;clear hK K;refine Xr 6 rfl fun K hK=>?_;go_simp;refine hK _ _ ?_;clear hK K;refine Xv 7 (.agg #[.int .u64 tk.at_,.int .i64 2,.int .u64 (tk.n:Int)]) rfl ?_
      rotate_left
      focus
       go_simp;refine hK _ _ ?_;clear hK K;refine Xr 5 rfl fun K hK=>?_;go_simp;refine hK _ _ ?_;clear hK K;refine Xv 7 (.agg #[.int .u64 tk.at_,.int .i64 2,.int .u64 (tk.n:Int)]) rfl ?_
      rotate_left
     rotate_left 2
     focus
      go_simp;refine hK _ _ ?_;clear hK K;refine Xs 0 6 rfl rfl (fun K hK=>?_) fun K hK=>?_
      focus
       go_simp;refine hK _ _ ?_;clear hK K;refine Xv 1 (.pointer (some ⟨k.vb,0,none⟩)) rfl ?_
       refine Xv 2 (.pointer (some ⟨k.vb,8,none⟩)) rfl ?_
       refine Xr 6 rfl fun K hK=>?_;go_simp;refine hK _ _ ?_;clear hK K;refine Xv 7 (.agg #[.int .u64 tk.at_,.int .i64 2,.int .u64 (tk.n:Int)]) rfl ?_
      rotate_left
      focus
       go_simp;refine hK _ _ ?_;clear hK K;refine Xv 7 (.agg #[.int .u64 tk.at_,.int .i64 2,.int .u64 (tk.n:Int)]) rfl ?_
       refine Xr 0 rfl fun K hK=>?_;go_simp;refine hK _ _ ?_;clear hK K;refine Xv 1 (.pointer (some ⟨k.vb,0,none⟩)) rfl ?_
       refine Xv 2 (.pointer (some ⟨k.vb,8,none⟩)) rfl ?_
      rotate_left
     rotate_left 2
     focus
      go_simp;refine hK _ _ ?_;clear hK K;refine Xs 0 5 rfl rfl (fun K hK=>?_) fun K hK=>?_
      focus
       go_simp;refine hK _ _ ?_;clear hK K;refine Xv 1 (.pointer (some ⟨k.vb,0,none⟩)) rfl ?_
       refine Xv 2 (.pointer (some ⟨k.vb,8,none⟩)) rfl ?_
       refine Xr 5 rfl fun K hK=>?_;go_simp;refine hK _ _ ?_;clear hK K;refine Xv 7 (.agg #[.int .u64 tk.at_,.int .i64 2,.int .u64 (tk.n:Int)]) rfl ?_
      rotate_left
      focus
       go_simp;refine hK _ _ ?_;clear hK K;refine Xv 7 (.agg #[.int .u64 tk.at_,.int .i64 2,.int .u64 (tk.n:Int)]) rfl ?_
       refine Xr 0 rfl fun K hK=>?_;go_simp;refine hK _ _ ?_;clear hK K;refine Xv 1 (.pointer (some ⟨k.vb,0,none⟩)) rfl ?_
       refine Xv 2 (.pointer (some ⟨k.vb,8,none⟩)) rfl ?_
      rotate_left
     rotate_left 2
    rotate_left 6
    focus
     go_simp;refine hK _ _ ?_;clear hK K;refine Xv 4 (.pointer (some ⟨k.vb,0,none⟩)) rfl ?_
     refine Xv 5 (.pointer (some ⟨k.vb,2,none⟩)) rfl ?_
     refine Xs 2 6 rfl rfl (fun K hK=>?_) fun K hK=>?_
     focus
      go_simp;refine hK _ _ ?_;clear hK K;refine Xr 6 rfl fun K hK=>?_;go_simp;refine hK _ _ ?_;clear hK K;refine Xv 7 (.bool true) rfl ?_
      refine wpAnyIn_done (by kernel_rfl) ?_ _
      gi_wp2_with fail
      refine wpIn_region_any (by kernel_rfl) (Xx ll (by kernel_rfl) _ _ _ _ ?_)
      change wpAnyIn _ _ _ _ _ _ _ _ _ (World.drew _)
      refine Xv 3 (.pointer (some ⟨Bt,0,none⟩)) rfl ?_
      refine Xv 4 (.pointer (some ⟨Bt,2,none⟩)) rfl ?_
      refine wpAnyIn_ready (rs:=[0,5,6]) (by kernel_rfl) (by simp) ?_;refine AllReadyIn.cons rfl (fun K hK=>?_) (AllReadyIn.cons rfl (fun K hK=>?_) (AllReadyIn.cons rfl (fun K hK=>?_) (AllReadyIn.nil)))
      focus
       go_simp;refine hK _ _ ?_;clear hK K;refine Xv 1 (.pointer (some ⟨k.vb,0,none⟩)) rfl ?_
       refine Xv 2 (.pointer (some ⟨k.vb,8,none⟩)) rfl ?_
       refine Xs 5 6 rfl rfl (fun K hK=>?_) fun K hK=>?_
       focus
        go_simp;refine hK _ _ ?_;clear hK K;refine Xr 6 rfl fun K hK=>?_;go_simp;refine hK _ _ ?_;clear hK K;refine Xv 7 (.agg #[.int .u64 tk.at_,.int .i64 2,.int .u64 (tk.n:Int)]) rfl ?_
       rotate_left
       focus
        go_simp;refine hK _ _ ?_;clear hK K;refine Xr 5 rfl fun K hK=>?_;go_simp;refine hK _ _ ?_;clear hK K;refine Xv 7 (.agg #[.int .u64 tk.at_,.int .i64 2,.int .u64 (tk.n:Int)]) rfl ?_
       rotate_left
      rotate_left 2
      focus
       go_simp;refine hK _ _ ?_;clear hK K;refine Xs 0 6 rfl rfl (fun K hK=>?_) fun K hK=>?_
       focus
        go_simp;refine hK _ _ ?_;clear hK K;refine Xv 1 (.pointer (some ⟨k.vb,0,none⟩)) rfl ?_
        refine Xv 2 (.pointer (some ⟨k.vb,8,none⟩)) rfl ?_
        refine Xr 6 rfl fun K hK=>?_;go_simp;refine hK _ _ ?_;clear hK K;refine Xv 7 (.agg #[.int .u64 tk.at_,.int .i64 2,.int .u64 (tk.n:Int)]) rfl ?_
       rotate_left
       focus
        go_simp;refine hK _ _ ?_;clear hK K;refine Xv 7 (.agg #[.int .u64 tk.at_,.int .i64 2,.int .u64 (tk.n:Int)]) rfl ?_
        refine Xr 0 rfl fun K hK=>?_;go_simp;refine hK _ _ ?_;clear hK K;refine Xv 1 (.pointer (some ⟨k.vb,0,none⟩)) rfl ?_
        refine Xv 2 (.pointer (some ⟨k.vb,8,none⟩)) rfl ?_
       rotate_left
      rotate_left 2
      focus
       go_simp;refine hK _ _ ?_;clear hK K;refine Xs 0 5 rfl rfl (fun K hK=>?_) fun K hK=>?_
       focus
        go_simp;refine hK _ _ ?_;clear hK K;refine Xv 1 (.pointer (some ⟨k.vb,0,none⟩)) rfl ?_
        refine Xv 2 (.pointer (some ⟨k.vb,8,none⟩)) rfl ?_
        refine Xr 5 rfl fun K hK=>?_;go_simp;refine hK _ _ ?_;clear hK K;refine Xv 7 (.agg #[.int .u64 tk.at_,.int .i64 2,.int .u64 (tk.n:Int)]) rfl ?_
       rotate_left
       focus
        go_simp;refine hK _ _ ?_;clear hK K;refine Xv 7 (.agg #[.int .u64 tk.at_,.int .i64 2,.int .u64 (tk.n:Int)]) rfl ?_
        refine Xr 0 rfl fun K hK=>?_;go_simp;refine hK _ _ ?_;clear hK K;refine Xv 1 (.pointer (some ⟨k.vb,0,none⟩)) rfl ?_
        refine Xv 2 (.pointer (some ⟨k.vb,8,none⟩)) rfl ?_
       rotate_left
      rotate_left 2
     rotate_left 6
     focus
      go_simp;refine hK _ _ ?_;clear hK K;refine Xr 2 rfl fun K hK=>?_;go_simp;refine hK _ _ ?_;clear hK K;refine Xv 7 (.bool true) rfl ?_
      refine wpAnyIn_done (by kernel_rfl) ?_ _
      gi_wp2_with fail
      refine wpIn_region_any (by kernel_rfl) (Xx ll (by kernel_rfl) _ _ _ _ ?_)
      change wpAnyIn _ _ _ _ _ _ _ _ _ (World.drew _)
      refine Xv 3 (.pointer (some ⟨Bt,0,none⟩)) rfl ?_
      refine Xv 4 (.pointer (some ⟨Bt,2,none⟩)) rfl ?_
      refine wpAnyIn_ready (rs:=[0,5,6]) (by kernel_rfl) (by simp) ?_;refine AllReadyIn.cons rfl (fun K hK=>?_) (AllReadyIn.cons rfl (fun K hK=>?_) (AllReadyIn.cons rfl (fun K hK=>?_) (AllReadyIn.nil)))
      focus
       go_simp;refine hK _ _ ?_;clear hK K;refine Xv 1 (.pointer (some ⟨k.vb,0,none⟩)) rfl ?_
       refine Xv 2 (.pointer (some ⟨k.vb,8,none⟩)) rfl ?_
       refine Xs 5 6 rfl rfl (fun K hK=>?_) fun K hK=>?_
       focus
        go_simp;refine hK _ _ ?_;clear hK K;refine Xr 6 rfl fun K hK=>?_;go_simp;refine hK _ _ ?_;clear hK K;refine Xv 7 (.agg #[.int .u64 tk.at_,.int .i64 2,.int .u64 (tk.n:Int)]) rfl ?_
       rotate_left
       focus
        go_simp;refine hK _ _ ?_;clear hK K;refine Xr 5 rfl fun K hK=>?_;go_simp;refine hK _ _ ?_;clear hK K;refine Xv 7 (.agg #[.int .u64 tk.at_,.int .i64 2,.int .u64 (tk.n:Int)]) rfl ?_
       rotate_left
      rotate_left 2
      focus
       go_simp;refine hK _ _ ?_;clear hK K;refine Xs 0 6 rfl rfl (fun K hK=>?_) fun K hK=>?_
       focus
        go_simp;refine hK _ _ ?_;clear hK K;refine Xv 1 (.pointer (some ⟨k.vb,0,none⟩)) rfl ?_
        refine Xv 2 (.pointer (some ⟨k.vb,8,none⟩)) rfl ?_
        refine Xr 6 rfl fun K hK=>?_;go_simp;refine hK _ _ ?_;clear hK K;refine Xv 7 (.agg #[.int .u64 tk.at_,.int .i64 2,.int .u64 (tk.n:Int)]) rfl ?_
       rotate_left
       focus
        go_simp;refine hK _ _ ?_;clear hK K;refine Xv 7 (.agg #[.int .u64 tk.at_,.int .i64 2,.int .u64 (tk.n:Int)]) rfl ?_
        refine Xr 0 rfl fun K hK=>?_;go_simp;refine hK _ _ ?_;clear hK K;refine Xv 1 (.pointer (some ⟨k.vb,0,none⟩)) rfl ?_
        refine Xv 2 (.pointer (some ⟨k.vb,8,none⟩)) rfl ?_
       rotate_left
      rotate_left 2
      focus
       go_simp;refine hK _ _ ?_;clear hK K;refine Xs 0 5 rfl rfl (fun K hK=>?_) fun K hK=>?_
       focus
        go_simp;refine hK _ _ ?_;clear hK K;refine Xv 1 (.pointer (some ⟨k.vb,0,none⟩)) rfl ?_
        refine Xv 2 (.pointer (some ⟨k.vb,8,none⟩)) rfl ?_
        refine Xr 5 rfl fun K hK=>?_;go_simp;refine hK _ _ ?_;clear hK K;refine Xv 7 (.agg #[.int .u64 tk.at_,.int .i64 2,.int .u64 (tk.n:Int)]) rfl ?_
       rotate_left
       focus
        go_simp;refine hK _ _ ?_;clear hK K;refine Xv 7 (.agg #[.int .u64 tk.at_,.int .i64 2,.int .u64 (tk.n:Int)]) rfl ?_
        refine Xr 0 rfl fun K hK=>?_;go_simp;refine hK _ _ ?_;clear hK K;refine Xv 1 (.pointer (some ⟨k.vb,0,none⟩)) rfl ?_
        refine Xv 2 (.pointer (some ⟨k.vb,8,none⟩)) rfl ?_
       rotate_left
      rotate_left 2
     rotate_left 6
    rotate_left 12
    all_goals
     refine Xr 8 rfl fun K hK=>?_;go_simp;refine(hcall _ _ (Xz.below ((Xz.refl V).drew).drew)).mono ?_;rintro e V3 ⟨rfl,k1,k2,k3,k4,k5⟩;refine hK _ _ ?_;clear hK K;refine wpAnyIn_done (by kernel_rfl) ?_ _
     gi_wp2
     exact⟨k1,k2,⟨k3,k4⟩,k5⟩
   have hbX:Below V.heap.size V V.drew:=(Below.refl _ V).drew;have k1:KeepsFrom V1.heap.size V V.drew:=Y4 _ hbX;have k2:KeepsT Xix V V.drew:=KeepsT.below hbX;have k3:=hJ2 _ (by rw [show Zi tm tk = [] from if_neg hat,List.append_nil];exact hJ1.below hbX);have k4:=bV.below hbX bV.lt;have k5:V.drew.heap[D1]? = some (.deferred (some [])):=hDX;clear hJ2 hJ1 hzl hokT hQ0 bB bM mT0 kT sT kL sL bM2 mL1 hB1 hQ2 hbx hD2 hB0 bT bX bV;simp only [Xd.key]
   gi_wp2_with fail
   refine wpIn_region_any (by kernel_rfl) (Xx ll (by kernel_rfl) _ _ _ _ ?_)
   change wpAnyIn _ _ _ _ _ _ _ _ _ (World.drew _)
   refine Xv 0 (.pointer (some ⟨Bt,0,none⟩)) rfl ?_
   refine Xv 1 (.pointer (some ⟨Bt,2,none⟩)) rfl ?_
   refine Xs 2 3 rfl rfl (fun K hK=>?_) fun K hK=>?_
   ·go_simp
    refine hK _ _ ?_;clear hK K;refine Xr 3 rfl fun K hK=>?_;go_simp;refine hK _ _ ?_;clear hK K;refine Xv 4 (.pointer (some ⟨k.vb,0,none⟩)) rfl ?_
    refine Xv 5 (.pointer (some ⟨k.vb,2,none⟩)) rfl ?_
    refine Xr 6 rfl fun K hK=>?_;go_simp;refine hK _ _ ?_;clear hK K;refine Xv 7 (.bool false) rfl ?_
    refine wpAnyIn_done (by kernel_rfl) ?_ _
    gi_wp2
    exact⟨k1,k2,⟨k3,k4⟩,k5⟩
   go_simp;refine hK _ _ ?_;clear hK K;refine Xv 4 (.pointer (some ⟨k.vb,0,none⟩)) rfl ?_
   refine Xv 5 (.pointer (some ⟨k.vb,2,none⟩)) rfl ?_
   refine Xs 2 6 rfl rfl (fun K hK=>?_) fun K hK=>?_
   ·go_simp
    refine hK _ _ ?_;clear hK K;refine Xr 6 rfl fun K hK=>?_;go_simp;refine hK _ _ ?_;clear hK K;refine Xv 7 (.bool false) rfl ?_
    refine wpAnyIn_done (by kernel_rfl) ?_ _
    gi_wp2
    exact⟨k1,k2,⟨k3,k4⟩,k5⟩
   go_simp;refine hK _ _ ?_;clear hK K;refine Xr 2 rfl fun K hK=>?_;go_simp;refine hK _ _ ?_;clear hK K;refine Xv 7 (.bool false) rfl ?_
   refine wpAnyIn_done (by kernel_rfl) ?_ _
   gi_wp2
   exact⟨k1,k2,⟨k3,k4⟩,k5⟩
  case done2 =>
   rintro D2 ys X hD2' hys ⟨⟨hI,bX⟩,hDX⟩ hK
   have hys':(ys.flatMap fun x=>Zi tm (Xy x))=s.lks.flatMap (Zi tm):=by
    rw [hys]
    conv=>rhs;rw [<- Uf hokT.incL]
    rw [List.flatMap_map]
   rw [hys'] at hI
   gi_wp2
   have hKd:(X.putObj D2 (.deferred none)).heap[D1]? = some (.deferred (some [])):=(World.putObj_heap_other (by omega)).trans hDX;refine⟨by simp,.inl ⟨_,_,rfl,run_takeDeferred hK,⟨by simp,.inl ⟨_,_,rfl,run_takeDeferred hKd,?_⟩⟩⟩⟩;have j1:=hI.own hw (grownBy_putObj' X D2 (.deferred none)) (fun r e=>by cases e;exact⟨by omega,_,hK,rfl⟩);have j2:=j1.own hw (grownBy_putObj' _ D1 (.deferred none)) (fun r e=>by cases e;exact⟨by omega,_,hKd,rfl⟩);exact⟨_,results_none rfl _ _ _,rfl,j2⟩
  case stop2 =>
   rintro D c pre X _ _ h _;exact h.elim
 case stop =>
  rintro D c pre V _ _ h _;exact h.elim
end Go.Proofs
