import Derived.Test.YtjbekgjdempbiaaGreatDoorJAll
import Derived.Test.YtjbekgjdempbiaaGreatDoorJRefC
import Derived.Test.YtjbekgjdempbiaaGreatDoorJRecC
set_option maxRecDepth 100000
set_option maxHeartbeats 8000000
namespace Go.Proofs
open Go.RowKit Go.Sort Go.Lib Go.Shelf Go.Maps
attribute [local go_sem] Oper.semAt_some
def Ul (xs:List InfoD):List Value:=xs.flatMap fun x=>x.cells.toList
theorem Xfj (xs:List InfoD) (x:InfoD):Ul (xs ++ [x])=Ul xs++x.cells.toList:=by simp [Ul]
theorem Tryz.Xkn:(prog.info? 49).map (fun i=>(i.zero,i.size,i.bytes))=some (some (.agg #[.string ⟨#[]⟩,.int .i64 0,.int .u64 0,.int .i64 0,.string ⟨#[]⟩,.string ⟨#[]⟩]),6,72):=by kernel_rfl
def Tryz.Xl9 (t:TypeId):Bool:=t==45||t==49
theorem Tryz.Xtn:Good Xl9:=⟨by decide,by decide,by decide,by decide,by decide,by decide,by decide,by decide⟩
def Tryz.Xm2 (t:TypeId):Bool:=t==31
theorem Tryz.Xp7:Good Xm2:=⟨by decide,by decide,by decide,by decide,by decide,by decide,by decide,by decide⟩
structure Tryz.Xq (W:World) (vb mt ml:Nat) (vx:VX) (tm tn ln:Int) (tks:List Xd) (lks:List Xc):Prop where
 v:BoxN W vb 126 (Tryz.Y8 vx tm mt ml tn ln)
 held:Tryz.Mm W mt ml tks lks
 ok:Xx tks lks
 env:Tryz.Env W
 six:6<=W.heap.size
theorem Tryz.Xq.below {W W':World} {vb mt ml:Nat} {vx:VX} {tm tn ln:Int} {tks:List Xd} {lks:List Xc} (h:Xq W vb mt ml vx tm tn ln tks lks) (hb:Below W.heap.size W W'):Xq W' vb mt ml vx tm tn ln tks lks:=
 ⟨h.v.below hb h.v.lt,h.held.keeps (KeepsT.below (bad:=fun _=>false) hb),h.ok,h.env.below hb h.six,Nat.le_trans h.six hb.size⟩
theorem InfoD.cells_size (x:InfoD):x.cells.toList.length=6:=rfl
theorem Xbr (w:World) (a b c d e f:Value) (t:TypeId):∀ j u,[a,b,c,d,e,f][j]? = some u->(w.alloc (.cells #[a,b,c,d,e,f] t)).cell? ((⟨w.heap.size,0,none⟩:Addr).add j)=some u:=by
 intro j u hj
 match j,hj with
 | 0,hj=>simp at hj;subst hj;simp [Addr.add]
 | 1,hj=>simp at hj;subst hj;simp [Addr.add]
 | 2,hj=>simp at hj;subst hj;simp [Addr.add]
 | 3,hj=>simp at hj;subst hj;simp [Addr.add]
 | 4,hj=>simp at hj;subst hj;simp [Addr.add]
 | 5,hj=>simp at hj;subst hj;simp [Addr.add]
 | (k+6),hj=>simp at hj
theorem BoxN.not_row {W:World} {B:Nat} {t e:TypeId} {cs:Array Value} {n₀ size k:Nat} {v:Value} {xs:List Value} (h:BoxN W B t cs) (hte:t≠e) (hrow:W.ownsRow n₀ e size v k xs):some B≠v.ownBlock:=by
 rcases hrow.2 with⟨rfl,_⟩ | ⟨g,cap,cur,rfl,_,hgb,_⟩
 ·simp [Value.ownBlock]
 intro e'
 have:B=g:=by simpa [Value.ownBlock] using e'
 subst this;rw [show W.heap[B]? = _ from h] at hgb;simp only [Option.some.injEq,Obj.cells.injEq] at hgb;exact hte hgb.2.1
theorem KeepsT.Xpg {bad:TypeId->Bool} {W W':World} {n₀ size k:Nat} {e:TypeId} {v:Value} {xs:List Value} (hrow:W.ownsRow n₀ e size v k xs) (he:bad e=true) (hg:W.grownBy W' v.ownBlock):KeepsT bad W W':=
 KeepsT.grown hg (fun j ej o ho=>by
  rcases hrow.2 with⟨rfl,_⟩ | ⟨g,cap,cur,rfl,_,hgb,_⟩
  ·simp [Value.ownBlock] at ej
  obtain rfl:g=j:=by simpa [Value.ownBlock] using ej
  rw [hgb] at ho;cases ho
  simp [Xdh,he])
theorem KeepsT.Xhf {bad:TypeId->Bool} {W:World} {B:Nat} {t:TypeId} {v:Value} (hb:Boxed W B t v) (ht:bad t=true) (v':Value):KeepsT bad W (W.setCell ⟨B,0,none⟩ v'):=
 KeepsT.grown (grownBy_setCell' W B v') (fun j ej o ho=>by
  cases ej;rw [show W.heap[B]? = _ from hb] at ho;cases ho
  simp [Xdh,ht])
theorem Tryz.hAll0 (hb vb mt ml:Nat) (vx:VX) (tm tn ln:Int) (tks:List Xd) (lks:List Xc) (w:World) (dv rv:Value) (hH:BoxN w hb 78 #[dv,rv,.pointer (some ⟨vb,0,none⟩)]) (hV:Xq w vb mt ml vx tm tn ln tks lks) :
  CallsIn Fence.wide 9 prog 24 #[.pointer (some ⟨hb,0,none⟩),.int .i64 0] w fun e w'=>∃ v:Value,e=.returned (.tuple #[v,.bool true])/\w'.ownsRow w.heap.size 49 6 v (infosOf tm tks lks).length (Ul (infosOf tm tks lks))/\Below w.heap.size w w':=by
 obtain⟨i0,hi,hz0,hz1,hz2⟩:=info_parts Xkn;have hfa:Fence.wide.fn 48:=trivial;have c2:=hH.cell 2 (v:=.pointer (some ⟨vb,0,none⟩)) rfl;have lH:=hH.lt
 have hnf:∀(p:Addr) (W:World),Sem.run prog (binOp .eql 90 (.func (.func 78) #[] #[.pointer (some p)]) .nilFunc) W=.ok (.bool false) W:=fun _ _=>by kernel_rfl
 refine callsIn_of_wp_marks func24 rfl trivial ?_ rfl;simp only [ntmps24,List.size_toArray,List.length_cons,List.length_nil,Nat.reduceAdd,Nat.reduceSub,Array.replicate_succ,Array.replicate_zero,List.push_toArray,List.append_toArray,List.nil_append,List.cons_append]
 gi_wp2_with (gi_at_call 48;refine(callsIn_wide.2 (vAll vb _)).mono ?_;rintro e w' ⟨rfl,rfl⟩)
 clear hnf c2;have bZ:=((BoxN.new w 3 #[.int .i64 0]).alloc (.cells #[.pointer (some ⟨vb,0,none⟩)] 76)).alloc (.cells #[.slice none 0 0] 45);have bV:=(BoxN.new (w.alloc (.cells #[.int .i64 0] 3)) 76 #[.pointer (some ⟨vb,0,none⟩)]).alloc (.cells #[.slice none 0 0] 45);have bL:=Boxed.new ((w.alloc (.cells #[.int .i64 0] 3)).alloc (.cells #[.pointer (some ⟨vb,0,none⟩)] 76)) 45 (.slice none 0 0);have hB0:Below w.heap.size w (((w.alloc (.cells #[.int .i64 0] 3)).alloc (.cells #[.pointer (some ⟨vb,0,none⟩)] 76)).alloc (.cells #[.slice none 0 0] 45)):=(((Below.refl _ w).alloc (Nat.le_refl _) _).alloc (by simp) _).alloc (by simp;omega) _
 have hsz:(((w.alloc (.cells #[.int .i64 0] 3)).alloc (.cells #[.pointer (some ⟨vb,0,none⟩)] 76)).alloc (.cells #[.slice none 0 0] 45)).heap.size=w.heap.size+3:=by simp
 simp only [World.size_alloc] at bV bL;have hV0:=hV.below hB0
 obtain⟨W0,hW0⟩:∃ W0,((w.alloc (.cells #[.int .i64 0] 3)).alloc (.cells #[.pointer (some ⟨vb,0,none⟩)] 76)).alloc (.cells #[.slice none 0 0] 45)=W0:=⟨_,rfl⟩
 rw [hW0] at bZ bV bL hB0 hsz hV0 ⊢;clear hW0
 have hlen:(infosOf tm tks lks).length<=1000:=by have:=hV.ok.lenT;have:=hV.ok.lenL;simp [infosOf];omega
 refine Ve (n:=9) (by omega) (gf:=78) (lb:=#[.pointer (some ⟨w.heap.size+1,0,none⟩)]) rfl Xja
  (Xix 8 (by omega) Xl9 Xtn (w.heap.size+1) vb mt ml vx tm tn ln tks lks hV.ok W0 bV hV0.v hV0.held) Js Jo (Below.refl _ _) (fun _=>rfl)
  (fun pre V=>((∃ v,Boxed V (w.heap.size+1+1) 45 v/\V.ownsRow w.heap.size 49 6 v pre.length (Ul pre)/\(v=.slice none 0 0↔pre = []))/\BoxN V w.heap.size 3 #[.int .i64 0])/\Below w.heap.size w V)
  (fun _ _ _=>False)
  (OwnFrom.and (OwnFrom.and (Own.from (holdsRow_own _ _ _ _ _ (fun pre:List InfoD=>pre.length) (fun pre=>Ul pre) (fun pre v=>(v=.slice none 0 0↔pre = []))) _) (Own.from (Xy _ _ (fun _=>#[.int .i64 0])) _)) (ownFrom_below (Nat.le_refl _) (by omega)))
  (fun _ _ _ _ _ hs _ _=>hs)
  (fun s V hs=>⟨hV.env.below hs.2 hV.six,Nat.le_trans hV.six hs.2.size⟩)
  ⟨⟨⟨_,bL,World.ownsRow_nil _ _ _ _,by simp⟩,bZ⟩,hB0⟩
  (fun x a' V=>∃ Bx,w.heap.size+1+1<Bx/\BoxN V Bx 49 x.cells/\a' = { tmps:=#[.pointer (some ⟨hb,0,none⟩),.int .i64 0,undef,.pointer (some ⟨w.heap.size,0,none⟩),.slice none 0 0,.bool false,.func (.func 78) #[] #[.pointer (some ⟨w.heap.size+1,0,none⟩)],.pointer (some ⟨w.heap.size+1+1,0,none⟩),.pointer (some ⟨Bx,0,none⟩),.pointer (some ⟨hb,0,none⟩),.pointer (some ⟨hb,0,none⟩),.pointer (some ⟨hb,2,none⟩),.pointer (some ⟨vb,0,none⟩),.bool false,.pointer (some ⟨hb,0,none⟩),.pointer (some ⟨hb,0,none⟩),.pointer (some ⟨hb,2,none⟩),.pointer (some ⟨vb,0,none⟩),.func (.func 78) #[] #[.pointer (some ⟨w.heap.size+1,0,none⟩)],.func (.func 78) #[] #[.pointer (some ⟨w.heap.size+1,0,none⟩)],.bool false,.func (.func 78) #[] #[.pointer (some ⟨w.heap.size+1,0,none⟩)],.agg x.cells,undef,undef,undef,undef,undef,undef,undef,undef,undef],defers:=[] })
  (fun x a' _ X Y row hs hg hr=>by obtain⟨Bx,h1,h2,h3⟩:=hs;exact⟨Bx,h1,Xy Bx 49 (fun(_:Unit)=>x.cells) () X Y row h2 hg (fun r e=>(hr r e).2),h3⟩)
  ?assign ?body ?done ?stop
 case assign =>
  rintro l pre x V K ⟨⟨⟨v,b1,hr1,hnil⟩,bz⟩,hB1⟩ hK;obtain⟨id,st,at_,tr,tok,pth⟩:=x;simp only [InfoD.cells,Ya]
  gi_wp2
  exact hK _ _ ((KeepsOthers.alloc _ _).from _) (KeepsT.alloc _ _) ⟨⟨⟨v,b1.alloc _,hr1.alloc _,hnil⟩,bz.alloc _⟩,hB1.alloc hB1.size _⟩ ⟨V.heap.size,b1.lt,BoxN.new V 49 _,rfl⟩
 case body =>
  rintro l pre x a' V hl ⟨⟨⟨v,b1,hr1,hnil⟩,bz⟩,hB1⟩ ⟨Bx,hBx,bX,rfl⟩ hlt;have hfl:=Xfj pre x;obtain⟨id,st,at_,tr,tok,pth⟩:=x;simp only [InfoD.cells,Ya] at bX hfl ⊢;have HF:=Xb hfl;clear hfl;have cS:=b1.cell;have cz:=bz.cell 0 (v:=.int .i64 0) rfl
  have hne0:(((pre.length:Int)+1)==0)=false:=by rw [beq_eq_false_iff_ne];omega
  have x0:=bX.cell 0 (v:=.string ⟨id.toArray⟩) rfl;have x1:=bX.cell 1 (v:=.int .i64 st) rfl;have x2:=bX.cell 2 (v:=.int .u64 at_) rfl;have x3:=bX.cell 3 (v:=.int .i64 tr) rfl;have x4:=bX.cell 4 (v:=.string ⟨tok.toArray⟩) rfl;have x5:=bX.cell 5 (v:=.string ⟨pth.toArray⟩) rfl;have bz0:=bz.alloc (.cells #[.string ⟨id.toArray⟩,.int .i64 st,.int .u64 at_,.int .i64 tr,.string ⟨tok.toArray⟩,.string ⟨pth.toArray⟩] 49);have hnr:Hid (some w.heap.size≠v.ownBlock):=bz0.not_row (e:=49) (by decide) (hr1.alloc _)
  gi_wp2_with (gi_at_builtin;refine wpListIn_append_own _ rfl _ _ 45 rfl w.heap.size 49 i0 _ 6 72 underlying45 hi hz0 hz1 hz2 rfl (by decide) _ _ _ rfl (hr1.alloc _) ⟨V.heap.size,0,none⟩ 1 1 [.string ⟨id.toArray⟩,.int .i64 st,.int .u64 at_,.int .i64 tr,.string ⟨tok.toArray⟩,.string ⟨pth.toArray⟩] rfl rfl (Xbr _ _ _ _ _ _ _ _) (by simp [Value.oneCell']) (by unfold maxLen;omega) (by omega) (by have:=hB1.size;simp;omega) ?_;intro v' w1 hown' hgrow hn';obtain⟨g',cap',rfl⟩:=ownsRow_succ hown';obtain⟨hv1,hv2,hr2,hk2,hb2⟩:=b1.appended (by decide) hr1 hB1.size (by omega) hown' hgrow;have hc1:=hv1.cell;have hf1:=hv1.frozen;have bz1:=bz0.kept hgrow hnr;have cz1:=bz1.cell 0 (v:=.int .i64 0) rfl)
  have hkT:=((KeepsT.alloc (bad:=Xl9) V (.cells #[.string ⟨id.toArray⟩,.int .i64 st,.int .u64 at_,.int .i64 tr,.string ⟨tok.toArray⟩,.string ⟨pth.toArray⟩] 49)).trans (KeepsT.Xpg (hr1.alloc _) (by decide) hgrow)).trans (KeepsT.Xhf hv1 (by decide) (.slice (some ⟨g',0,none⟩) (pre.length+1) cap'));exact⟨hk2.from _,hkT,⟨⟨_,hv2,by rw [show Ul _=_ from Xa HF,List.length_append];exact hr2,by simp⟩,bz1.other (by omega) _ _⟩,hB1.trans hb2⟩
 case done =>
  rintro D zs V hD rfl ⟨⟨⟨v,b1,hr1,hnil⟩,bz⟩,hB1⟩ hK;have cS:=b1.cell
  gi_wp2
  refine⟨by simp,.inl ⟨_,_,rfl,run_takeDeferred hK,?_⟩⟩;exact⟨_,by simp [results,results24,go_sem],v,rfl,ownsRow_putObj hr1 _ hK rfl,hB1.trans (belowK_b (w:=w) (Nat.le_refl _) V D _ _ (by omega) hK rfl rfl)⟩
 case stop =>
  rintro D c pre V _ _ h _;exact h.elim
end Go.Proofs
namespace Go.Proofs
open Go.RowKit Go.Sort Go.Lib Go.Shelf
def Jk (tm:Int) (b:Bool) (L:List ThingD):List InfoD:=(L.filter (fun t=>t.token==b)).map (ThingD.info tm)
theorem Xly (tm:Int) (b:Bool) (L:List ThingD) (t:ThingD):Jk tm b (L ++ [t])=Jk tm b L++(if t.token==b then [t.info tm] else []):=by
 unfold Jk
 by_cases h:(t.token==b)=true <;> simp [h]
theorem Xca (tm:Int) (b:Bool) (L:List ThingD):(Jk tm b L).length<=L.length:=by
 unfold Jk;rw [List.length_map];exact List.length_filter_le _ _
def Xc9 (tm:Int) (L:List ThingD):List InfoD:=Jk tm true L++Jk tm false L
def Xce (tm:Int) (L:List ThingD) (k:Nat):List InfoD:=match k with | 0=>[] | 1=>Jk tm true L | _=>Xc9 tm L
theorem ownsRow_below {W W':World} {base size n:Nat} {e:TypeId} {v:Value} {xs:List Value} (h:W.ownsRow base e size v n xs) (hb:Below W.heap.size W W'):W'.ownsRow base e size v n xs:=
 h.kept (row:=none) ⟨hb.os,hb.tape,hb.output,hb.size,fun k hk _=>hb.block k hk⟩ (by by_cases h:v.ownBlock=none;exact .inl h;exact .inr h)
theorem Tryz.Xu0 (B:Nat) (vb g cap:Nat) (L:List ThingD) (tm tn ln:Int) (w:World) (h:Xk B w vb g cap L tm tn ln) :
  Calls prog 57 #[.pointer (some ⟨vb,0,none⟩)] w fun e w'=>∃ v:Value,e=.returned v/\w'.ownsRow w.heap.size 49 6 v (Xc9 tm L).length (Ul (Xc9 tm L))/\Below w.heap.size w w':=by
 obtain⟨i0,hi,hz0,hz1,hz2⟩:=info_parts Xkn;have hlim:=h.lim
 obtain⟨len,hlen⟩:∃ len,L.length=len:=⟨_,rfl⟩
 rw [hlen] at hlim;have Hlen:=Xb hlen;clear hlen;go_enter func57,ntmps57;go_wp2
 go_loopw [3,4] (fun v j wr=>∃ k:Nat,k<=2/\j=.int .i64 k/\wr.ownsRow w.heap.size 49 6 v (Xce tm L k).length (Ul (Xce tm L k))/\Below w.heap.size w wr) (fun _ j _=>2-(intOf j).toNat)
 case atStart=>exact⟨0,by omega,rfl,World.ownsRow_nil _ _ _ _,Below.refl _ _⟩
 case round =>
  obtain⟨k,hk,rfl,hrow,hB⟩:=hrel
  by_cases hk2:k<2
  ·obtain⟨pre,hpre⟩:∃ pre,Xce tm L k=pre:=⟨_,rfl⟩
   obtain⟨b,hb⟩:∃ b:Bool,((k:Int)==0)=b:=⟨_,rfl⟩
   have hfin:Hid (Xce tm L (k+1)=pre++Jk tm b L):=Xb (by
    match k,hk2 with
    | 0,_=>simp [Xce] at hpre hb ⊢;simp [hpre,hb.symm]
    | 1,_=>simp [Xce,Xc9] at hpre hb ⊢;simp [<- hpre,<- hb])
   have hpl:pre.length<=100:=by
    rw [<- hpre]
    match k,hk2 with
    | 0,_=>simp [Xce]
    | 1,_=>simp only [Xce];have:=Xca tm true L;have:=Xa Hlen;omega
   rw [hpre] at hrow;clear hpre;go_wp2;rw [show decide ((k:Int)<2)=true by simp;omega]
   go_loopw [3,5] (fun v j wq=>∃ i:Nat,i<=len/\j=.int .i64 i/\wq.ownsRow w.heap.size 49 6 v (pre++Jk tm b (L.take i)).length (Ul (pre++Jk tm b (L.take i)))/\Below w.heap.size w wq) (fun _ j _=>len-(intOf j).toNat)
   case atStart=>exact⟨0,Nat.zero_le _,rfl,by simpa [Jk] using hrow,hB⟩
   case round =>
    clear hrow hB;obtain⟨i,hil,rfl,hrow,hB⟩:=hrel;have h':=h.below hB;have c0:=h'.v.cell 0 (v:=.slice (some ⟨g,0,none⟩) L.length cap) rfl;rw [Xa Hlen] at c0
    by_cases hin:i<len
    ·obtain⟨t,ht⟩:∃ t,L[i]? = some t:=⟨L[i]'(by have:=Xa Hlen;omega),by simp [Xa Hlen,hin]⟩
     obtain⟨x0,x1,x2,x3,x4,x5,x6,x7⟩:=h'.cells ht;have htk:=Xb (Zu ht);have hsn:=Xb (Xly tm b (L.take i) t);have hI:=rInfo t vb tm wr (h'.v.cell 1 (v:=.int .u64 tm) rfl) (h.num t (List.mem_of_getElem? ht)) (h.ofs t (List.mem_of_getElem? ht))
     have hpl2:(pre++Jk tm b (L.take i)).length<=200:=by
      have:=Xca tm b (L.take i);simp only [List.length_append];simp at this ⊢;omega
     simp only [ThingD.cells] at hI;generalize t.info tm=x at *;obtain⟨id,st,at_,tr,tok,pth⟩:=x;simp only [InfoD.cells,Ya] at hI
     obtain⟨acc,hacc⟩:∃ acc,pre++Jk tm b (L.take i)=acc:=⟨_,rfl⟩
     rw [hacc] at hrow hpl2;have Hacc:=Xb hacc;clear hacc;have hwl:=hB.size
     by_cases htb:(t.token==b)=true
     ·have htb':t.token=b:=by simpa using htb
      have hsn':=Xb (show Jk tm b (L.take i ++ [t])=Jk tm b (L.take i) ++ [⟨id,st,at_,tr,tok,pth⟩] by rw [Xa hsn,if_pos htb]);have hfs:=Xb (Xfj acc ⟨id,st,at_,tr,tok,pth⟩);clear hsn htb;rw [htb'] at x0 hI
      go_wp2_with (first
       | (go_at_call 101;refine hI.mono ?_;rintro e w1 ⟨rfl,hb1⟩;have hrow1:=ownsRow_below hrow hb1;have hwl1:=hb1.size)
       | (at_builtin;refine wpList_append_own _ rfl _ _ 45 rfl w.heap.size 49 i0 _ 6 72 underlying45 hi hz0 hz1 hz2 rfl (by decide) _ _ _ rfl ((hrow1.alloc _).alloc _) ⟨w1.heap.size+1,0,none⟩ 1 1 [.string ⟨id.toArray⟩,.int .i64 st,.int .u64 at_,.int .i64 tr,.string ⟨tok.toArray⟩,.string ⟨pth.toArray⟩] rfl rfl (by have:=Xbr (w1.alloc (.cells #[.string ⟨id.toArray⟩,.int .i64 st,.int .u64 at_,.int .i64 tr,.string ⟨tok.toArray⟩,.string ⟨pth.toArray⟩] 49)) (.string ⟨id.toArray⟩) (.int .i64 st) (.int .u64 at_) (.int .i64 tr) (.string ⟨tok.toArray⟩) (.string ⟨pth.toArray⟩) 49;rwa [World.size_alloc] at this) (by simp [Value.oneCell']) (by unfold maxLen;omega) (by omega) (by simp;omega) ?_))
      intro v' w2 hown' hgrow hn';clear hn'
      have hbk:∀ q,u3.ownBlock=some q->w.heap.size<=q:=fun q hq=>(hrow.lt q hq).1
      have hB2:Below w.heap.size w w2:=(((hB.trans (hb1.mono hwl)).alloc (by omega) _).alloc (by simp;omega) _).grown hgrow (by simp;omega) hbk;have e:Hid (pre++Jk tm b (L.take (i+1))=acc ++ [⟨id,st,at_,tr,tok,pth⟩]):=Xb (by rw [Xa htk,Xa hsn',<- List.append_assoc,Xa Hacc]);clear hgrow hrow1 hrow hB hb1 x0 x1 x2 x3 x4 x5 x6 x7 hI c0;go_wp2
      go_roundw
      case rel=>exact⟨i+1,by omega,rfl,by rw [Xa e,List.length_append,Xa hfs];exact hown',hB2⟩
      case measure=>simp [intOf];omega
     have hne:(t.token==b)=false:=by simpa using htb
     have e:Hid (pre++Jk tm b (L.take (i+1))=acc):=Xb (by rw [Xa htk,Xa hsn,if_neg htb,List.append_nil,Xa Hacc]);clear hsn htb hI;go_wp2
     go_roundw
     case rel=>exact⟨i+1,by omega,rfl,by rw [Xa e];exact hrow,hB⟩
     case measure=>simp [intOf];omega
    obtain rfl:i=len:=by omega
    have e:Hid (pre++Jk tm b (L.take i)=Xce tm L (k+1)):=Xb (by rw [J7 (Nat.le_of_eq (Xa Hlen)),Xa hfin]);rw [Xa e] at hrow;go_wp2
    go_roundw
    case rel=>exact⟨k+1,by omega,rfl,hrow,hB⟩
    case measure=>simp [intOf];omega
  obtain rfl:k=2:=by omega
  go_wp2;go_ret;exact⟨_,rfl,hrow,hB⟩
theorem Tryz.Xan:(prog.info? 105).map (fun i=>(i.zero,i.size,i.bytes))=some (some (.agg #[.bool false,.int .i64 0,.int .i64 0,.string ⟨#[]⟩,.int .u64 0,.int .u64 0,.bool false,.int .i64 0]),8,72):=by kernel_rfl
def Xge:ThingD:=⟨true,0,-1,[],18446744073709551615,0,false,0⟩
theorem Xam (L:List ThingD):∀ u∈X9 L,u.oneCell'=true:=by
 intro u hu;obtain⟨x,_,hx⟩:=List.mem_flatMap.1 hu;simp only [ThingD.cells,List.mem_cons,List.not_mem_nil,or_false] at hx
 rcases hx with rfl | rfl | rfl | rfl | rfl | rfl | rfl | rfl <;> rfl
theorem Xib {W:World} {b b' size n:Nat} {e:TypeId} {v:Value} {xs:List Value} (h:W.ownsRow b e size v n xs) (hb:b'<=b):W.ownsRow b' e size v n xs:=by
 obtain⟨h1,h2 | ⟨g,cap,cur,e1,e2,e3⟩⟩:=h
 ·exact⟨h1,.inl h2⟩
 exact⟨h1,.inr ⟨g,cap,cur,e1,Nat.le_trans hb e2,e3⟩⟩
theorem Tryz.rNew (now:Int) (w:World) :
  Calls prog 37 #[.int .u64 now] w fun e w'=>e=.returned (.pointer (some ⟨w.heap.size+1,0,none⟩))/\Xk w.heap.size w' (w.heap.size+1) w.heap.size 1 [Xge] now 1 1/\Below w.heap.size w w':=by
 go_enter func37,ntmps37;go_wp2;go_ret;refine⟨rfl,⟨?_,?_,?_,?_,?_⟩,?_⟩
 ·have:=BoxN.new (w.alloc (.cells Xge.cells 105)) 108 #[.slice (some ⟨w.heap.size,0,none⟩) 1 1,.int .u64 now,.int .i64 1,.int .i64 1]
  rw [World.size_alloc] at this;exact this
 ·refine⟨rfl,.inr ⟨w.heap.size,1,Xge.cells,rfl,Nat.le_refl _,?_,Nat.le_refl _,by unfold maxLen;omega,rfl,rfl⟩⟩
  exact(BoxN.new w 105 Xge.cells).alloc _
 ·show 1<=100;omega
 ·intro t ht;rw [List.mem_singleton.1 ht];show 0<9223372036854775808;omega
 ·intro t ht;rw [List.mem_singleton.1 ht];exact .inl rfl
 exact((Below.refl _ w).alloc (Nat.le_refl _) _).alloc (by simp) _
theorem Tryz.Xgf (B:Nat) (vb g cap:Nat) (L:List ThingD) (tm tn ln:Int) (w:World) (h:Xk B w vb g cap L tm tn ln) (hpos:0<L.length) :
  Calls prog 106 #[.pointer (some ⟨vb,0,none⟩)] w fun e w'=>∃ g' cap',e=.returned (.pointer (some ⟨w.heap.size,0,none⟩))/\Xk w.heap.size w' w.heap.size g' cap' L tm tn ln/\Below w.heap.size w w':=by
 obtain⟨i0,hi,hz0,hz1,hz2⟩:=info_parts Xan;have c0:=h.v.cell 0 (v:=.slice (some ⟨g,0,none⟩) L.length cap) rfl;have c1:=h.v.cell 1 (v:=.int .u64 tm) rfl;have c2:=h.v.cell 2 (v:=.int .i64 tn) rfl;have c3:=h.v.cell 3 (v:=.int .i64 ln) rfl;have lv:=h.v.lt;have lg:=h.glt;have hlim:=h.lim;go_enter func106,ntmps106
 go_wp2_with (at_builtin;refine wpList_append_own _ rfl _ _ 106 rfl (w.heap.size+1) 105 i0 _ 8 72 underlying106 hi hz0 hz1 hz2 rfl (by decide) _ _ _ rfl (World.ownsRow_nil _ _ _ _) ⟨g,0,none⟩ L.length cap (X9 L) rfl ?c0 ?c1 ?c2 ?c3 ?c4 ?c5 ?_)
 case c0=>exact Z4 L
 case c1 =>
  intro j u hj;have:=(h.row.alloc (.cells #[.slice (some ⟨g,0,none⟩) L.length cap,.int .u64 tm,.int .i64 tn,.int .i64 ln] 108)).cells (g:=g) rfl j u hj;exact this
 case c2=>exact Xam L
 case c3=>unfold maxLen;omega
 case c4=>omega
 case c5=>simp
 intro v' w2 hown hgrow hn
 have hne:v' ≠ .slice none 0 0:=fun e=>by have:=hn.1 e;rw [this] at hpos;exact absurd hpos (by simp)
 clear hn;obtain⟨hl,⟨e1,e2⟩ | ⟨g',cap',cur,rfl,e2,e3⟩⟩:=hown
 ·exact absurd e1 hne
 have hown:w2.ownsRow (w.heap.size+1) 105 8 (.slice (some ⟨g',0,none⟩) L.length cap') L.length (X9 L):=⟨hl,.inr ⟨g',cap',cur,rfl,e2,e3⟩⟩
 have bV:=(BoxN.new w 108 #[.slice (some ⟨g,0,none⟩) L.length cap,.int .u64 tm,.int .i64 tn,.int .i64 ln]).kept hgrow (by simp [Value.ownBlock]);have d0:=bV.cell 0 (v:=.slice (some ⟨g,0,none⟩) L.length cap) rfl;have f0:=bV.frozen 0;have hB2:Below w.heap.size w w2:=((Below.refl _ w).alloc (Nat.le_refl _) _).grown hgrow (by simp) (by intro k hk;simp [Value.ownBlock] at hk);have hF:Hid (Xk w.heap.size (w2.setCell ⟨w.heap.size,0,none⟩ (.slice (some ⟨g',0,none⟩) L.length cap')) w.heap.size g' cap' L tm tn ln/\Below w.heap.size w (w2.setCell ⟨w.heap.size,0,none⟩ (.slice (some ⟨g',0,none⟩) L.length cap'))):=Xb ⟨⟨bV.set 0 _,Xib (hown.kept (grownBy_setCell' w2 w.heap.size _) (.inr (by simp [Value.ownBlock];omega))) (by omega),h.lim,h.num,h.ofs⟩,hB2.setCell (p:=⟨w.heap.size,0,none⟩) (Nat.le_refl _) _⟩;clear hown e2 e3 hgrow hB2 hl hne bV c0 c1 c2 c3;go_wp2;go_ret;exact⟨g',cap',rfl,Xa hF⟩
theorem Zt (tm:Int) (id:List UInt8) (tk:Bool) (L:List ThingD):(∃(i:Nat) (t:ThingD),L[i]? = some t/\t.id=id/\t.token=tk/\t.state tm=1/\liveI tm id tk L=i)\/liveI tm id tk L = -1:=by
 cases he:L.findIdx? (fun t=>t.id==id) with
 | none=>exact .inr (by rw [liveI,he])
 | some i =>
  obtain⟨hlt,hid,-⟩:=List.findIdx?_eq_some_iff_getElem.1 he
  have hg:L[i]? = some L[i]:=by simp [hlt]
  by_cases hc:(L[i].token==tk&&L[i].state tm==1)=true
  ·refine .inl ⟨i,L[i],hg,by simpa using hid,?_,?_,?_⟩
   ·simp at hc;exact hc.1
   ·simp at hc;exact hc.2
   simp only [liveI,he,hg,hc,if_true]
  exact .inr (by simp only [liveI,he,hg,hc];rfl)
def authI (tm:Int) (id pth:List UInt8) (L:List ThingD):Bool:=match L.findIdx? (fun t=>t.id==id) with
 | some i=>match L[i]? with
  | some t=>(t.token==false&&t.state tm==1)&&t.pth==pth
  | none=>false
 | none=>false
theorem Xgi {tm:Int} {id pth:List UInt8} {L:List ThingD} {i:Nat} {t:ThingD} (ht:L[i]? = some t) (hl:liveI tm id false L=i):authI tm id pth L=(t.pth==pth):=by
 unfold liveI at hl
 cases he:L.findIdx? (fun t=>t.id==id) with
 | none=>rw [he] at hl;simp at hl
 | some j =>
  rw [he] at hl;obtain⟨hlt,-⟩:=List.findIdx?_eq_some_iff_getElem.1 he
  have hg:L[j]? = some L[j]:=by simp [hlt]
  simp only [hg] at hl
  by_cases hc:(L[j].token==false&&L[j].state tm==1)=true
  ·rw [if_pos hc] at hl
   obtain rfl:j=i:=by omega
   rw [hg] at ht;cases ht;simp only [authI,he,hg,hc,Bool.true_and]
  rw [if_neg hc] at hl;omega
theorem Xfg {tm:Int} {id pth:List UInt8} {L:List ThingD} (hl:liveI tm id false L = -1):authI tm id pth L=false:=by
 unfold liveI at hl
 cases he:L.findIdx? (fun t=>t.id==id) with
 | none=>simp only [authI,he]
 | some j =>
  rw [he] at hl;obtain⟨hlt,-⟩:=List.findIdx?_eq_some_iff_getElem.1 he
  have hg:L[j]? = some L[j]:=by simp [hlt]
  simp only [hg] at hl
  by_cases hc:(L[j].token==false&&L[j].state tm==1)=true
  ·rw [if_pos hc] at hl;omega
  have hc':(L[j].token==false&&L[j].state tm==1)=false:=by simpa using hc
  simp only [authI,he,hg,hc',Bool.false_and]
theorem Tryz.rAuth (B:Nat) (vb g cap:Nat) (L:List ThingD) (tm tn ln:Int) (id pth:List UInt8) (w:World) (h:Xk B w vb g cap L tm tn ln) :
  Calls prog 117 #[.pointer (some ⟨vb,0,none⟩),.string ⟨id.toArray⟩,.string ⟨pth.toArray⟩] w fun e w'=>e=.returned (.bool (authI tm id pth L))/\Below w.heap.size w w':=by
 have hL:=Xby B vb g cap L tm tn ln id false w h;have hlim:=h.lim
 rcases Zt tm id false L with⟨i,t,ht,-,-,-,hli⟩ | hli
 ·have hres:Hid (authI tm id pth L=(t.pth==pth)):=Xb (Xgi ht hli)
  rw [hli] at hL;clear hli;have hil:i<L.length:=(List.getElem?_eq_some_iff.1 ht).1
  have hc:=fun W (hb:Below w.heap.size w W)=>((h.below hb).cells ht).2.2.2.1
  have hv:=fun W (hb:Below w.heap.size w W)=>(h.below hb).v.cell 0 (v:=.slice (some ⟨g,0,none⟩) L.length cap) rfl
  generalize L.length=len at *;generalize authI tm id pth L=res at *;generalize t.pth=tp at *
  have hnn:(0:Int)<=(i:Int):=by omega
  go_enter func117,ntmps117
  go_wp2_with (go_at_call 154;refine hL.mono ?_;rintro e w1 ⟨rfl,hb1⟩;have x3:=hc w1 hb1;have v0:=hv w1 hb1)
  go_ret;exact⟨by rw [Xa hres];rfl,hb1⟩
 have hres:Hid (authI tm id pth L=false):=Xb (Xfg hli);rw [hli] at hL;clear hli;generalize authI tm id pth L=res at *;go_enter func117,ntmps117
 go_wp2_with (go_at_call 154;refine hL.mono ?_;rintro e w1 ⟨rfl,hb1⟩)
 go_ret;exact⟨by rw [Xa hres];rfl,hb1⟩
def V8 (c:UInt8):Bool:=(97<=c.toNat&&c.toNat<=122)||(48<=c.toNat&&c.toNat<=57)||c.toNat==45
def Zk (st:Option Bool) (c:UInt8):Option Bool:=match st with
 | none=>none
 | some o=>if c.toNat=47 then (if o then some false else none) else if V8 c then some true else none
def pathI (s:List UInt8):Bool:=s.foldl Zk (some false)==some true&&decide (s.length<=24)
theorem Xbk (s:List UInt8):s.foldl Zk none=none:=by
 induction s with
 | nil=>rfl
 | cons c s ih=>exact ih
theorem Xaq {s:List UInt8} {k:Nat} (h:(s.take k).foldl Zk (some false)=none):pathI s=false:=by
 have:s.foldl Zk (some false)=none:=by
  rw [<- List.take_append_drop k s,List.foldl_append,h,Xbk]
 simp [pathI,this]
theorem Xe0 {s:List UInt8} {k:Nat} {c:UInt8} {o:Bool} (hk:s[k]? = some c) (h:(s.take k).foldl Zk (some false)=some o):(s.take (k+1)).foldl Zk (some false)=Zk (some o) c:=by
 rw [Zu hk,List.foldl_append,h];rfl
theorem Xc2 {c:UInt8} {b:Bool} (h:c.toNat≠47/\¬ ((97<=c.toNat/\c.toNat<=122)\/(48<=c.toNat/\c.toNat<=57)\/c.toNat=45)):Zk (some b) c=none:=by
 have hn:V8 c=false:=by
  cases hb:V8 c
  ·rfl
  exfalso
  simp [V8] at hb;omega
 simp only [Zk,if_neg h.1,hn];rfl
theorem Xea {c:UInt8} {b:Bool} (h:c.toNat≠47/\((97<=c.toNat/\c.toNat<=122)\/(48<=c.toNat/\c.toNat<=57)\/c.toNat=45)):Zk (some b) c=some true:=by
 have hn:V8 c=true:=by
  simp [V8];omega
 simp only [Zk,if_neg h.1,hn,if_true]
theorem Xad {c:UInt8} {b:Bool} (h:c.toNat=47):Zk (some b) c=if b then some false else none:=by
 simp only [Zk,if_pos h]
theorem Tryz.Xcc (s:List UInt8) (hs:s.length<=9223372036854775807) (w:World) :
  Calls prog 156 #[.string ⟨s.toArray⟩] w fun e w'=>e=.returned (.bool (pathI s))/\w'=w:=by
 go_enter func156,ntmps156;go_wp2
 go_loopw [3,4] (fun o i wr=>∃(k:Nat) (b:Bool),k<=s.length/\i=.int .i64 k/\o=.bool b/\Hid ((s.take k).foldl Zk (some false)=some b)/\wr=w) (fun _ i _=>s.length-(intOf i).toNat)
 case atStart=>exact⟨0,false,Nat.zero_le _,rfl,rfl,Xb rfl,rfl⟩
 case round =>
  obtain⟨k,b,hk,rfl,rfl,hst,rfl⟩:=hrel
  by_cases hkl:k<s.length
  ·obtain⟨c,hc⟩:∃ c,s[k]? = some c:=⟨s[k],by simp [hkl]⟩
   have hck:∀ hp,((⟨s.toArray⟩:ByteArray)[k]'hp)=c:=fun hp=>by
    have h1:s[k]'hkl=c:=by simpa [hkl] using hc
    rw [<- h1];rfl
   have HP:=Xb (fun o=>Xe0 (o:=o) hc);clear hc;cases b
   all_goals
    go_wp2
    all_goals simp only [hck] at *
    all_goals try simp only [beq_iff_eq,beq_eq_false_iff_ne,bne_iff_ne,ne_eq,bne_eq_false_iff_eq] at *
   all_goals first
    | (go_ret;refine⟨?_,rfl⟩;rw [Xaq (k:=k+1) (by rw [Xa HP _ (Xa hst)];first | exact Xc2 (by omega) | (rw [Xad (by omega)];rfl))];rfl)
    | (go_roundw;(case rel=>exact⟨k+1,_,by omega,rfl,rfl,Xb (by rw [Xa HP _ (Xa hst)];first | exact Xea (by omega) | (rw [Xad (by omega)];rfl)),by first | rfl | trivial⟩);(case measure=>simp [intOf];omega))
  obtain rfl:k=s.length:=by omega
  have htk:=Xa hst;rw [List.take_length] at htk
  have hres:Hid (pathI s=(b&&decide (s.length<=24))):=Xb (by
   cases b <;> simp [pathI,htk])
  clear hst htk;cases b
  all_goals
   go_wp2;go_ret;refine⟨?_,rfl⟩;rw [Xa hres]
   first | rfl | (simp;try omega)
theorem Xhc:∀(L:List ThingD) (i:Nat) (t:ThingD) (a:Int),L[i]? = some t->X9 (L.set i { t with at_:=a })=(X9 L).set (i*8+4) (.int .u64 a)
 | [],_,_,_,h=>by simp at h
 | x :: xs,0,t,a,h=>by
  obtain rfl:x=t:=by simpa using h
  show ({ x with at_:=a }:ThingD).cells.toList++X9 xs=(x.cells.toList++X9 xs).set (0*8+4) _
  rw [List.set_append_left _ _ (by rw [ThingD.cells_size];omega)];rfl
 | x :: xs,i+1,t,a,h=>by
  show x.cells.toList++X9 (xs.set i { t with at_:=a })=(x.cells.toList++X9 xs).set ((i+1)*8+4) _
  rw [List.set_append_right _ _ (by rw [ThingD.cells_size];omega),ThingD.cells_size,show (i+1)*8+4-8=i*8+4 by omega,Xhc xs i t a (by simpa using h)]
theorem Tryz.Xk.setAt {B:Nat} {W:World} {vb g cap:Nat} {L:List ThingD} {tm tn ln:Int} (h:Xk B W vb g cap L tm tn ln) (hne:vb≠g) {i:Nat} {t:ThingD} (hi:L[i]? = some t) (a:Int) :
  Xk B (W.setCell ⟨g,i*8+4,none⟩ (.int .u64 a)) vb g cap (L.set i { t with at_:=a }) tm tn ln:=by
 have hlen:(L.set i { t with at_:=a }).length=L.length:=List.length_set ..
 have hmem:∀ x∈L.set i { t with at_:=a },x∈L\/x = { t with at_:=a }:=fun x hx=>List.mem_or_eq_of_mem_set hx
 have htm:t∈L:=List.mem_of_getElem? hi;refine⟨?_,?_,?_,?_,?_⟩
 ·rw [hlen];exact h.v.other hne _ _
 ·rw [hlen]
  obtain⟨h1,⟨e1,-⟩ | ⟨g',cap',cur,e1,e2,e3,e4,e5,e6,e7⟩⟩:=h.row
  ·cases e1
  cases e1;refine⟨by rw [Z4,hlen],.inr ⟨g,cap,cur.setIfInBounds (i*8+4) (.int .u64 a),rfl,e2,?_,e4,e5,by simpa using e6,?_⟩⟩
  ·exact BoxN.set (W:=W) (t:=105) (cs:=cur) e3 (i*8+4) (.int .u64 a)
  rw [Array.toList_setIfInBounds,List.take_set,e7,Xhc L i t a hi]
 ·rw [hlen];exact h.lim
 ·intro x hx;rcases hmem x hx with hx | rfl
  ·exact h.num x hx
  exact h.num t htm
 intro x hx;rcases hmem x hx with hx | rfl
 ·exact h.ofs x hx
 exact h.ofs t htm
def Md (tm ttl:Int) (t:ThingD):Int:=max t.at_ (min (plusI tm ttl) t.last)
theorem Xcb {α:Type} {L:List α} {i:Nat} {t:α} (h:L[i]? = some t):L.set i t=L:=by
 obtain⟨hlt,he⟩:=List.getElem?_eq_some_iff.1 h;rw [<- he];exact List.set_getElem_self hlt
theorem Tryz.Xk.Xav {B:Nat} {W:World} {vb g cap:Nat} {L:List ThingD} {tm tn ln:Int} (h:Xk B W vb g cap L tm tn ln) (j:Nat):W.frozen? ⟨g,j,none⟩=false:=by
 obtain⟨h1,⟨e1,-⟩ | ⟨g',cap',cur,e1,e2,e3,-⟩⟩:=h.row
 ·cases e1
 cases e1;exact BoxN.frozen (W:=W) (t:=105) (cs:=cur) e3 j
theorem Tryz.Xla (B:Nat) (vb g cap:Nat) (L:List ThingD) (tm tn ln:Int) (id:List UInt8) (ttl:Int) (w:World) (h:Xk B w vb g cap L tm tn ln) (hB:B<=w.heap.size) (hne:vb≠g) (htm:0<=tm) (h0:0<=ttl) (h1:ttl<=18446744073709551615)
  (i:Nat) (t:ThingD) (ht:L[i]? = some t) (hli:liveI tm id false L=i) :
  Calls prog 112 #[.pointer (some ⟨vb,0,none⟩),.string ⟨id.toArray⟩,.int .u64 ttl] w fun e w'=>e=.returned (.tuple #[.int .u64 (Md tm ttl t),.int .i64 0])/\Xk B w' vb g cap (L.set i { t with at_:=Md tm ttl t }) tm tn ln/\Below B w w'/\Spares [vb,g] w w':=by
 have hL:=Xby B vb g cap L tm tn ln id false w h;rw [hli] at hL
 have hP:=fun W=>Xgq tm ttl htm h0 h1 W
 have hlim:=h.lim;have hil:i<L.length:=(List.getElem?_eq_some_iff.1 ht).1;have hgB:B<=g:=(h.row.lt g rfl).1
 have hc:=fun W (hb:Below w.heap.size w W)=>(h.below hb).cells ht
 have hv:=fun W (hb:Below w.heap.size w W)=>(h.below hb).v.cell 0 (v:=.slice (some ⟨g,0,none⟩) L.length cap) rfl
 have hv1:=fun W (hb:Below w.heap.size w W)=>(h.below hb).v.cell 1 (v:=.int .u64 tm) rfl
 have hfz:=fun W (hb:Below w.heap.size w W)=>(h.below hb).Xav (i*8+4)
 have hset:=Xb (fun W (hb:Below w.heap.size w W)=>(h.below hb).setAt hne ht (Md tm ttl t));have hsame:=Xb (fun W (hb:Below w.heap.size w W) (e:Md tm ttl t=t.at_)=>(show Xk B W vb g cap (L.set i { t with at_:=Md tm ttl t }) tm tn ln from by rw [e,Xcb (show L[i]? = some { t with at_:=t.at_ } from ht)];exact h.below hb));have hr:Hid (Md tm ttl t=max t.at_ (min (plusI tm ttl) t.last)):=Xb rfl;generalize hra:Md tm ttl t=ra at *;clear hra;generalize plusI tm ttl=p at *
 obtain⟨len,hlen⟩:∃ len,L.length=len:=⟨_,rfl⟩
 rw [hlen] at hil hlim;simp only [hlen] at hv;clear hlen
 have hnn:¬ (i:Int)<0:=by omega
 by_cases hpl:t.last<p <;> by_cases hat:t.at_<(min p t.last)
 ·have hat':t.at_<t.last:=by omega
  obtain rfl:ra=t.last:=by have:=Xa hr;omega
  clear hr hat;go_enter func112,ntmps112
  go_wp2_with (first
   | (go_at_call 154;refine hL.mono ?_;rintro e w1 ⟨rfl,hb1⟩;obtain⟨x0,x1,x2,x3,x4,x5,x6,x7⟩:=hc w1 hb1;have v0:=hv w1 hb1;have v1:=hv1 w1 hb1;have fz:=hfz w1 hb1)
   | (go_at_call 153;refine(hP _).mono ?_;rintro e w2 ⟨rfl,rfl⟩))
  exact bodyPost_ret (v:=.tuple #[.int .u64 t.last,.int .i64 0]) (by simp [results,results112,go_sem]) rfl ⟨rfl,Xa hset _ hb1,(hb1.mono hB).setCell (p:=⟨g,i*8+4,none⟩) hgB _,(Spares.of_below hb1).set (by simp) _ _⟩
 ·have hat':¬ t.at_<t.last:=by omega
  obtain rfl:ra=t.at_:=by have:=Xa hr;omega
  clear hr hat;go_enter func112,ntmps112
  go_wp2_with (first
   | (go_at_call 154;refine hL.mono ?_;rintro e w1 ⟨rfl,hb1⟩;obtain⟨x0,x1,x2,x3,x4,x5,x6,x7⟩:=hc w1 hb1;have v0:=hv w1 hb1;have v1:=hv1 w1 hb1;have fz:=hfz w1 hb1)
   | (go_at_call 153;refine(hP _).mono ?_;rintro e w2 ⟨rfl,rfl⟩))
  exact bodyPost_ret (v:=.tuple #[.int .u64 t.at_,.int .i64 0]) (by simp [results,results112,go_sem]) rfl ⟨rfl,Xa hsame _ hb1 (by first | rfl | trivial),hb1.mono hB,Spares.of_below hb1⟩
 ·have hat':t.at_<p:=by omega
  obtain rfl:ra=p:=by have:=Xa hr;omega
  clear hr hat;go_enter func112,ntmps112
  go_wp2_with (first
   | (go_at_call 154;refine hL.mono ?_;rintro e w1 ⟨rfl,hb1⟩;obtain⟨x0,x1,x2,x3,x4,x5,x6,x7⟩:=hc w1 hb1;have v0:=hv w1 hb1;have v1:=hv1 w1 hb1;have fz:=hfz w1 hb1)
   | (go_at_call 153;refine(hP _).mono ?_;rintro e w2 ⟨rfl,rfl⟩))
  exact bodyPost_ret (v:=.tuple #[.int .u64 ra,.int .i64 0]) (by simp [results,results112,go_sem]) rfl ⟨rfl,Xa hset _ hb1,(hb1.mono hB).setCell (p:=⟨g,i*8+4,none⟩) hgB _,(Spares.of_below hb1).set (by simp) _ _⟩
 have hat':¬ t.at_<p:=by omega
 obtain rfl:ra=t.at_:=by have:=Xa hr;omega
 clear hr hat;go_enter func112,ntmps112
 go_wp2_with (first
  | (go_at_call 154;refine hL.mono ?_;rintro e w1 ⟨rfl,hb1⟩;obtain⟨x0,x1,x2,x3,x4,x5,x6,x7⟩:=hc w1 hb1;have v0:=hv w1 hb1;have v1:=hv1 w1 hb1;have fz:=hfz w1 hb1)
  | (go_at_call 153;refine(hP _).mono ?_;rintro e w2 ⟨rfl,rfl⟩))
 exact bodyPost_ret (v:=.tuple #[.int .u64 t.at_,.int .i64 0]) (by simp [results,results112,go_sem]) rfl ⟨rfl,Xa hsame _ hb1 (by first | rfl | trivial),hb1.mono hB,Spares.of_below hb1⟩
theorem Tryz.Xi1 (B:Nat) (vb g cap:Nat) (L:List ThingD) (tm tn ln:Int) (id:List UInt8) (ttl:Int) (w:World) (h:Xk B w vb g cap L tm tn ln) (hli:liveI tm id false L = -1) :
  Calls prog 112 #[.pointer (some ⟨vb,0,none⟩),.string ⟨id.toArray⟩,.int .u64 ttl] w fun e w'=>e=.returned (.tuple #[.int .u64 0,.int .i64 5])/\Below w.heap.size w w':=by
 have hL:=Xby B vb g cap L tm tn ln id false w h;rw [hli] at hL;go_enter func112,ntmps112
 go_wp2_with (go_at_call 154;refine hL.mono ?_;rintro e w1 ⟨rfl,hb1⟩)
 exact bodyPost_ret (v:=.tuple #[.int .u64 0,.int .i64 5]) (by simp [results,results112,go_sem]) rfl ⟨rfl,hb1⟩
theorem Tryz.Xhx (B:Nat) (vb g cap:Nat) (L:List ThingD) (tm tn ln:Int) (id:List UInt8) (w:World) (h:Xk B w vb g cap L tm tn ln) (hli:liveI tm id true L = -1) :
  Calls prog 109 #[.pointer (some ⟨vb,0,none⟩),.string ⟨id.toArray⟩] w fun e w'=>e=.returned (.tuple #[.string ⟨#[]⟩,.int .i64 1])/\Below w.heap.size w w':=by
 have hL:=Xby B vb g cap L tm tn ln id true w h;rw [hli] at hL;go_enter func109,ntmps109
 go_wp2_with (go_at_call 154;refine hL.mono ?_;rintro e w1 ⟨rfl,hb1⟩)
 exact bodyPost_ret (v:=.tuple #[.string ⟨#[]⟩,.int .i64 1]) (by simp [results,results109,go_sem]) rfl ⟨rfl,hb1⟩
theorem Tryz.Xht (B:Nat) (vb g cap:Nat) (L:List ThingD) (tm tn ln:Int) (id:List UInt8) (w:World) (h:Xk B w vb g cap L tm tn ln) (i:Nat) (hli:liveI tm id true L=i) (hc:countI true L=10) :
  Calls prog 109 #[.pointer (some ⟨vb,0,none⟩),.string ⟨id.toArray⟩] w fun e w'=>e=.returned (.tuple #[.string ⟨#[]⟩,.int .i64 4])/\Below w.heap.size w w':=by
 have hL:=Xby B vb g cap L tm tn ln id true w h;rw [hli] at hL
 have hC:=fun W (hb:Below w.heap.size w W)=>Xe7 B vb g cap L tm tn ln true W (h.below hb)
 rw [hc] at hC
 have hnn:¬ (i:Int)<0:=by omega
 go_enter func109,ntmps109
 go_wp2_with (first
  | (go_at_call 154;refine hL.mono ?_;rintro e w1 ⟨rfl,hb1⟩)
  | (go_at_call 155;refine(hC _ hb1).mono ?_;rintro e w2 ⟨rfl,rfl⟩))
 exact bodyPost_ret (v:=.tuple #[.string ⟨#[]⟩,.int .i64 4]) (by simp [results,results109,go_sem]) rfl ⟨rfl,hb1⟩
def issueE (tm:Int) (id pth:List UInt8) (ttl most:Int) (L:List ThingD):Int:=
 if liveI tm id true L<0 then 1 else if pathI pth=false then 2 else if ttl=0\/most<ttl then 3 else if countI false L=14 then 4 else 0
theorem Tryz.Xls (B:Nat) (vb g cap:Nat) (L:List ThingD) (tm tn ln:Int) (id pth:List UInt8) (ttl most:Int) (w:World) (h:Xk B w vb g cap L tm tn ln) (hp:pth.length<=9223372036854775807) (he:issueE tm id pth ttl most L≠0) :
  Calls prog 111 #[.pointer (some ⟨vb,0,none⟩),.string ⟨id.toArray⟩,.string ⟨pth.toArray⟩,.int .u64 ttl,.int .u64 most] w fun e w'=>e=.returned (.tuple #[.string ⟨#[]⟩,.int .i64 (issueE tm id pth ttl most L)])/\Below w.heap.size w w':=by
 have hL:=Xby B vb g cap L tm tn ln id true w h
 have hC:=fun W (hb:Below w.heap.size w W)=>Xe7 B vb g cap L tm tn ln false W (h.below hb)
 have hP:=fun W=>Xcc pth hp W
 have hr:Hid (issueE tm id pth ttl most L=if liveI tm id true L<0 then 1 else if pathI pth=false then 2 else if ttl=0\/most<ttl then 3 else if countI false L=14 then 4 else 0):=Xb rfl;generalize issueE tm id pth ttl most L=r at *;generalize liveI tm id true L=i at *;generalize pathI pth=pb at *;generalize countI false L=n at *
 by_cases h1:i<0
 ·obtain rfl:r=1:=by rw [Xa hr,if_pos h1]
  clear hr he;go_enter func111,ntmps111
  go_wp2_with (first
   | (go_at_call 154;refine hL.mono ?_;rintro e w1 ⟨rfl,hb1⟩)
   | (go_at_call 156;refine(hP _).mono ?_;rintro e w2 ⟨rfl,rfl⟩)
   | (go_at_call 155;refine(hC _ hb1).mono ?_;rintro e w3 ⟨rfl,rfl⟩))
  exact bodyPost_ret (v:=.tuple #[.string ⟨#[]⟩,.int .i64 1]) (by simp [results,results111,go_sem]) rfl ⟨rfl,hb1⟩
 by_cases h2:pb=false
 ·obtain rfl:r=2:=by rw [Xa hr,if_neg h1,if_pos h2]
  subst h2;clear hr he;go_enter func111,ntmps111
  go_wp2_with (first
   | (go_at_call 154;refine hL.mono ?_;rintro e w1 ⟨rfl,hb1⟩)
   | (go_at_call 156;refine(hP _).mono ?_;rintro e w2 ⟨rfl,rfl⟩)
   | (go_at_call 155;refine(hC _ hb1).mono ?_;rintro e w3 ⟨rfl,rfl⟩))
  exact bodyPost_ret (v:=.tuple #[.string ⟨#[]⟩,.int .i64 2]) (by simp [results,results111,go_sem]) rfl ⟨rfl,hb1⟩
 obtain rfl:pb=true:=by simpa using h2
 by_cases h3:ttl=0\/most<ttl
 ·obtain rfl:r=3:=by rw [Xa hr,if_neg h1,if_neg h2,if_pos h3]
  clear hr he h2
  by_cases h0:ttl=0
  focus
   subst h0;clear h3
  rotate_left
  focus
   have h0':(ttl==0)=false:=by simpa using h0
   have h3':most<ttl:=h3.resolve_left h0;clear h3 h0
  rotate_left
  all_goals
   go_enter func111,ntmps111
   go_wp2_with (first
    | (go_at_call 154;refine hL.mono ?_;rintro e w1 ⟨rfl,hb1⟩)
    | (go_at_call 156;refine(hP _).mono ?_;rintro e w2 ⟨rfl,rfl⟩)
    | (go_at_call 155;refine(hC _ hb1).mono ?_;rintro e w3 ⟨rfl,rfl⟩))
   exact bodyPost_ret (v:=.tuple #[.string ⟨#[]⟩,.int .i64 3]) (by simp [results,results111,go_sem]) rfl ⟨rfl,hb1⟩
 by_cases h4:n=14
 ·obtain rfl:r=4:=by rw [Xa hr,if_neg h1,if_neg h2,if_neg h3,if_pos h4]
  subst h4
  have h0':(ttl==0)=false:=by simp;omega
  have h3':¬ most<ttl:=by omega
  clear hr he h2 h3;go_enter func111,ntmps111
  go_wp2_with (first
   | (go_at_call 154;refine hL.mono ?_;rintro e w1 ⟨rfl,hb1⟩)
   | (go_at_call 156;refine(hP _).mono ?_;rintro e w2 ⟨rfl,rfl⟩)
   | (go_at_call 155;refine(hC _ hb1).mono ?_;rintro e w3 ⟨rfl,rfl⟩))
  exact bodyPost_ret (v:=.tuple #[.string ⟨#[]⟩,.int .i64 4]) (by simp [results,results111,go_sem]) rfl ⟨rfl,hb1⟩
 exact absurd (by rw [Xa hr,if_neg h1,if_neg h2,if_neg h3,if_neg h4]) he
end Go.Proofs
