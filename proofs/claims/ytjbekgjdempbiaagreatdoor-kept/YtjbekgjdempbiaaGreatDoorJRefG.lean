import Derived.Test.YtjbekgjdempbiaaGreatDoorJAll
import Derived.Test.YtjbekgjdempbiaaGreatDoorJRounds
import Derived.Test.YtjbekgjdempbiaaGreatDoorProg
import Derived.Test.YtjbekgjdempbiaaGreatDoorJMapOps
import Derived.WalkKit
import Derived.WalkSpells
import Derived.Deep.RegionHeld3
import Derived.Maps.OwnSet
set_option maxRecDepth 100000
set_option maxHeartbeats 8000000
namespace Go.Proofs
open Go.RowKit Go.Sort Go.Lib Go.Shelf Go.Maps
attribute [local go_sem] Oper.semAt_some
def Um (xs:List InfoD):List Value:=xs.flatMap fun x=>x.cells.toList
theorem Xeg (xs:List InfoD) (x:InfoD):Um (xs ++ [x])=Um xs++x.cells.toList:=by simp [Um]
theorem Tryz.Xjv:(prog.info? 49).map (fun i=>(i.zero,i.size,i.bytes))=some (some (.agg #[.string ⟨#[]⟩,.int .i64 0,.int .u64 0,.int .i64 0,.string ⟨#[]⟩,.string ⟨#[]⟩]),6,72):=by kernel_rfl
def Tryz.Xk2 (t:TypeId):Bool:=t==45||t==49
theorem Tryz.Xtn:Good Xk2:=⟨by decide,by decide,by decide,by decide,by decide,by decide,by decide,by decide⟩
def Tryz.Xnj (t:TypeId):Bool:=t==31
theorem Tryz.Xpl:Good Xnj:=⟨by decide,by decide,by decide,by decide,by decide,by decide,by decide,by decide⟩
structure Tryz.Xq (W:World) (vb mt ml:Nat) (vx:VX) (tm tn ln:Int) (tks:List Xd) (lks:List Xc):Prop where
 v:BoxN W vb 126 (Tryz.Y7 vx tm mt ml tn ln)
 held:Tryz.Mk W mt ml tks lks
 ok:Xx tks lks
 env:Tryz.Env W
 six:6<=W.heap.size
theorem Tryz.Xq.below {W W':World} {vb mt ml:Nat} {vx:VX} {tm tn ln:Int} {tks:List Xd} {lks:List Xc} (h:Xq W vb mt ml vx tm tn ln tks lks) (hb:Below W.heap.size W W'):Xq W' vb mt ml vx tm tn ln tks lks:=
 ⟨h.v.below hb h.v.lt,h.held.keeps (KeepsT.below (bad:=fun _=>false) hb),h.ok,h.env.below hb h.six,Nat.le_trans h.six hb.size⟩
theorem InfoD.cells_size (x:InfoD):x.cells.toList.length=6:=rfl
theorem Xb9 (w:World) (a b c d e f:Value) (t:TypeId):∀ j u,[a,b,c,d,e,f][j]? = some u->(w.alloc (.cells #[a,b,c,d,e,f] t)).cell? ((⟨w.heap.size,0,none⟩:Addr).add j)=some u:=by
 intro j u hj
 match j,hj with
 | 0,hj=>simp at hj;subst hj;simp [Addr.add]
 | 1,hj=>simp at hj;subst hj;simp [Addr.add]
 | 2,hj=>simp at hj;subst hj;simp [Addr.add]
 | 3,hj=>simp at hj;subst hj;simp [Addr.add]
 | 4,hj=>simp at hj;subst hj;simp [Addr.add]
 | 5,hj=>simp at hj;subst hj;simp [Addr.add]
 | (k+6),hj=>simp at hj
theorem BoxN.not_row {W:World} {B:Nat} {t e:TypeId} {cs:Array Value} {n₀ size k:Nat} {v:Value} {xs:List Value} (h:BoxN W B t cs) (hte:t≠e) (hrow:W.ownsRow n₀ e size v k xs):some B≠v.ownBlock:=by
 rcases hrow.2 with⟨rfl,_⟩ | ⟨g,cap,cur,rfl,_,hgb,_⟩
 ·simp [Value.ownBlock]
 intro e'
 have:B=g:=by simpa [Value.ownBlock] using e'
 subst this;rw [show W.heap[B]? = _ from h] at hgb;simp only [Option.some.injEq,Obj.cells.injEq] at hgb;exact hte hgb.2.1
theorem KeepsT.Xpg {bad:TypeId->Bool} {W W':World} {n₀ size k:Nat} {e:TypeId} {v:Value} {xs:List Value} (hrow:W.ownsRow n₀ e size v k xs) (he:bad e=true) (hg:W.grownBy W' v.ownBlock):KeepsT bad W W':=
 KeepsT.grown hg (fun j ej o ho=>by
  rcases hrow.2 with⟨rfl,_⟩ | ⟨g,cap,cur,rfl,_,hgb,_⟩
  ·simp [Value.ownBlock] at ej
  obtain rfl:g=j:=by simpa [Value.ownBlock] using ej
  rw [hgb] at ho;cases ho
  simp [Xda,he])
theorem KeepsT.Xhf {bad:TypeId->Bool} {W:World} {B:Nat} {t:TypeId} {v:Value} (hb:Boxed W B t v) (ht:bad t=true) (v':Value):KeepsT bad W (W.setCell ⟨B,0,none⟩ v'):=
 KeepsT.grown (grownBy_setCell' W B v') (fun j ej o ho=>by
  cases ej;rw [show W.heap[B]? = _ from hb] at ho;cases ho
  simp [Xda,ht])
theorem Tryz.hAll0 (hb vb mt ml:Nat) (vx:VX) (tm tn ln:Int) (tks:List Xd) (lks:List Xc) (w:World) (dv rv:Value) (hH:BoxN w hb 78 #[dv,rv,.pointer (some ⟨vb,0,none⟩)]) (hV:Xq w vb mt ml vx tm tn ln tks lks) :
  CallsIn Fence.wide 9 prog 24 #[.pointer (some ⟨hb,0,none⟩),.int .i64 0] w fun e w'=>∃ v:Value,e=.returned (.tuple #[v,.bool true])/\w'.ownsRow w.heap.size 49 6 v (infosOf tm tks lks).length (Um (infosOf tm tks lks))/\Below w.heap.size w w':=by
 obtain⟨i0,hi,hz0,hz1,hz2⟩:=info_parts Xjv;have hfa:Fence.wide.fn 48:=trivial;have c2:=hH.cell 2 (v:=.pointer (some ⟨vb,0,none⟩)) rfl;have lH:=hH.lt
 have hnf:∀(p:Addr) (W:World),Sem.run prog (binOp .eql 90 (.func (.func 78) #[] #[.pointer (some p)]) .nilFunc) W=.ok (.bool false) W:=fun _ _=>by kernel_rfl
 refine callsIn_of_wp_marks func24 rfl trivial ?_ rfl;simp only [ntmps24,List.size_toArray,List.length_cons,List.length_nil,Nat.reduceAdd,Nat.reduceSub,Array.replicate_succ,Array.replicate_zero,List.push_toArray,List.append_toArray,List.nil_append,List.cons_append]
 gi_wp2_with (gi_at_call 48;refine(callsIn_wide.2 (vAll vb _)).mono ?_;rintro e w' ⟨rfl,rfl⟩)
 clear hnf c2;have bZ:=((BoxN.new w 3 #[.int .i64 0]).alloc (.cells #[.pointer (some ⟨vb,0,none⟩)] 76)).alloc (.cells #[.slice none 0 0] 45);have bV:=(BoxN.new (w.alloc (.cells #[.int .i64 0] 3)) 76 #[.pointer (some ⟨vb,0,none⟩)]).alloc (.cells #[.slice none 0 0] 45);have bL:=Boxed.new ((w.alloc (.cells #[.int .i64 0] 3)).alloc (.cells #[.pointer (some ⟨vb,0,none⟩)] 76)) 45 (.slice none 0 0);have hB0:Below w.heap.size w (((w.alloc (.cells #[.int .i64 0] 3)).alloc (.cells #[.pointer (some ⟨vb,0,none⟩)] 76)).alloc (.cells #[.slice none 0 0] 45)):=(((Below.refl _ w).alloc (Nat.le_refl _) _).alloc (by simp) _).alloc (by simp;omega) _
 have hsz:(((w.alloc (.cells #[.int .i64 0] 3)).alloc (.cells #[.pointer (some ⟨vb,0,none⟩)] 76)).alloc (.cells #[.slice none 0 0] 45)).heap.size=w.heap.size+3:=by simp
 simp only [World.size_alloc] at bV bL;have hV0:=hV.below hB0
 obtain⟨W0,hW0⟩:∃ W0,((w.alloc (.cells #[.int .i64 0] 3)).alloc (.cells #[.pointer (some ⟨vb,0,none⟩)] 76)).alloc (.cells #[.slice none 0 0] 45)=W0:=⟨_,rfl⟩
 rw [hW0] at bZ bV bL hB0 hsz hV0 ⊢;clear hW0
 have hlen:(infosOf tm tks lks).length<=1000:=by have:=hV.ok.lenT;have:=hV.ok.lenL;simp [infosOf];omega
 refine Vd (n:=9) (by omega) (gf:=78) (lb:=#[.pointer (some ⟨w.heap.size+1,0,none⟩)]) rfl Xjz
  (Xj5 8 (by omega) Xk2 Xtn (w.heap.size+1) vb mt ml vx tm tn ln tks lks hV.ok W0 bV hV0.v hV0.held) Jr Jo (Below.refl _ _) (fun _=>rfl)
  (fun pre V=>((∃ v,Boxed V (w.heap.size+1+1) 45 v/\V.ownsRow w.heap.size 49 6 v pre.length (Um pre)/\(v=.slice none 0 0↔pre = []))/\BoxN V w.heap.size 3 #[.int .i64 0])/\Below w.heap.size w V)
  (fun _ _ _=>False)
  (OwnFrom.and (OwnFrom.and (Own.from (holdsRow_own _ _ _ _ _ (fun pre:List InfoD=>pre.length) (fun pre=>Um pre) (fun pre v=>(v=.slice none 0 0↔pre = []))) _) (Own.from (Xy _ _ (fun _=>#[.int .i64 0])) _)) (ownFrom_below (Nat.le_refl _) (by omega)))
  (fun _ _ _ _ _ hs _ _=>hs)
  (fun s V hs=>⟨hV.env.below hs.2 hV.six,Nat.le_trans hV.six hs.2.size⟩)
  ⟨⟨⟨_,bL,World.ownsRow_nil _ _ _ _,by simp⟩,bZ⟩,hB0⟩
  (fun x a' V=>∃ Bx,w.heap.size+1+1<Bx/\BoxN V Bx 49 x.cells/\a' = { tmps:=#[.pointer (some ⟨hb,0,none⟩),.int .i64 0,undef,.pointer (some ⟨w.heap.size,0,none⟩),.slice none 0 0,.bool false,.func (.func 78) #[] #[.pointer (some ⟨w.heap.size+1,0,none⟩)],.pointer (some ⟨w.heap.size+1+1,0,none⟩),.pointer (some ⟨Bx,0,none⟩),.pointer (some ⟨hb,0,none⟩),.pointer (some ⟨hb,0,none⟩),.pointer (some ⟨hb,2,none⟩),.pointer (some ⟨vb,0,none⟩),.bool false,.pointer (some ⟨hb,0,none⟩),.pointer (some ⟨hb,0,none⟩),.pointer (some ⟨hb,2,none⟩),.pointer (some ⟨vb,0,none⟩),.func (.func 78) #[] #[.pointer (some ⟨w.heap.size+1,0,none⟩)],.func (.func 78) #[] #[.pointer (some ⟨w.heap.size+1,0,none⟩)],.bool false,.func (.func 78) #[] #[.pointer (some ⟨w.heap.size+1,0,none⟩)],.agg x.cells,undef,undef,undef,undef,undef,undef,undef,undef,undef],defers:=[] })
  (fun x a' _ X Y row hs hg hr=>by obtain⟨Bx,h1,h2,h3⟩:=hs;exact⟨Bx,h1,Xy Bx 49 (fun(_:Unit)=>x.cells) () X Y row h2 hg (fun r e=>(hr r e).2),h3⟩)
  ?assign ?body ?done ?stop
 case assign =>
  rintro l pre x V K ⟨⟨⟨v,b1,hr1,hnil⟩,bz⟩,hB1⟩ hK;obtain⟨id,st,at_,tr,tok,pth⟩:=x;simp only [InfoD.cells,Yb]
  gi_wp2
  exact hK _ _ ((KeepsOthers.alloc _ _).from _) (KeepsT.alloc _ _) ⟨⟨⟨v,b1.alloc _,hr1.alloc _,hnil⟩,bz.alloc _⟩,hB1.alloc hB1.size _⟩ ⟨V.heap.size,b1.lt,BoxN.new V 49 _,rfl⟩
 case body =>
  rintro l pre x a' V hl ⟨⟨⟨v,b1,hr1,hnil⟩,bz⟩,hB1⟩ ⟨Bx,hBx,bX,rfl⟩ hlt;have hfl:=Xeg pre x;obtain⟨id,st,at_,tr,tok,pth⟩:=x;simp only [InfoD.cells,Yb] at bX hfl ⊢;have HF:=Xb hfl;clear hfl;have cS:=b1.cell;have cz:=bz.cell 0 (v:=.int .i64 0) rfl
  have hne0:(((pre.length:Int)+1)==0)=false:=by rw [beq_eq_false_iff_ne];omega
  have x0:=bX.cell 0 (v:=.string ⟨id.toArray⟩) rfl;have x1:=bX.cell 1 (v:=.int .i64 st) rfl;have x2:=bX.cell 2 (v:=.int .u64 at_) rfl;have x3:=bX.cell 3 (v:=.int .i64 tr) rfl;have x4:=bX.cell 4 (v:=.string ⟨tok.toArray⟩) rfl;have x5:=bX.cell 5 (v:=.string ⟨pth.toArray⟩) rfl;have bz0:=bz.alloc (.cells #[.string ⟨id.toArray⟩,.int .i64 st,.int .u64 at_,.int .i64 tr,.string ⟨tok.toArray⟩,.string ⟨pth.toArray⟩] 49);have hnr:Hid (some w.heap.size≠v.ownBlock):=bz0.not_row (e:=49) (by decide) (hr1.alloc _)
  gi_wp2_with (gi_at_builtin;refine wpListIn_append_own _ rfl _ _ 45 rfl w.heap.size 49 i0 _ 6 72 underlying45 hi hz0 hz1 hz2 rfl (by decide) _ _ _ rfl (hr1.alloc _) ⟨V.heap.size,0,none⟩ 1 1 [.string ⟨id.toArray⟩,.int .i64 st,.int .u64 at_,.int .i64 tr,.string ⟨tok.toArray⟩,.string ⟨pth.toArray⟩] rfl rfl (Xb9 _ _ _ _ _ _ _ _) (by simp [Value.oneCell']) (by unfold maxLen;omega) (by omega) (by have:=hB1.size;simp;omega) ?_;intro v' w1 hown' hgrow hn';obtain⟨g',cap',rfl⟩:=ownsRow_succ hown';obtain⟨hv1,hv2,hr2,hk2,hb2⟩:=b1.appended (by decide) hr1 hB1.size (by omega) hown' hgrow;have hc1:=hv1.cell;have hf1:=hv1.frozen;have bz1:=bz0.kept hgrow hnr;have cz1:=bz1.cell 0 (v:=.int .i64 0) rfl)
  have hkT:=((KeepsT.alloc (bad:=Xk2) V (.cells #[.string ⟨id.toArray⟩,.int .i64 st,.int .u64 at_,.int .i64 tr,.string ⟨tok.toArray⟩,.string ⟨pth.toArray⟩] 49)).trans (KeepsT.Xpg (hr1.alloc _) (by decide) hgrow)).trans (KeepsT.Xhf hv1 (by decide) (.slice (some ⟨g',0,none⟩) (pre.length+1) cap'));exact⟨hk2.from _,hkT,⟨⟨_,hv2,by rw [show Um _=_ from Xa HF,List.length_append];exact hr2,by simp⟩,bz1.other (by omega) _ _⟩,hB1.trans hb2⟩
 case done =>
  rintro D zs V hD rfl ⟨⟨⟨v,b1,hr1,hnil⟩,bz⟩,hB1⟩ hK;have cS:=b1.cell
  gi_wp2
  refine⟨by simp,.inl ⟨_,_,rfl,run_takeDeferred hK,?_⟩⟩;exact⟨_,by simp [results,results24,go_sem],v,rfl,ownsRow_putObj hr1 _ hK rfl,hB1.trans (belowK_b (w:=w) (Nat.le_refl _) V D _ _ (by omega) hK rfl rfl)⟩
 case stop =>
  rintro D c pre V _ _ h _;exact h.elim
end Go.Proofs
namespace Go.Proofs
open Go.RowKit Go.Sort Go.Lib Go.Shelf
def Jk (tm:Int) (b:Bool) (L:List ThingD):List InfoD:=(L.filter (fun t=>t.token==b)).map (ThingD.info tm)
theorem Xmn (tm:Int) (b:Bool) (L:List ThingD) (t:ThingD):Jk tm b (L ++ [t])=Jk tm b L++(if t.token==b then [t.info tm] else []):=by
 unfold Jk
 by_cases h:(t.token==b)=true <;> simp [h]
theorem Xce (tm:Int) (b:Bool) (L:List ThingD):(Jk tm b L).length<=L.length:=by
 unfold Jk;rw [List.length_map];exact List.length_filter_le _ _
def Xdd (tm:Int) (L:List ThingD):List InfoD:=Jk tm true L++Jk tm false L
def Xb3 (tm:Int) (L:List ThingD) (k:Nat):List InfoD:=match k with | 0=>[] | 1=>Jk tm true L | _=>Xdd tm L
theorem ownsRow_below {W W':World} {base size n:Nat} {e:TypeId} {v:Value} {xs:List Value} (h:W.ownsRow base e size v n xs) (hb:Below W.heap.size W W'):W'.ownsRow base e size v n xs:=
 h.kept (row:=none) ⟨hb.os,hb.tape,hb.output,hb.size,fun k hk _=>hb.block k hk⟩ (by by_cases h:v.ownBlock=none;exact .inl h;exact .inr h)
theorem Tryz.Xvi (B:Nat) (vb g cap:Nat) (L:List ThingD) (tm tn ln:Int) (w:World) (h:Xk B w vb g cap L tm tn ln) :
  Calls prog 57 #[.pointer (some ⟨vb,0,none⟩)] w fun e w'=>∃ v:Value,e=.returned v/\w'.ownsRow w.heap.size 49 6 v (Xdd tm L).length (Um (Xdd tm L))/\Below w.heap.size w w':=by
 obtain⟨i0,hi,hz0,hz1,hz2⟩:=info_parts Xjv;have hlim:=h.lim
 obtain⟨len,hlen⟩:∃ len,L.length=len:=⟨_,rfl⟩
 rw [hlen] at hlim;have Hlen:=Xb hlen;clear hlen;go_enter func57,ntmps57;go_wp2
 go_loopw [3,4] (fun v j wr=>∃ k:Nat,k<=2/\j=.int .i64 k/\wr.ownsRow w.heap.size 49 6 v (Xb3 tm L k).length (Um (Xb3 tm L k))/\Below w.heap.size w wr) (fun _ j _=>2-(intOf j).toNat)
 case atStart=>exact⟨0,by omega,rfl,World.ownsRow_nil _ _ _ _,Below.refl _ _⟩
 case round =>
  obtain⟨k,hk,rfl,hrow,hB⟩:=hrel
  by_cases hk2:k<2
  ·obtain⟨pre,hpre⟩:∃ pre,Xb3 tm L k=pre:=⟨_,rfl⟩
   obtain⟨b,hb⟩:∃ b:Bool,((k:Int)==0)=b:=⟨_,rfl⟩
   have hfin:Hid (Xb3 tm L (k+1)=pre++Jk tm b L):=Xb (by
    match k,hk2 with
    | 0,_=>simp [Xb3] at hpre hb ⊢;simp [hpre,hb.symm]
    | 1,_=>simp [Xb3,Xdd] at hpre hb ⊢;simp [<- hpre,<- hb])
   have hpl:pre.length<=100:=by
    rw [<- hpre]
    match k,hk2 with
    | 0,_=>simp [Xb3]
    | 1,_=>simp only [Xb3];have:=Xce tm true L;have:=Xa Hlen;omega
   rw [hpre] at hrow;clear hpre;go_wp2;rw [show decide ((k:Int)<2)=true by simp;omega]
   go_loopw [3,5] (fun v j wq=>∃ i:Nat,i<=len/\j=.int .i64 i/\wq.ownsRow w.heap.size 49 6 v (pre++Jk tm b (L.take i)).length (Um (pre++Jk tm b (L.take i)))/\Below w.heap.size w wq) (fun _ j _=>len-(intOf j).toNat)
   case atStart=>exact⟨0,Nat.zero_le _,rfl,by simpa [Jk] using hrow,hB⟩
   case round =>
    clear hrow hB;obtain⟨i,hil,rfl,hrow,hB⟩:=hrel;have h':=h.below hB;have c0:=h'.v.cell 0 (v:=.slice (some ⟨g,0,none⟩) L.length cap) rfl;rw [Xa Hlen] at c0
    by_cases hin:i<len
    ·obtain⟨t,ht⟩:∃ t,L[i]? = some t:=⟨L[i]'(by have:=Xa Hlen;omega),by simp [Xa Hlen,hin]⟩
     obtain⟨x0,x1,x2,x3,x4,x5,x6,x7⟩:=h'.cells ht;have htk:=Xb (Zs ht);have hsn:=Xb (Xmn tm b (L.take i) t);have hI:=rInfo t vb tm wr (h'.v.cell 1 (v:=.int .u64 tm) rfl) (h.num t (List.mem_of_getElem? ht)) (h.ofs t (List.mem_of_getElem? ht))
     have hpl2:(pre++Jk tm b (L.take i)).length<=200:=by
      have:=Xce tm b (L.take i);simp only [List.length_append];simp at this ⊢;omega
     simp only [ThingD.cells] at hI;generalize t.info tm=x at *;obtain⟨id,st,at_,tr,tok,pth⟩:=x;simp only [InfoD.cells,Yb] at hI
     obtain⟨acc,hacc⟩:∃ acc,pre++Jk tm b (L.take i)=acc:=⟨_,rfl⟩
     rw [hacc] at hrow hpl2;have Hacc:=Xb hacc;clear hacc;have hwl:=hB.size
     by_cases htb:(t.token==b)=true
     ·have htb':t.token=b:=by simpa using htb
      have hsn':=Xb (show Jk tm b (L.take i ++ [t])=Jk tm b (L.take i) ++ [⟨id,st,at_,tr,tok,pth⟩] by rw [Xa hsn,if_pos htb]);have hfs:=Xb (Xeg acc ⟨id,st,at_,tr,tok,pth⟩);clear hsn htb;rw [htb'] at x0 hI
      go_wp2_with (first
       | (go_at_call 101;refine hI.mono ?_;rintro e w1 ⟨rfl,hb1⟩;have hrow1:=ownsRow_below hrow hb1;have hwl1:=hb1.size)
       | (at_builtin;refine wpList_append_own _ rfl _ _ 45 rfl w.heap.size 49 i0 _ 6 72 underlying45 hi hz0 hz1 hz2 rfl (by decide) _ _ _ rfl ((hrow1.alloc _).alloc _) ⟨w1.heap.size+1,0,none⟩ 1 1 [.string ⟨id.toArray⟩,.int .i64 st,.int .u64 at_,.int .i64 tr,.string ⟨tok.toArray⟩,.string ⟨pth.toArray⟩] rfl rfl (by have:=Xb9 (w1.alloc (.cells #[.string ⟨id.toArray⟩,.int .i64 st,.int .u64 at_,.int .i64 tr,.string ⟨tok.toArray⟩,.string ⟨pth.toArray⟩] 49)) (.string ⟨id.toArray⟩) (.int .i64 st) (.int .u64 at_) (.int .i64 tr) (.string ⟨tok.toArray⟩) (.string ⟨pth.toArray⟩) 49;rwa [World.size_alloc] at this) (by simp [Value.oneCell']) (by unfold maxLen;omega) (by omega) (by simp;omega) ?_))
      intro v' w2 hown' hgrow hn';clear hn'
      have hbk:∀ q,u3.ownBlock=some q->w.heap.size<=q:=fun q hq=>(hrow.lt q hq).1
      have hB2:Below w.heap.size w w2:=(((hB.trans (hb1.mono hwl)).alloc (by omega) _).alloc (by simp;omega) _).grown hgrow (by simp;omega) hbk;have e:Hid (pre++Jk tm b (L.take (i+1))=acc ++ [⟨id,st,at_,tr,tok,pth⟩]):=Xb (by rw [Xa htk,Xa hsn',<- List.append_assoc,Xa Hacc]);clear hgrow hrow1 hrow hB hb1 x0 x1 x2 x3 x4 x5 x6 x7 hI c0;go_wp2
      go_roundw
      case rel=>exact⟨i+1,by omega,rfl,by rw [Xa e,List.length_append,Xa hfs];exact hown',hB2⟩
      case measure=>simp [intOf];omega
     have hne:(t.token==b)=false:=by simpa using htb
     have e:Hid (pre++Jk tm b (L.take (i+1))=acc):=Xb (by rw [Xa htk,Xa hsn,if_neg htb,List.append_nil,Xa Hacc]);clear hsn htb hI;go_wp2
     go_roundw
     case rel=>exact⟨i+1,by omega,rfl,by rw [Xa e];exact hrow,hB⟩
     case measure=>simp [intOf];omega
    obtain rfl:i=len:=by omega
    have e:Hid (pre++Jk tm b (L.take i)=Xb3 tm L (k+1)):=Xb (by rw [Ua (Nat.le_of_eq (Xa Hlen)),Xa hfin]);rw [Xa e] at hrow;go_wp2
    go_roundw
    case rel=>exact⟨k+1,by omega,rfl,hrow,hB⟩
    case measure=>simp [intOf];omega
  obtain rfl:k=2:=by omega
  go_wp2;go_ret;exact⟨_,rfl,hrow,hB⟩
end Go.Proofs
namespace Go.Proofs
open Go.RowKit Go.Sort Go.Lib Go.Shelf Go.Maps
theorem Xhd:∀(xs:List InfoD) (k j:Nat) (t:InfoD),xs[k]? = some t->j<6->(Um xs)[k*6+j]? = t.cells[j]?
 | [],_,_,_,h,_=>by simp at h
 | x :: xs,0,j,t,h,hj=>by
  obtain rfl:x=t:=by simpa using h
  show (x.cells.toList++Um xs)[0*6+j]? = _
  rw [List.getElem?_append_left (by rw [InfoD.cells_size];omega)];simp
 | x :: xs,k+1,j,t,h,hj=>by
  show (x.cells.toList++Um xs)[(k+1)*6+j]? = _
  rw [List.getElem?_append_right (by rw [InfoD.cells_size];omega),InfoD.cells_size,show (k+1)*6+j-6=k*6+j by omega];exact Xhd xs k j t (by simpa using h) hj
theorem Xm3 {B:Nat} {W:World} {g cap n:Nat} {e:TypeId} {xs:List InfoD} (h:W.ownsRow B e 6 (.slice (some ⟨g,0,none⟩) n cap) n (Um xs)) {k:Nat} {t:InfoD} (hk:xs[k]? = some t) :
  W.cell? ⟨g,k*6,none⟩=some (.string ⟨t.id.toArray⟩)/\W.cell? ⟨g,k*6+1,none⟩=some (.int .i64 t.st)/\W.cell? ⟨g,k*6+2,none⟩=some (.int .u64 t.at_)/\W.cell? ⟨g,k*6+3,none⟩=some (.int .i64 t.tr)/\W.cell? ⟨g,k*6+4,none⟩=some (.string ⟨t.tok.toArray⟩)/\W.cell? ⟨g,k*6+5,none⟩=some (.string ⟨t.pth.toArray⟩):=by
 have c:∀ j,j<6->W.cell? ⟨g,k*6+j,none⟩=t.cells[j]?:=fun j hj=>by
  have hc:=h.cells (g:=g) rfl (k*6+j);have hs:j<t.cells.size:=hj;have:=hc (t.cells[j]) (by rw [Xhd xs k j t hk hj];simp [hs]);rw [Lib.add_plain] at this;simp only [Nat.zero_add] at this;rw [this];simp [hs]
 exact⟨c 0 (by omega),c 1 (by omega),c 2 (by omega),c 3 (by omega),c 4 (by omega),c 5 (by omega)⟩
theorem Tryz.Xk0:prog.underlying 49=some (.struct (prog.fieldsOf 49)):=by kernel_rfl
theorem Tryz.Xrj:prog.stoodInHeld 49=false:=by kernel_rfl
theorem Tryz.Xsq (x y:InfoD) (W:World):(binOp .neq 49 (.agg x.cells) (.agg y.cells)).run prog W=.ok (.bool (!(x.id==y.id&&x.st==y.st&&x.at_==y.at_&&x.tr==y.tr&&x.tok==y.tok&&x.pth==y.pth))) W:=by
 obtain⟨a0,a1,a2,a3,a4,a5⟩:=x;obtain⟨b0,b1,b2,b3,b4,b5⟩:=y;rw [run_neq_struct,run_equalIn_struct W 9999 _ _ _ Xk0 Xrj];simp only [Program.fieldsOf,underlying49];simp [InfoD.cells,Yb,Op.eqFields,go_sem]
 by_cases h0:a0=b0 <;> by_cases h1:a1=b1 <;> by_cases h2:a2=b2 <;> by_cases h3:a3=b3 <;> by_cases h4:a4=b4 <;> by_cases h5:a5=b5 <;> simp_all
theorem Tryz.Xgj (B B' n m:Nat) (u v:Value) (xs ys:List InfoD) (w:World) (hA:w.ownsRow B 49 6 u n (Um xs)) (hB:w.ownsRow B' 49 6 v m (Um ys)) (hn:xs.length=n) (hm:ys.length=m) (hl:n<=1000) (hl':m<=1000) :
  Calls prog 58 #[u,v] w fun e w'=>∃ b,e=.returned (.bool b)/\(xs=ys->b=true)/\Below w.heap.size w w':=by
 have hU:∃ p c,u=.slice p n c:=by
  rcases hA.2 with⟨rfl,h0⟩ | ⟨g,cap,cur,rfl,_⟩
  ·exact⟨none,0,by rw [h0]⟩
  exact⟨_,_,rfl⟩
 have hV:∃ p c,v=.slice p m c:=by
  rcases hB.2 with⟨rfl,h0⟩ | ⟨g,cap,cur,rfl,_⟩
  ·exact⟨none,0,by rw [h0]⟩
  exact⟨_,_,rfl⟩
 obtain⟨p,c,rfl⟩:=hU;obtain⟨q,d,rfl⟩:=hV
 by_cases hnm:n=m
 ·subst hnm
  go_enter func58,ntmps58;go_wp2
  go_loopw [5] (fun i wr=>∃ k:Nat,k<=n/\i=.int .i64 k/\Below w.heap.size w wr) (fun i _=>n-(intOf i).toNat)
  case atStart=>exact⟨0,Nat.zero_le _,rfl,Below.refl _ _⟩
  case round =>
   obtain⟨k,hk,rfl,hBw⟩:=hrel
   by_cases hkn:k<n
   ·obtain⟨x,hx⟩:∃ x,xs[k]? = some x:=⟨xs[k]'(by omega),by simp⟩
    obtain⟨y,hy⟩:∃ y,ys[k]? = some y:=⟨ys[k]'(by omega),by simp⟩
    obtain⟨g,rfl⟩:∃ g,p=some ⟨g,0,none⟩:=by
     rcases hA.2 with⟨h,h0⟩ | ⟨g,_,_,h,_⟩
     ·omega
     simp at h;exact⟨g,h.1⟩
    obtain⟨g',rfl⟩:∃ g,q=some ⟨g,0,none⟩:=by
     rcases hB.2 with⟨h,h0⟩ | ⟨g,_,_,h,_⟩
     ·omega
     simp at h;exact⟨g,h.1⟩
    obtain⟨x0,x1,x2,x3,x4,x5⟩:=Xm3 (ownsRow_below hA hBw) hx;obtain⟨y0,y1,y2,y3,y4,y5⟩:=Xm3 (ownsRow_below hB hBw) hy;have hnq:=Xsq x y;have hHx:=Xb hx;have hHy:=Xb hy;clear hx hy;obtain⟨a0,a1,a2,a3,a4,a5⟩:=x;obtain⟨b0,b1,b2,b3,b4,b5⟩:=y;simp only [InfoD.cells,Yb] at hnq x0 x1 x2 x3 x4 x5 y0 y1 y2 y3 y4 y5
    obtain⟨bq,hbq⟩:∃ bq,(!(a0==b0&&a1==b1&&a2==b2&&a3==b3&&a4==b4&&a5==b5))=bq:=⟨_,rfl⟩
    rw [hbq] at hnq
    have hsame:Hid (xs=ys->bq=false):=Xb (fun e=>by
     have h1:=Xa hHx;have h2:=Xa hHy;rw [e,h2] at h1
     obtain⟨e0,e1,e2,e3,e4,e5⟩:b0=a0/\b1=a1/\b2=a2/\b3=a3/\b4=a4/\b5=a5:=by simpa using h1
     rw [<- hbq,e0,e1,e2,e3,e4,e5]
     simp)
    clear hbq;cases bq
    ·go_wp2
     go_quiet (fail);go_wp2
     go_roundw
     case rel=>exact⟨k+1,by omega,rfl,below_drewN hBw _⟩
     case measure=>simp [intOf];omega
    go_wp2;go_quiet (fail);go_wp2;go_ret;exact⟨false,rfl,fun e=>absurd (Xa hsame e) (by simp),below_drewN hBw _⟩
   obtain rfl:k=n:=by omega
   go_wp2;go_ret;exact⟨true,rfl,fun _=>rfl,hBw⟩
 have hne:((n:Int)==(m:Int))=false:=by simp;omega
 go_enter func58,ntmps58;go_wp2;go_ret;exact⟨false,rfl,fun e=>absurd (by rw [<- hn,<- hm,e]) hnm,Below.refl _ _⟩
end Go.Proofs
namespace Go.Proofs
open Go.RowKit Go.Sort Go.Lib Go.Shelf
theorem Tryz.Xah:(prog.info? 105).map (fun i=>(i.zero,i.size,i.bytes))=some (some (.agg #[.bool false,.int .i64 0,.int .i64 0,.string ⟨#[]⟩,.int .u64 0,.int .u64 0,.bool false,.int .i64 0]),8,72):=by kernel_rfl
def Xga:ThingD:=⟨true,0,-1,[],18446744073709551615,0,false,0⟩
theorem Xac (L:List ThingD):∀ u∈X9 L,u.oneCell'=true:=by
 intro u hu;obtain⟨x,_,hx⟩:=List.mem_flatMap.1 hu;simp only [ThingD.cells,List.mem_cons,List.not_mem_nil,or_false] at hx
 rcases hx with rfl | rfl | rfl | rfl | rfl | rfl | rfl | rfl <;> rfl
theorem Xil {W:World} {b b' size n:Nat} {e:TypeId} {v:Value} {xs:List Value} (h:W.ownsRow b e size v n xs) (hb:b'<=b):W.ownsRow b' e size v n xs:=by
 obtain⟨h1,h2 | ⟨g,cap,cur,e1,e2,e3⟩⟩:=h
 ·exact⟨h1,.inl h2⟩
 exact⟨h1,.inr ⟨g,cap,cur,e1,Nat.le_trans hb e2,e3⟩⟩
theorem Tryz.rNew (now:Int) (w:World) :
  Calls prog 37 #[.int .u64 now] w fun e w'=>e=.returned (.pointer (some ⟨w.heap.size+1,0,none⟩))/\Xk w.heap.size w' (w.heap.size+1) w.heap.size 1 [Xga] now 1 1/\Below w.heap.size w w':=by
 go_enter func37,ntmps37;go_wp2;go_ret;refine⟨rfl,⟨?_,?_,?_,?_,?_⟩,?_⟩
 ·have:=BoxN.new (w.alloc (.cells Xga.cells 105)) 108 #[.slice (some ⟨w.heap.size,0,none⟩) 1 1,.int .u64 now,.int .i64 1,.int .i64 1]
  rw [World.size_alloc] at this;exact this
 ·refine⟨rfl,.inr ⟨w.heap.size,1,Xga.cells,rfl,Nat.le_refl _,?_,Nat.le_refl _,by unfold maxLen;omega,rfl,rfl⟩⟩
  exact(BoxN.new w 105 Xga.cells).alloc _
 ·show 1<=100;omega
 ·intro t ht;rw [List.mem_singleton.1 ht];show 0<9223372036854775808;omega
 ·intro t ht;rw [List.mem_singleton.1 ht];exact .inl rfl
 exact((Below.refl _ w).alloc (Nat.le_refl _) _).alloc (by simp) _
theorem Tryz.Xgm (B:Nat) (vb g cap:Nat) (L:List ThingD) (tm tn ln:Int) (w:World) (h:Xk B w vb g cap L tm tn ln) (hpos:0<L.length) :
  Calls prog 106 #[.pointer (some ⟨vb,0,none⟩)] w fun e w'=>∃ g' cap',e=.returned (.pointer (some ⟨w.heap.size,0,none⟩))/\Xk w.heap.size w' w.heap.size g' cap' L tm tn ln/\Below w.heap.size w w':=by
 obtain⟨i0,hi,hz0,hz1,hz2⟩:=info_parts Xah;have c0:=h.v.cell 0 (v:=.slice (some ⟨g,0,none⟩) L.length cap) rfl;have c1:=h.v.cell 1 (v:=.int .u64 tm) rfl;have c2:=h.v.cell 2 (v:=.int .i64 tn) rfl;have c3:=h.v.cell 3 (v:=.int .i64 ln) rfl;have lv:=h.v.lt;have lg:=h.glt;have hlim:=h.lim;go_enter func106,ntmps106
 go_wp2_with (at_builtin;refine wpList_append_own _ rfl _ _ 106 rfl (w.heap.size+1) 105 i0 _ 8 72 underlying106 hi hz0 hz1 hz2 rfl (by decide) _ _ _ rfl (World.ownsRow_nil _ _ _ _) ⟨g,0,none⟩ L.length cap (X9 L) rfl ?c0 ?c1 ?c2 ?c3 ?c4 ?c5 ?_)
 case c0=>exact Z3 L
 case c1 =>
  intro j u hj;have:=(h.row.alloc (.cells #[.slice (some ⟨g,0,none⟩) L.length cap,.int .u64 tm,.int .i64 tn,.int .i64 ln] 108)).cells (g:=g) rfl j u hj;exact this
 case c2=>exact Xac L
 case c3=>unfold maxLen;omega
 case c4=>omega
 case c5=>simp
 intro v' w2 hown hgrow hn
 have hne:v' ≠ .slice none 0 0:=fun e=>by have:=hn.1 e;rw [this] at hpos;exact absurd hpos (by simp)
 clear hn;obtain⟨hl,⟨e1,e2⟩ | ⟨g',cap',cur,rfl,e2,e3⟩⟩:=hown
 ·exact absurd e1 hne
 have hown:w2.ownsRow (w.heap.size+1) 105 8 (.slice (some ⟨g',0,none⟩) L.length cap') L.length (X9 L):=⟨hl,.inr ⟨g',cap',cur,rfl,e2,e3⟩⟩
 have bV:=(BoxN.new w 108 #[.slice (some ⟨g,0,none⟩) L.length cap,.int .u64 tm,.int .i64 tn,.int .i64 ln]).kept hgrow (by simp [Value.ownBlock]);have d0:=bV.cell 0 (v:=.slice (some ⟨g,0,none⟩) L.length cap) rfl;have f0:=bV.frozen 0;have hB2:Below w.heap.size w w2:=((Below.refl _ w).alloc (Nat.le_refl _) _).grown hgrow (by simp) (by intro k hk;simp [Value.ownBlock] at hk);have hF:Hid (Xk w.heap.size (w2.setCell ⟨w.heap.size,0,none⟩ (.slice (some ⟨g',0,none⟩) L.length cap')) w.heap.size g' cap' L tm tn ln/\Below w.heap.size w (w2.setCell ⟨w.heap.size,0,none⟩ (.slice (some ⟨g',0,none⟩) L.length cap'))):=Xb ⟨⟨bV.set 0 _,Xil (hown.kept (grownBy_setCell' w2 w.heap.size _) (.inr (by simp [Value.ownBlock];omega))) (by omega),h.lim,h.num,h.ofs⟩,hB2.setCell (p:=⟨w.heap.size,0,none⟩) (Nat.le_refl _) _⟩;clear hown e2 e3 hgrow hB2 hl hne bV c0 c1 c2 c3;go_wp2;go_ret;exact⟨g',cap',rfl,Xa hF⟩
theorem Zt (tm:Int) (id:List UInt8) (tk:Bool) (L:List ThingD):(∃(i:Nat) (t:ThingD),L[i]? = some t/\t.id=id/\t.token=tk/\t.state tm=1/\liveI tm id tk L=i)\/liveI tm id tk L = -1:=by
 cases he:L.findIdx? (fun t=>t.id==id) with
 | none=>exact .inr (by rw [liveI,he])
 | some i =>
  obtain⟨hlt,hid,-⟩:=List.findIdx?_eq_some_iff_getElem.1 he
  have hg:L[i]? = some L[i]:=by simp [hlt]
  by_cases hc:(L[i].token==tk&&L[i].state tm==1)=true
  ·refine .inl ⟨i,L[i],hg,by simpa using hid,?_,?_,?_⟩
   ·simp at hc;exact hc.1
   ·simp at hc;exact hc.2
   simp only [liveI,he,hg,hc,if_true]
  exact .inr (by simp only [liveI,he,hg,hc];rfl)
def authI (tm:Int) (id pth:List UInt8) (L:List ThingD):Bool:=match L.findIdx? (fun t=>t.id==id) with
 | some i=>match L[i]? with
  | some t=>(t.token==false&&t.state tm==1)&&t.pth==pth
  | none=>false
 | none=>false
theorem Xg0 {tm:Int} {id pth:List UInt8} {L:List ThingD} {i:Nat} {t:ThingD} (ht:L[i]? = some t) (hl:liveI tm id false L=i):authI tm id pth L=(t.pth==pth):=by
 unfold liveI at hl
 cases he:L.findIdx? (fun t=>t.id==id) with
 | none=>rw [he] at hl;simp at hl
 | some j =>
  rw [he] at hl;obtain⟨hlt,-⟩:=List.findIdx?_eq_some_iff_getElem.1 he
  have hg:L[j]? = some L[j]:=by simp [hlt]
  simp only [hg] at hl
  by_cases hc:(L[j].token==false&&L[j].state tm==1)=true
  ·rw [if_pos hc] at hl
   obtain rfl:j=i:=by omega
   rw [hg] at ht;cases ht;simp only [authI,he,hg,hc,Bool.true_and]
  rw [if_neg hc] at hl;omega
theorem Xeo {tm:Int} {id pth:List UInt8} {L:List ThingD} (hl:liveI tm id false L = -1):authI tm id pth L=false:=by
 unfold liveI at hl
 cases he:L.findIdx? (fun t=>t.id==id) with
 | none=>simp only [authI,he]
 | some j =>
  rw [he] at hl;obtain⟨hlt,-⟩:=List.findIdx?_eq_some_iff_getElem.1 he
  have hg:L[j]? = some L[j]:=by simp [hlt]
  simp only [hg] at hl
  by_cases hc:(L[j].token==false&&L[j].state tm==1)=true
  ·rw [if_pos hc] at hl;omega
  have hc':(L[j].token==false&&L[j].state tm==1)=false:=by simpa using hc
  simp only [authI,he,hg,hc',Bool.false_and]
theorem Tryz.rAuth (B:Nat) (vb g cap:Nat) (L:List ThingD) (tm tn ln:Int) (id pth:List UInt8) (w:World) (h:Xk B w vb g cap L tm tn ln) :
  Calls prog 117 #[.pointer (some ⟨vb,0,none⟩),.string ⟨id.toArray⟩,.string ⟨pth.toArray⟩] w fun e w'=>e=.returned (.bool (authI tm id pth L))/\Below w.heap.size w w':=by
 have hL:=Xcg B vb g cap L tm tn ln id false w h;have hlim:=h.lim
 rcases Zt tm id false L with⟨i,t,ht,-,-,-,hli⟩ | hli
 ·have hres:Hid (authI tm id pth L=(t.pth==pth)):=Xb (Xg0 ht hli)
  rw [hli] at hL;clear hli;have hil:i<L.length:=(List.getElem?_eq_some_iff.1 ht).1
  have hc:=fun W (hb:Below w.heap.size w W)=>((h.below hb).cells ht).2.2.2.1
  have hv:=fun W (hb:Below w.heap.size w W)=>(h.below hb).v.cell 0 (v:=.slice (some ⟨g,0,none⟩) L.length cap) rfl
  generalize L.length=len at *;generalize authI tm id pth L=res at *;generalize t.pth=tp at *
  have hnn:(0:Int)<=(i:Int):=by omega
  go_enter func117,ntmps117
  go_wp2_with (go_at_call 154;refine hL.mono ?_;rintro e w1 ⟨rfl,hb1⟩;have x3:=hc w1 hb1;have v0:=hv w1 hb1)
  go_ret;exact⟨by rw [Xa hres];rfl,hb1⟩
 have hres:Hid (authI tm id pth L=false):=Xb (Xeo hli);rw [hli] at hL;clear hli;generalize authI tm id pth L=res at *;go_enter func117,ntmps117
 go_wp2_with (go_at_call 154;refine hL.mono ?_;rintro e w1 ⟨rfl,hb1⟩)
 go_ret;exact⟨by rw [Xa hres];rfl,hb1⟩
def V7 (c:UInt8):Bool:=(97<=c.toNat&&c.toNat<=122)||(48<=c.toNat&&c.toNat<=57)||c.toNat==45
def Zk (st:Option Bool) (c:UInt8):Option Bool:=match st with
 | none=>none
 | some o=>if c.toNat=47 then (if o then some false else none) else if V7 c then some true else none
def pathI (s:List UInt8):Bool:=s.foldl Zk (some false)==some true&&decide (s.length<=24)
theorem Xbf (s:List UInt8):s.foldl Zk none=none:=by
 induction s with
 | nil=>rfl
 | cons c s ih=>exact ih
theorem Xap {s:List UInt8} {k:Nat} (h:(s.take k).foldl Zk (some false)=none):pathI s=false:=by
 have:s.foldl Zk (some false)=none:=by
  rw [<- List.take_append_drop k s,List.foldl_append,h,Xbf]
 simp [pathI,this]
theorem Xfb {s:List UInt8} {k:Nat} {c:UInt8} {o:Bool} (hk:s[k]? = some c) (h:(s.take k).foldl Zk (some false)=some o):(s.take (k+1)).foldl Zk (some false)=Zk (some o) c:=by
 rw [Zs hk,List.foldl_append,h];rfl
theorem Xc3 {c:UInt8} {b:Bool} (h:c.toNat≠47/\¬ ((97<=c.toNat/\c.toNat<=122)\/(48<=c.toNat/\c.toNat<=57)\/c.toNat=45)):Zk (some b) c=none:=by
 have hn:V7 c=false:=by
  cases hb:V7 c
  ·rfl
  exfalso
  simp [V7] at hb;omega
 simp only [Zk,if_neg h.1,hn];rfl
theorem Xeb {c:UInt8} {b:Bool} (h:c.toNat≠47/\((97<=c.toNat/\c.toNat<=122)\/(48<=c.toNat/\c.toNat<=57)\/c.toNat=45)):Zk (some b) c=some true:=by
 have hn:V7 c=true:=by
  simp [V7];omega
 simp only [Zk,if_neg h.1,hn,if_true]
theorem Xao {c:UInt8} {b:Bool} (h:c.toNat=47):Zk (some b) c=if b then some false else none:=by
 simp only [Zk,if_pos h]
theorem Tryz.Xca (s:List UInt8) (hs:s.length<=9223372036854775807) (w:World) :
  Calls prog 156 #[.string ⟨s.toArray⟩] w fun e w'=>e=.returned (.bool (pathI s))/\w'=w:=by
 go_enter func156,ntmps156;go_wp2
 go_loopw [3,4] (fun o i wr=>∃(k:Nat) (b:Bool),k<=s.length/\i=.int .i64 k/\o=.bool b/\Hid ((s.take k).foldl Zk (some false)=some b)/\wr=w) (fun _ i _=>s.length-(intOf i).toNat)
 case atStart=>exact⟨0,false,Nat.zero_le _,rfl,rfl,Xb rfl,rfl⟩
 case round =>
  obtain⟨k,b,hk,rfl,rfl,hst,rfl⟩:=hrel
  by_cases hkl:k<s.length
  ·obtain⟨c,hc⟩:∃ c,s[k]? = some c:=⟨s[k],by simp [hkl]⟩
   have hck:∀ hp,((⟨s.toArray⟩:ByteArray)[k]'hp)=c:=fun hp=>by
    have h1:s[k]'hkl=c:=by simpa [hkl] using hc
    rw [<- h1];rfl
   have HP:=Xb (fun o=>Xfb (o:=o) hc);clear hc;cases b
   all_goals
    go_wp2
    all_goals simp only [hck] at *
    all_goals try simp only [beq_iff_eq,beq_eq_false_iff_ne,bne_iff_ne,ne_eq,bne_eq_false_iff_eq] at *
   all_goals first
    | (go_ret;refine⟨?_,rfl⟩;rw [Xap (k:=k+1) (by rw [Xa HP _ (Xa hst)];first | exact Xc3 (by omega) | (rw [Xao (by omega)];rfl))];rfl)
    | (go_roundw;(case rel=>exact⟨k+1,_,by omega,rfl,rfl,Xb (by rw [Xa HP _ (Xa hst)];first | exact Xeb (by omega) | (rw [Xao (by omega)];rfl)),by first | rfl | trivial⟩);(case measure=>simp [intOf];omega))
  obtain rfl:k=s.length:=by omega
  have htk:=Xa hst;rw [List.take_length] at htk
  have hres:Hid (pathI s=(b&&decide (s.length<=24))):=Xb (by
   cases b <;> simp [pathI,htk])
  clear hst htk;cases b
  all_goals
   go_wp2;go_ret;refine⟨?_,rfl⟩;rw [Xa hres]
   first | rfl | (simp;try omega)
end Go.Proofs
namespace Go.Proofs
open Go.RowKit Go.Sort
def Yo (a b c d:Int):Value:=.agg #[.int .i64 a,.int .i64 b,.int .i64 c,.int .i64 d]
theorem BoxN.ne {W:World} {B B':Nat} {t t':TypeId} {cs cs':Array Value} (h:BoxN W B t cs) (h':BoxN W B' t' cs') (hne:t≠t'):B≠B':=by
 rintro rfl;have e:some (Obj.cells cs t (0,0))=some (Obj.cells cs' t' (0,0)):=h.symm.trans h';simp at e;exact hne e.2
theorem Tryz.Xss (w:World):Calls prog 16 #[] w fun e w'=>e=.returned (Yo (-1) (-1) 0 0)/\Below w.heap.size w w':=by
 unfold Yo;go_enter func16,ntmps16;go_wp2;exact bodyPost_ret (v:=.agg #[.int .i64 (-1),.int .i64 (-1),.int .i64 0,.int .i64 0]) (by simp [results,results16,go_sem]) rfl ⟨rfl,(Below.refl _ _).alloc (Nat.le_refl _) _⟩
theorem Yt (w:World) (db i k:Nat) (v:Value) (hd:k≠db):(w.setCell ⟨db,i,none⟩ v).heap[k]? = w.heap[k]?:=by
 show (w.heap.modify db _)[k]? = _
 rw [Array.getElem?_modify,if_neg (fun e=>hd e.symm)]
theorem Xg2 (w:World) (db i i':Nat) (v v':Value) (o:Obj):w.grownBy (((w.setCell ⟨db,i,none⟩ v).setCell ⟨db,i',none⟩ v').alloc o).drew (some db):=
 ⟨rfl,rfl,rfl,by simp [World.drew],fun k hk hne=>by
  have hd:k≠db:=fun e=>hne (by rw [e])
  show (((w.setCell ⟨db,i,none⟩ v).setCell ⟨db,i',none⟩ v').heap.push o)[k]? = _
  rw [Array.getElem?_push_lt (by simpa using hk),<- Array.getElem?_eq_getElem]
  rw [Yt _ _ _ _ _ hd,Yt _ _ _ _ _ hd]⟩
abbrev Tryz.Ui (hb db fb:Nat) (a b:Int) (W:World):Prop:=
 (W.cell? ⟨hb,0,none⟩=some (.pointer (some ⟨db,0,none⟩))/\W.cell? ⟨fb,0,none⟩=some (.int .i64 a)/\W.cell? ⟨fb,1,none⟩=some (.int .i64 b)) /\
 (W.cell? ⟨db,3,none⟩=some (X5 W ⟨db,3,none⟩)/\W.cell? ⟨db,4,none⟩=some (X5 W ⟨db,4,none⟩))/\W.frozen? ⟨db,3,none⟩=false/\W.frozen? ⟨db,4,none⟩=false
theorem Tryz.Ui.start {W:World} {hb db fb:Nat} {a b c d:Int} {cs ds:Array Value} (hs:W.heap.size=fb) (hH:BoxN W hb 78 cs) (h0:cs[0]? = some (.pointer (some ⟨db,0,none⟩))) (hD:BoxN W db 100 ds) (h6:ds.size=6) :
  Ui hb db fb a b (W.alloc (.cells #[.int .i64 a,.int .i64 b,.int .i64 c,.int .i64 d] 29)).drew:=by
 subst hs;have bF:=BoxN.new W 29 #[.int .i64 a,.int .i64 b,.int .i64 c,.int .i64 d];have bH:=hH.alloc (.cells #[.int .i64 a,.int .i64 b,.int .i64 c,.int .i64 d] 29);have bD:=hD.alloc (.cells #[.int .i64 a,.int .i64 b,.int .i64 c,.int .i64 d] 29);exact⟨⟨bH.cell 0 h0,bF.cell 0 rfl,bF.cell 1 rfl⟩,⟨Xg (by have h:=bD.cell 3 (v:=ds[3]) (by simp [h6]);show ((W.alloc _).cell? _).isSome;rw [h];rfl),Xg (by have h:=bD.cell 4 (v:=ds[4]) (by simp [h6]);show ((W.alloc _).cell? _).isSome;rw [h];rfl)⟩,bD.frozen 3,bD.frozen 4⟩
theorem Tryz.Ui.Xsj {w:World} {hb db:Nat} {a b c d:Int} {c1 c2 m1 m2 p l f dn:Value} (hH:BoxN w hb 78 #[.pointer (some ⟨db,0,none⟩),c1,c2]) (hD:BoxN w db 100 #[m1,m2,p,l,f,dn]) (hne:hb≠db) (i:Nat) (v:Value) :
  Ui hb db w.heap.size a b ((w.setCell ⟨db,i,none⟩ v).alloc (.cells #[.int .i64 a,.int .i64 b,.int .i64 c,.int .i64 d] 29)).drew:=
 Ui.start (by simp) (hH.other hne i v) rfl (hD.set i v) (by simp)
theorem Tryz.Ui.Xsk {w:World} {hb db:Nat} {a b c d:Int} {c1 c2 m1 m2 p l f dn:Value} (hH:BoxN w hb 78 #[.pointer (some ⟨db,0,none⟩),c1,c2]) (hD:BoxN w db 100 #[m1,m2,p,l,f,dn]) (hne:hb≠db) (i:Nat) (v:Value) (i':Nat) (v':Value) :
  Ui hb db w.heap.size a b (((w.setCell ⟨db,i,none⟩ v).setCell ⟨db,i',none⟩ v').alloc (.cells #[.int .i64 a,.int .i64 b,.int .i64 c,.int .i64 d] 29)).drew:=
 Ui.start (by simp) ((hH.other hne i v).other hne i' v') rfl ((hD.set i v).set i' v') (by simp)
theorem Tryz.before (hb db:Nat) (c1 c2 m1 m2 p l f dn:Value) (a b c d:Int) (w:World) (hH:BoxN w hb 78 #[.pointer (some ⟨db,0,none⟩),c1,c2]) (hD:BoxN w db 100 #[m1,m2,p,l,f,dn]) :
  Calls prog 40 #[.pointer (some ⟨hb,0,none⟩),Yo a b c d] w fun e w'=>e=.returned (.tuple #[])/\BoxN w' db 100 #[m1,m2,p,.int .i64 a,.int .i64 b,dn]/\w.grownBy w' (some db):=by
 have lH:=hH.lt;have lD:=hD.lt;have hne:=hH.ne hD (by decide);unfold Yo;go_enter func40,ntmps40;go_wp2
 go_region_held3 (Ui hb db w.heap.size a b) (first
  | with_reducible exact Ui.start rfl hH rfl hD rfl
  | with_reducible exact Ui.Xsj hH hD hne _ _
  | with_reducible exact Ui.Xsk hH hD hne _ _ _ _
  | with_reducible assumption) (fail)
 all_goals
  go_wp2
  go_end0
  exact⟨rfl,((hD.set 3 _).set 4 _).alloc _,Xg2 _ _ _ _ _ _ _⟩
theorem Tryz.after (hb db:Nat) (c1 c2 m1 m2 p l f:Value) (a b c d:Int) (w:World) (hH:BoxN w hb 78 #[.pointer (some ⟨db,0,none⟩),c1,c2]) (hD:BoxN w db 100 #[m1,m2,p,l,f,.bool false]) :
  Calls prog 42 #[.pointer (some ⟨hb,0,none⟩),Yo a b c d] w fun e w'=>e=.returned (.tuple #[])/\BoxN w' db 100 #[m1,m2,p,.int .i64 (-1),.int .i64 (-1),.bool false]/\w.grownBy w' (some db):=by
 have h0:=hH.cell 0 (v:=.pointer (some ⟨db,0,none⟩)) rfl;have d5:=hD.cell 5 (v:=.bool false) rfl;have lH:=hH.lt;have lD:=hD.lt;have hne:=hH.ne hD (by decide);unfold Yo;go_enter func42,ntmps42;go_wp2
 go_region_held3 (Ui hb db w.heap.size a b) (first
  | with_reducible exact Ui.start rfl hH rfl hD rfl
  | with_reducible exact Ui.Xsj hH hD hne _ _
  | with_reducible exact Ui.Xsk hH hD hne _ _ _ _
  | with_reducible assumption) (fail)
 all_goals
  go_wp2
  go_end0
  exact⟨rfl,((hD.set 3 _).set 4 _).alloc _,Xg2 _ _ _ _ _ _ _⟩
structure Spares (bs:List Nat) (W W':World):Prop where
 os:W'.os=W.os
 tape:W'.tape=W.tape
 output:W'.output=W.output
 size:W.heap.size<=W'.heap.size
 block:∀ k,k<W.heap.size->k∉bs->W'.heap[k]? = W.heap[k]?
section
variable {W W' W'':World} {bs:List Nat}
theorem Spares.of_below (h:Below W.heap.size W W'):Spares bs W W':=⟨h.os,h.tape,h.output,h.size,fun k hk _=>h.block k hk⟩
theorem Spares.X6 {b:Nat} (h:W.grownBy W' (some b)) (hb:b∈bs):Spares bs W W':=⟨h.os,h.tape,h.output,h.size,fun k hk hn=>h.block k hk (fun e=>hn (by injection e with e;rw [e];exact hb))⟩
theorem Spares.trans (h:Spares bs W W') (h':Spares bs W' W''):Spares bs W W'':=⟨h'.os.trans h.os,h'.tape.trans h.tape,h'.output.trans h.output,Nat.le_trans h.size h'.size,fun k hk hn=>(h'.block k (Nat.lt_of_lt_of_le hk h.size) hn).trans (h.block k hk hn)⟩
theorem Spares.mono {bs':List Nat} (h:Spares bs W W') (hs:∀ b∈bs,b∈bs'):Spares bs' W W':=⟨h.os,h.tape,h.output,h.size,fun k hk hn=>h.block k hk (fun e=>hn (hs k e))⟩
theorem Spares.box {B:Nat} {t:TypeId} {cs:Array Value} (h:Spares bs W W') (hB:BoxN W B t cs) (hn:B∉bs):BoxN W' B t cs:=(h.block B hB.lt hn).trans hB
theorem Spares.map {H:Type} {P:Program} {k:TypeId} {R:Value->Option (DataW H × List MemPlace)} {D:DataW H} {b n:Nat} (h:Spares bs W W') (hm:W.ownsMap P k R b n D) (hn:b∉bs):W'.ownsMap P k R b n D:=by
 have hl:=hm.lt;obtain⟨es,clock,hb,F,hs,hD⟩:=hm;exact⟨es,clock,(h.block b hl hn).trans hb,F,hs,hD⟩
theorem Spares.row {base size n g cap:Nat} {e:TypeId} {xs:List Value} (h:Spares bs W W') (hr:W.ownsRow base e size (.slice (some ⟨g,0,none⟩) n cap) n xs) (hn:g∉bs):W'.ownsRow base e size (.slice (some ⟨g,0,none⟩) n cap) n xs:=by
 obtain⟨h1,⟨e1,-⟩ | ⟨g',cap',cur,e1,e2,e3,e4⟩⟩:=hr
 ·cases e1
 cases e1;exact⟨h1,.inr ⟨g,cap,cur,rfl,e2,Spares.box (t:=e) (cs:=cur) h e3 hn,e4⟩⟩
theorem Spares.below {B:Nat} (h:Spares bs W W') (hB:B<=W.heap.size) (hn:∀ b∈bs,B<=b):Below B W W':=⟨h.os,h.tape,h.output,h.size,fun k hk=>h.block k (by omega) (fun e=>by have:=hn k e;omega)⟩
end
theorem Spares.set {bs:List Nat} {W W':World} (h:Spares bs W W') {b:Nat} (hb:b∈bs) (i:Nat) (v:Value):Spares bs W (W'.setCell ⟨b,i,none⟩ v):=
 ⟨h.os,h.tape,h.output,by simpa using h.size,fun k hk hn=>by rw [Yt _ _ _ _ _ (fun e=>hn (by rw [e];exact hb))];exact h.block k hk hn⟩
theorem Spares.alloc {bs:List Nat} {W W':World} (h:Spares bs W W') (o:Obj):Spares bs W (W'.alloc o):=h.trans (Spares.of_below ((Below.refl _ _).alloc (Nat.le_refl _) o))
theorem Spares.drew {bs:List Nat} {W W':World} (h:Spares bs W W'):Spares bs W W'.drew:=h.trans (Spares.of_below ((Below.refl _ _).drew))
end Go.Proofs
namespace Go.Proofs
open Go.RowKit Go.Sort Go.Lib Go.Shelf
theorem Xgh:∀(L:List ThingD) (i:Nat) (t:ThingD) (a:Int),L[i]? = some t->X9 (L.set i { t with at_:=a })=(X9 L).set (i*8+4) (.int .u64 a)
 | [],_,_,_,h=>by simp at h
 | x :: xs,0,t,a,h=>by
  obtain rfl:x=t:=by simpa using h
  show ({ x with at_:=a }:ThingD).cells.toList++X9 xs=(x.cells.toList++X9 xs).set (0*8+4) _
  rw [List.set_append_left _ _ (by rw [ThingD.cells_size];omega)];rfl
 | x :: xs,i+1,t,a,h=>by
  show x.cells.toList++X9 (xs.set i { t with at_:=a })=(x.cells.toList++X9 xs).set ((i+1)*8+4) _
  rw [List.set_append_right _ _ (by rw [ThingD.cells_size];omega),ThingD.cells_size,show (i+1)*8+4-8=i*8+4 by omega,Xgh xs i t a (by simpa using h)]
theorem Tryz.Xk.setAt {B:Nat} {W:World} {vb g cap:Nat} {L:List ThingD} {tm tn ln:Int} (h:Xk B W vb g cap L tm tn ln) (hne:vb≠g) {i:Nat} {t:ThingD} (hi:L[i]? = some t) (a:Int) :
  Xk B (W.setCell ⟨g,i*8+4,none⟩ (.int .u64 a)) vb g cap (L.set i { t with at_:=a }) tm tn ln:=by
 have hlen:(L.set i { t with at_:=a }).length=L.length:=List.length_set ..
 have hmem:∀ x∈L.set i { t with at_:=a },x∈L\/x = { t with at_:=a }:=fun x hx=>List.mem_or_eq_of_mem_set hx
 have htm:t∈L:=List.mem_of_getElem? hi;refine⟨?_,?_,?_,?_,?_⟩
 ·rw [hlen];exact h.v.other hne _ _
 ·rw [hlen]
  obtain⟨h1,⟨e1,-⟩ | ⟨g',cap',cur,e1,e2,e3,e4,e5,e6,e7⟩⟩:=h.row
  ·cases e1
  cases e1;refine⟨by rw [Z3,hlen],.inr ⟨g,cap,cur.setIfInBounds (i*8+4) (.int .u64 a),rfl,e2,?_,e4,e5,by simpa using e6,?_⟩⟩
  ·exact BoxN.set (W:=W) (t:=105) (cs:=cur) e3 (i*8+4) (.int .u64 a)
  rw [Array.toList_setIfInBounds,List.take_set,e7,Xgh L i t a hi]
 ·rw [hlen];exact h.lim
 ·intro x hx;rcases hmem x hx with hx | rfl
  ·exact h.num x hx
  exact h.num t htm
 intro x hx;rcases hmem x hx with hx | rfl
 ·exact h.ofs x hx
 exact h.ofs t htm
def V8 (tm ttl:Int) (t:ThingD):Int:=max t.at_ (min (plusI tm ttl) t.last)
theorem Xb5 {α:Type} {L:List α} {i:Nat} {t:α} (h:L[i]? = some t):L.set i t=L:=by
 obtain⟨hlt,he⟩:=List.getElem?_eq_some_iff.1 h;rw [<- he];exact List.set_getElem_self hlt
theorem Tryz.Xk.Xav {B:Nat} {W:World} {vb g cap:Nat} {L:List ThingD} {tm tn ln:Int} (h:Xk B W vb g cap L tm tn ln) (j:Nat):W.frozen? ⟨g,j,none⟩=false:=by
 obtain⟨h1,⟨e1,-⟩ | ⟨g',cap',cur,e1,e2,e3,-⟩⟩:=h.row
 ·cases e1
 cases e1;exact BoxN.frozen (W:=W) (t:=105) (cs:=cur) e3 j
theorem Tryz.Xl4 (B:Nat) (vb g cap:Nat) (L:List ThingD) (tm tn ln:Int) (id:List UInt8) (ttl:Int) (w:World) (h:Xk B w vb g cap L tm tn ln) (hB:B<=w.heap.size) (hne:vb≠g) (htm:0<=tm) (h0:0<=ttl) (h1:ttl<=18446744073709551615)
  (i:Nat) (t:ThingD) (ht:L[i]? = some t) (hli:liveI tm id false L=i) :
  Calls prog 112 #[.pointer (some ⟨vb,0,none⟩),.string ⟨id.toArray⟩,.int .u64 ttl] w fun e w'=>e=.returned (.tuple #[.int .u64 (V8 tm ttl t),.int .i64 0])/\Xk B w' vb g cap (L.set i { t with at_:=V8 tm ttl t }) tm tn ln/\Below B w w'/\Spares [vb,g] w w':=by
 have hL:=Xcg B vb g cap L tm tn ln id false w h;rw [hli] at hL
 have hP:=fun W=>Xgk tm ttl htm h0 h1 W
 have hlim:=h.lim;have hil:i<L.length:=(List.getElem?_eq_some_iff.1 ht).1;have hgB:B<=g:=(h.row.lt g rfl).1
 have hc:=fun W (hb:Below w.heap.size w W)=>(h.below hb).cells ht
 have hv:=fun W (hb:Below w.heap.size w W)=>(h.below hb).v.cell 0 (v:=.slice (some ⟨g,0,none⟩) L.length cap) rfl
 have hv1:=fun W (hb:Below w.heap.size w W)=>(h.below hb).v.cell 1 (v:=.int .u64 tm) rfl
 have hfz:=fun W (hb:Below w.heap.size w W)=>(h.below hb).Xav (i*8+4)
 have hset:=Xb (fun W (hb:Below w.heap.size w W)=>(h.below hb).setAt hne ht (V8 tm ttl t));have hsame:=Xb (fun W (hb:Below w.heap.size w W) (e:V8 tm ttl t=t.at_)=>(show Xk B W vb g cap (L.set i { t with at_:=V8 tm ttl t }) tm tn ln from by rw [e,Xb5 (show L[i]? = some { t with at_:=t.at_ } from ht)];exact h.below hb));have hr:Hid (V8 tm ttl t=max t.at_ (min (plusI tm ttl) t.last)):=Xb rfl;generalize hra:V8 tm ttl t=ra at *;clear hra;generalize plusI tm ttl=p at *
 obtain⟨len,hlen⟩:∃ len,L.length=len:=⟨_,rfl⟩
 rw [hlen] at hil hlim;simp only [hlen] at hv;clear hlen
 have hnn:¬ (i:Int)<0:=by omega
 by_cases hpl:t.last<p <;> by_cases hat:t.at_<(min p t.last)
 ·have hat':t.at_<t.last:=by omega
  obtain rfl:ra=t.last:=by have:=Xa hr;omega
  clear hr hat;go_enter func112,ntmps112
  go_wp2_with (first
   | (go_at_call 154;refine hL.mono ?_;rintro e w1 ⟨rfl,hb1⟩;obtain⟨x0,x1,x2,x3,x4,x5,x6,x7⟩:=hc w1 hb1;have v0:=hv w1 hb1;have v1:=hv1 w1 hb1;have fz:=hfz w1 hb1)
   | (go_at_call 153;refine(hP _).mono ?_;rintro e w2 ⟨rfl,rfl⟩))
  exact bodyPost_ret (v:=.tuple #[.int .u64 t.last,.int .i64 0]) (by simp [results,results112,go_sem]) rfl ⟨rfl,Xa hset _ hb1,(hb1.mono hB).setCell (p:=⟨g,i*8+4,none⟩) hgB _,(Spares.of_below hb1).set (by simp) _ _⟩
 ·have hat':¬ t.at_<t.last:=by omega
  obtain rfl:ra=t.at_:=by have:=Xa hr;omega
  clear hr hat;go_enter func112,ntmps112
  go_wp2_with (first
   | (go_at_call 154;refine hL.mono ?_;rintro e w1 ⟨rfl,hb1⟩;obtain⟨x0,x1,x2,x3,x4,x5,x6,x7⟩:=hc w1 hb1;have v0:=hv w1 hb1;have v1:=hv1 w1 hb1;have fz:=hfz w1 hb1)
   | (go_at_call 153;refine(hP _).mono ?_;rintro e w2 ⟨rfl,rfl⟩))
  exact bodyPost_ret (v:=.tuple #[.int .u64 t.at_,.int .i64 0]) (by simp [results,results112,go_sem]) rfl ⟨rfl,Xa hsame _ hb1 (by first | rfl | trivial),hb1.mono hB,Spares.of_below hb1⟩
 ·have hat':t.at_<p:=by omega
  obtain rfl:ra=p:=by have:=Xa hr;omega
  clear hr hat;go_enter func112,ntmps112
  go_wp2_with (first
   | (go_at_call 154;refine hL.mono ?_;rintro e w1 ⟨rfl,hb1⟩;obtain⟨x0,x1,x2,x3,x4,x5,x6,x7⟩:=hc w1 hb1;have v0:=hv w1 hb1;have v1:=hv1 w1 hb1;have fz:=hfz w1 hb1)
   | (go_at_call 153;refine(hP _).mono ?_;rintro e w2 ⟨rfl,rfl⟩))
  exact bodyPost_ret (v:=.tuple #[.int .u64 ra,.int .i64 0]) (by simp [results,results112,go_sem]) rfl ⟨rfl,Xa hset _ hb1,(hb1.mono hB).setCell (p:=⟨g,i*8+4,none⟩) hgB _,(Spares.of_below hb1).set (by simp) _ _⟩
 have hat':¬ t.at_<p:=by omega
 obtain rfl:ra=t.at_:=by have:=Xa hr;omega
 clear hr hat;go_enter func112,ntmps112
 go_wp2_with (first
  | (go_at_call 154;refine hL.mono ?_;rintro e w1 ⟨rfl,hb1⟩;obtain⟨x0,x1,x2,x3,x4,x5,x6,x7⟩:=hc w1 hb1;have v0:=hv w1 hb1;have v1:=hv1 w1 hb1;have fz:=hfz w1 hb1)
  | (go_at_call 153;refine(hP _).mono ?_;rintro e w2 ⟨rfl,rfl⟩))
 exact bodyPost_ret (v:=.tuple #[.int .u64 t.at_,.int .i64 0]) (by simp [results,results112,go_sem]) rfl ⟨rfl,Xa hsame _ hb1 (by first | rfl | trivial),hb1.mono hB,Spares.of_below hb1⟩
theorem Tryz.Xj8 (B:Nat) (vb g cap:Nat) (L:List ThingD) (tm tn ln:Int) (id:List UInt8) (ttl:Int) (w:World) (h:Xk B w vb g cap L tm tn ln) (hli:liveI tm id false L = -1) :
  Calls prog 112 #[.pointer (some ⟨vb,0,none⟩),.string ⟨id.toArray⟩,.int .u64 ttl] w fun e w'=>e=.returned (.tuple #[.int .u64 0,.int .i64 5])/\Below w.heap.size w w':=by
 have hL:=Xcg B vb g cap L tm tn ln id false w h;rw [hli] at hL;go_enter func112,ntmps112
 go_wp2_with (go_at_call 154;refine hL.mono ?_;rintro e w1 ⟨rfl,hb1⟩)
 exact bodyPost_ret (v:=.tuple #[.int .u64 0,.int .i64 5]) (by simp [results,results112,go_sem]) rfl ⟨rfl,hb1⟩
end Go.Proofs
