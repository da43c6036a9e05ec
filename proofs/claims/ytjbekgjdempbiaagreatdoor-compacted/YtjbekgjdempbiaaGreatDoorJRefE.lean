import Derived.Test.YtjbekgjdempbiaaGreatDoorJAll
import Derived.Test.YtjbekgjdempbiaaGreatDoorJRefC
set_option maxRecDepth 100000
set_option maxHeartbeats 8000000
namespace Go.Proofs
open Go.RowKit Go.Sort Go.Lib Go.Shelf Go.Maps
attribute [local go_sem] Oper.semAt_some
def Ux (xs:List InfoD):List Value:=xs.flatMap fun x=>x.cells.toList
theorem Xhd (xs:List InfoD) (x:InfoD):Ux (xs ++ [x])=Ux xs++x.cells.toList:=by simp [Ux]
theorem Tryz.Xlb:(prog.info? 49).map (fun i=>(i.zero,i.size,i.bytes))=some (some (.agg #[.string ⟨#[]⟩,.int .i64 0,.int .u64 0,.int .i64 0,.string ⟨#[]⟩,.string ⟨#[]⟩]),6,72):=by kernel_rfl
def Tryz.Xgg (t:TypeId):Bool:=t==45||t==49
theorem Tryz.Xnc:Good Xgg:=⟨by decide,by decide,by decide,by decide,by decide,by decide,by decide,by decide⟩
def Tryz.badNext (t:TypeId):Bool:=t==31
structure Tryz.X0 (W:World) (vb mt ml:Nat) (vx:VX) (tm tn ln:Int) (tks:List Xe) (lks:List Xd):Prop where
 v:BoxN W vb 126 (Tryz.Yp vx tm mt ml tn ln)
 held:Tryz.Ui W mt ml tks lks
 ok:X5 tks lks
 env:Tryz.Env W
 six:6<=W.heap.size
theorem Tryz.X0.below {W W':World} {vb mt ml:Nat} {vx:VX} {tm tn ln:Int} {tks:List Xe} {lks:List Xd} (h:X0 W vb mt ml vx tm tn ln tks lks) (hb:Below W.heap.size W W'):X0 W' vb mt ml vx tm tn ln tks lks:=
 ⟨h.v.below hb h.v.lt,h.held.keeps (KeepsT.below (bad:=fun _=>false) hb),h.ok,h.env.below hb h.six,Nat.le_trans h.six hb.size⟩
theorem InfoD.cells_size (x:InfoD):x.cells.toList.length=6:=rfl
theorem Xef (w:World) (a b c d e f:Value) (t:TypeId):∀ j u,[a,b,c,d,e,f][j]? = some u->(w.alloc (.cells #[a,b,c,d,e,f] t)).cell? ((⟨w.heap.size,0,none⟩:Addr).add j)=some u:=by
 intro j u hj
 match j,hj with
 | 0,hj=>simp at hj;subst hj;simp [Addr.add]
 | 1,hj=>simp at hj;subst hj;simp [Addr.add]
 | 2,hj=>simp at hj;subst hj;simp [Addr.add]
 | 3,hj=>simp at hj;subst hj;simp [Addr.add]
 | 4,hj=>simp at hj;subst hj;simp [Addr.add]
 | 5,hj=>simp at hj;subst hj;simp [Addr.add]
 | (k+6),hj=>simp at hj
theorem BoxN.not_row {W:World} {B:Nat} {t e:TypeId} {cs:Array Value} {n₀ size k:Nat} {v:Value} {xs:List Value} (h:BoxN W B t cs) (hte:t≠e) (hrow:W.ownsRow n₀ e size v k xs):some B≠v.ownBlock:=by
 rcases hrow.2 with⟨rfl,_⟩ | ⟨g,cap,cur,rfl,_,hgb,_⟩
 ·simp [Value.ownBlock]
 intro e'
 have:B=g:=by simpa [Value.ownBlock] using e'
 subst this;rw [show W.heap[B]? = _ from h] at hgb;simp only [Option.some.injEq,Obj.cells.injEq] at hgb;exact hte hgb.2.1
theorem KeepsT.Xj9 {bad:TypeId->Bool} {W W':World} {n₀ size k:Nat} {e:TypeId} {v:Value} {xs:List Value} (hrow:W.ownsRow n₀ e size v k xs) (he:bad e=true) (hg:W.grownBy W' v.ownBlock):KeepsT bad W W':=
 KeepsT.grown hg (fun j ej o ho=>by
  rcases hrow.2 with⟨rfl,_⟩ | ⟨g,cap,cur,rfl,_,hgb,_⟩
  ·simp [Value.ownBlock] at ej
  obtain rfl:g=j:=by simpa [Value.ownBlock] using ej
  rw [hgb] at ho;cases ho
  simp [Xaw,he])
theorem KeepsT.Xj7 {bad:TypeId->Bool} {W:World} {B:Nat} {t:TypeId} {v:Value} (hb:Boxed W B t v) (ht:bad t=true) (v':Value):KeepsT bad W (W.setCell ⟨B,0,none⟩ v'):=
 KeepsT.grown (grownBy_setCell' W B v') (fun j ej o ho=>by
  cases ej;rw [show W.heap[B]? = _ from hb] at ho;cases ho
  simp [Xaw,ht])
theorem Tryz.Xoc (hb vb mt ml:Nat) (vx:VX) (tm tn ln:Int) (tks:List Xe) (lks:List Xd) (w:World) (dv rv:Value) (hH:BoxN w hb 78 #[dv,rv,.pointer (some ⟨vb,0,none⟩)]) (hV:X0 w vb mt ml vx tm tn ln tks lks) :
  CallsIn Fence.wide 9 prog 24 #[.pointer (some ⟨hb,0,none⟩),.int .i64 0] w fun e w'=>∃ v:Value,e=.returned (.tuple #[v,.bool true])/\w'.ownsRow w.heap.size 49 6 v (Yi tm tks lks).length (Ux (Yi tm tks lks))/\Below w.heap.size w w':=by
 obtain⟨i0,hi,hz0,hz1,hz2⟩:=info_parts Xlb;have hfa:Fence.wide.fn 48:=trivial;have c2:=hH.cell 2 (v:=.pointer (some ⟨vb,0,none⟩)) rfl;have lH:=hH.lt
 have hnf:∀(p:Addr) (W:World),Sem.run prog (binOp .eql 90 (.func (.func 78) #[] #[.pointer (some p)]) .nilFunc) W=.ok (.bool false) W:=fun _ _=>by kernel_rfl
 refine callsIn_of_wp_marks func24 rfl trivial ?_ rfl;simp only [ntmps24,List.size_toArray,List.length_cons,List.length_nil,Nat.reduceAdd,Nat.reduceSub,Array.replicate_succ,Array.replicate_zero,List.push_toArray,List.append_toArray,List.nil_append,List.cons_append]
 gi_wp2_with (gi_at_call 48;refine(callsIn_wide.2 (vAll vb _)).mono ?_;rintro e w' ⟨rfl,rfl⟩)
 clear hnf c2;have bZ:=((BoxN.new w 3 #[.int .i64 0]).alloc (.cells #[.pointer (some ⟨vb,0,none⟩)] 76)).alloc (.cells #[.slice none 0 0] 45);have bV:=(BoxN.new (w.alloc (.cells #[.int .i64 0] 3)) 76 #[.pointer (some ⟨vb,0,none⟩)]).alloc (.cells #[.slice none 0 0] 45);have bL:=Boxed.new ((w.alloc (.cells #[.int .i64 0] 3)).alloc (.cells #[.pointer (some ⟨vb,0,none⟩)] 76)) 45 (.slice none 0 0);have hB0:Below w.heap.size w (((w.alloc (.cells #[.int .i64 0] 3)).alloc (.cells #[.pointer (some ⟨vb,0,none⟩)] 76)).alloc (.cells #[.slice none 0 0] 45)):=(((Below.refl _ w).alloc (Nat.le_refl _) _).alloc (by simp) _).alloc (by simp;omega) _
 have hsz:(((w.alloc (.cells #[.int .i64 0] 3)).alloc (.cells #[.pointer (some ⟨vb,0,none⟩)] 76)).alloc (.cells #[.slice none 0 0] 45)).heap.size=w.heap.size+3:=by simp
 simp only [World.size_alloc] at bV bL;have hV0:=hV.below hB0
 obtain⟨W0,hW0⟩:∃ W0,((w.alloc (.cells #[.int .i64 0] 3)).alloc (.cells #[.pointer (some ⟨vb,0,none⟩)] 76)).alloc (.cells #[.slice none 0 0] 45)=W0:=⟨_,rfl⟩
 rw [hW0] at bZ bV bL hB0 hsz hV0 ⊢;clear hW0
 have hlen:(Yi tm tks lks).length<=1000:=by have:=hV.ok.lenT;have:=hV.ok.lenL;simp [Yi];omega
 refine Uv (n:=9) (by omega) (gf:=78) (lb:=#[.pointer (some ⟨w.heap.size+1,0,none⟩)]) rfl Xl3
  (Xls 8 (by omega) Xgg Xnc (w.heap.size+1) vb mt ml vx tm tn ln tks lks hV.ok W0 bV hV0.v hV0.held) Jl Jk (Below.refl _ _) (fun _=>rfl)
  (fun pre V=>((∃ v,Boxed V (w.heap.size+1+1) 45 v/\V.ownsRow w.heap.size 49 6 v pre.length (Ux pre)/\(v=.slice none 0 0↔pre = []))/\BoxN V w.heap.size 3 #[.int .i64 0])/\Below w.heap.size w V)
  (fun _ _ _=>False)
  (OwnFrom.and (OwnFrom.and (Own.from (holdsRow_own _ _ _ _ _ (fun pre:List InfoD=>pre.length) (fun pre=>Ux pre) (fun pre v=>(v=.slice none 0 0↔pre = []))) _) (Own.from (X6 _ _ (fun _=>#[.int .i64 0])) _)) (ownFrom_below (Nat.le_refl _) (by omega)))
  (fun _ _ _ _ _ hs _ _=>hs)
  (fun s V hs=>⟨hV.env.below hs.2 hV.six,Nat.le_trans hV.six hs.2.size⟩)
  ⟨⟨⟨_,bL,World.ownsRow_nil _ _ _ _,by simp⟩,bZ⟩,hB0⟩
  (fun x a' V=>∃ Bx,w.heap.size+1+1<Bx/\BoxN V Bx 49 x.cells/\a' = { tmps:=#[.pointer (some ⟨hb,0,none⟩),.int .i64 0,undef,.pointer (some ⟨w.heap.size,0,none⟩),.slice none 0 0,.bool false,.func (.func 78) #[] #[.pointer (some ⟨w.heap.size+1,0,none⟩)],.pointer (some ⟨w.heap.size+1+1,0,none⟩),.pointer (some ⟨Bx,0,none⟩),.pointer (some ⟨hb,0,none⟩),.pointer (some ⟨hb,0,none⟩),.pointer (some ⟨hb,2,none⟩),.pointer (some ⟨vb,0,none⟩),.bool false,.pointer (some ⟨hb,0,none⟩),.pointer (some ⟨hb,0,none⟩),.pointer (some ⟨hb,2,none⟩),.pointer (some ⟨vb,0,none⟩),.func (.func 78) #[] #[.pointer (some ⟨w.heap.size+1,0,none⟩)],.func (.func 78) #[] #[.pointer (some ⟨w.heap.size+1,0,none⟩)],.bool false,.func (.func 78) #[] #[.pointer (some ⟨w.heap.size+1,0,none⟩)],.agg x.cells,undef,undef,undef,undef,undef,undef,undef,undef,undef],defers:=[] })
  (fun x a' _ X Y row hs hg hr=>by obtain⟨Bx,h1,h2,h3⟩:=hs;exact⟨Bx,h1,X6 Bx 49 (fun(_:Unit)=>x.cells) () X Y row h2 hg (fun r e=>(hr r e).2),h3⟩)
  ?assign ?body ?done ?stop
 case assign =>
  rintro l pre x V K ⟨⟨⟨v,b1,hr1,hnil⟩,bz⟩,hB1⟩ hK;obtain⟨id,st,at_,tr,tok,pth⟩:=x;simp only [InfoD.cells,Ym]
  gi_wp2
  exact hK _ _ ((KeepsOthers.alloc _ _).from _) (KeepsT.alloc _ _) ⟨⟨⟨v,b1.alloc _,hr1.alloc _,hnil⟩,bz.alloc _⟩,hB1.alloc hB1.size _⟩ ⟨V.heap.size,b1.lt,BoxN.new V 49 _,rfl⟩
 case body =>
  rintro l pre x a' V hl ⟨⟨⟨v,b1,hr1,hnil⟩,bz⟩,hB1⟩ ⟨Bx,hBx,bX,rfl⟩ hlt;have hfl:=Xhd pre x;obtain⟨id,st,at_,tr,tok,pth⟩:=x;simp only [InfoD.cells,Ym] at bX hfl ⊢;have HF:=Xb hfl;clear hfl;have cS:=b1.cell;have cz:=bz.cell 0 (v:=.int .i64 0) rfl
  have hne0:(((pre.length:Int)+1)==0)=false:=by rw [beq_eq_false_iff_ne];omega
  have x0:=bX.cell 0 (v:=.string ⟨id.toArray⟩) rfl;have x1:=bX.cell 1 (v:=.int .i64 st) rfl;have x2:=bX.cell 2 (v:=.int .u64 at_) rfl;have x3:=bX.cell 3 (v:=.int .i64 tr) rfl;have x4:=bX.cell 4 (v:=.string ⟨tok.toArray⟩) rfl;have x5:=bX.cell 5 (v:=.string ⟨pth.toArray⟩) rfl;have bz0:=bz.alloc (.cells #[.string ⟨id.toArray⟩,.int .i64 st,.int .u64 at_,.int .i64 tr,.string ⟨tok.toArray⟩,.string ⟨pth.toArray⟩] 49);have hnr:Hid (some w.heap.size≠v.ownBlock):=bz0.not_row (e:=49) (by decide) (hr1.alloc _)
  gi_wp2_with (gi_at_builtin;refine wpListIn_append_own _ rfl _ _ 45 rfl w.heap.size 49 i0 _ 6 72 underlying45 hi hz0 hz1 hz2 rfl (by decide) _ _ _ rfl (hr1.alloc _) ⟨V.heap.size,0,none⟩ 1 1 [.string ⟨id.toArray⟩,.int .i64 st,.int .u64 at_,.int .i64 tr,.string ⟨tok.toArray⟩,.string ⟨pth.toArray⟩] rfl rfl (Xef _ _ _ _ _ _ _ _) (by simp [Value.oneCell']) (by unfold maxLen;omega) (by omega) (by have:=hB1.size;simp;omega) ?_;intro v' w1 hown' hgrow hn';obtain⟨g',cap',rfl⟩:=ownsRow_succ hown';obtain⟨hv1,hv2,hr2,hk2,hb2⟩:=b1.appended (by decide) hr1 hB1.size (by omega) hown' hgrow;have hc1:=hv1.cell;have hf1:=hv1.frozen;have bz1:=bz0.kept hgrow hnr;have cz1:=bz1.cell 0 (v:=.int .i64 0) rfl)
  have hkT:=((KeepsT.alloc (bad:=Xgg) V (.cells #[.string ⟨id.toArray⟩,.int .i64 st,.int .u64 at_,.int .i64 tr,.string ⟨tok.toArray⟩,.string ⟨pth.toArray⟩] 49)).trans (KeepsT.Xj9 (hr1.alloc _) (by decide) hgrow)).trans (KeepsT.Xj7 hv1 (by decide) (.slice (some ⟨g',0,none⟩) (pre.length+1) cap'));exact⟨hk2.from _,hkT,⟨⟨_,hv2,by rw [show Ux _=_ from Xa HF,List.length_append];exact hr2,by simp⟩,bz1.other (by omega) _ _⟩,hB1.trans hb2⟩
 case done =>
  rintro D zs V hD rfl ⟨⟨⟨v,b1,hr1,hnil⟩,bz⟩,hB1⟩ hK;have cS:=b1.cell
  gi_wp2
  refine⟨by simp,.inl ⟨_,_,rfl,run_takeDeferred hK,?_⟩⟩;exact⟨_,by simp [results,results24,go_sem],v,rfl,ownsRow_putObj hr1 _ hK rfl,hB1.trans (belowK_b (w:=w) (Nat.le_refl _) V D _ _ (by omega) hK rfl rfl)⟩
 case stop =>
  rintro D c pre V _ _ h _;exact h.elim
end Go.Proofs
namespace Go.Proofs
open Go.RowKit Go.Sort Go.Lib Go.Shelf
def Xmb (tm:Int) (b:Bool) (L:List Xm):List InfoD:=(L.filter (fun t=>t.token==b)).map (Xm.info tm)
def tellI (tm:Int) (L:List Xm):List InfoD:=Xmb tm true L++Xmb tm false L
def uptoI (tm:Int) (L:List Xm) (k:Nat):List InfoD:=match k with | 0=>[] | 1=>Xmb tm true L | _=>tellI tm L
theorem ownsRow_below {W W':World} {base size n:Nat} {e:TypeId} {v:Value} {xs:List Value} (h:W.ownsRow base e size v n xs) (hb:Below W.heap.size W W'):W'.ownsRow base e size v n xs:=
 h.kept (row:=none) ⟨hb.os,hb.tape,hb.output,hb.size,fun k hk _=>hb.block k hk⟩ (by by_cases h:v.ownBlock=none;exact .inl h;exact .inr h)
def rootT:Xm:=⟨true,0,-1,[],18446744073709551615,0,false,0⟩
def authI (tm:Int) (id pth:List UInt8) (L:List Xm):Bool:=match L.findIdx? (fun t=>t.id==id) with
 | some i=>match L[i]? with
  | some t=>(t.token==false&&t.state tm==1)&&t.pth==pth
  | none=>false
 | none=>false
end Go.Proofs
