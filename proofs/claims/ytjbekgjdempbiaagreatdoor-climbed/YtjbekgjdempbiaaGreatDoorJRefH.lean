import Derived.Test.YtjbekgjdempbiaaGreatDoorJAll
import Derived.Test.YtjbekgjdempbiaaGreatDoorJRounds
import Derived.Test.YtjbekgjdempbiaaGreatDoorProg
import Derived.Test.YtjbekgjdempbiaaGreatDoorJMapOps
import Derived.WalkKit
import Derived.WalkSpells
import Derived.Deep.RegionHeld3
import Derived.Maps.OwnSet
set_option maxRecDepth 100000
set_option maxHeartbeats 8000000
namespace Go.Proofs
open Go.RowKit Go.Sort Go.Lib Go.Shelf Go.Maps
attribute [local go_sem] Oper.semAt_some
def flatI (xs:List InfoD):List Value:=xs.flatMap fun x=>x.cells.toList
def Tryz.badAll (t:TypeId):Bool:=t==45||t==49
def Tryz.badNext (t:TypeId):Bool:=t==31
structure Tryz.VaultAt (W:World) (vb mt ml:Nat) (vx:VX) (tm tn ln:Int) (tks:List TokE) (lks:List LeaE):Prop where
 v:BoxN W vb 126 (Tryz.vaultC vx tm mt ml tn ln)
 held:Tryz.Held W mt ml tks lks
 ok:ListsOk tks lks
 env:Tryz.Env W
 six:6≤W.heap.size
theorem Tryz.VaultAt.below {W W':World} {vb mt ml:Nat} {vx:VX} {tm tn ln:Int} {tks:List TokE} {lks:List LeaE} (h:VaultAt W vb mt ml vx tm tn ln tks lks) (hb:Below W.heap.size W W'):VaultAt W' vb mt ml vx tm tn ln tks lks:=
 ⟨h.v.below hb h.v.lt,h.held.keeps (KeepsT.below (bad:=fun _=>false) hb),h.ok,h.env.below hb h.six,Nat.le_trans h.six hb.size⟩
theorem InfoD.cells_size (x:InfoD):x.cells.toList.length=6:=rfl
theorem BoxN.not_row {W:World} {B:Nat} {t e:TypeId} {cs:Array Value} {n₀ size k:Nat} {v:Value} {xs:List Value} (h:BoxN W B t cs) (hte:t≠e) (hrow:W.ownsRow n₀ e size v k xs):some B≠v.ownBlock:=by
 rcases hrow.2 with⟨rfl,_⟩ | ⟨g,cap,cur,rfl,_,hgb,_⟩
 ·simp [Value.ownBlock]
 ·intro e'
  have:B=g:=by simpa [Value.ownBlock] using e'
  subst this;rw [show W.heap[B]? = _ from h] at hgb;simp only [Option.some.injEq,Obj.cells.injEq] at hgb;exact hte hgb.2.1
end Go.Proofs
namespace Go.Proofs
open Go.RowKit Go.Sort Go.Lib Go.Shelf
def partI (tm:Int) (b:Bool) (L:List ThingD):List InfoD:=(L.filter (fun t=>t.token==b)).map (ThingD.info tm)
def tellI (tm:Int) (L:List ThingD):List InfoD:=partI tm true L++partI tm false L
def uptoI (tm:Int) (L:List ThingD) (k:Nat):List InfoD:=match k with | 0=>[] | 1=>partI tm true L | _=>tellI tm L
theorem ownsRow_below {W W':World} {base size n:Nat} {e:TypeId} {v:Value} {xs:List Value} (h:W.ownsRow base e size v n xs) (hb:Below W.heap.size W W'):W'.ownsRow base e size v n xs:=
 h.kept (row:=none) ⟨hb.os,hb.tape,hb.output,hb.size,fun k hk _=>hb.block k hk⟩ (by by_cases h:v.ownBlock=none;exact .inl h;exact .inr h)
def rootT:ThingD:=⟨true,0,-1,[],18446744073709551615,0,false,0⟩
def authI (tm:Int) (id pth:List UInt8) (L:List ThingD):Bool:=match L.findIdx? (fun t=>t.id==id) with
 | some i=>match L[i]? with
  | some t=>(t.token==false&&t.state tm==1)&&t.pth==pth
  | none=>false
 | none=>false
def nameCh (c:UInt8):Bool:=(97≤c.toNat&&c.toNat≤122)||(48≤c.toNat&&c.toNat≤57)||c.toNat==45
def pstep (st:Option Bool) (c:UInt8):Option Bool:=match st with
 | none=>none
 | some o=>if c.toNat=47 then (if o then some false else none) else if nameCh c then some true else none
def pathI (s:List UInt8):Bool:=s.foldl pstep (some false)==some true&&decide (s.length≤24)
theorem pstep_none (s:List UInt8):s.foldl pstep none=none:=by
 induction s with
 | nil=>rfl
 | cons c s ih=>exact ih
theorem pathI_cut {s:List UInt8} {k:Nat} (h:(s.take k).foldl pstep (some false)=none):pathI s=false:=by
 have:s.foldl pstep (some false)=none:=by
  rw [← List.take_append_drop k s,List.foldl_append,h,pstep_none]
 simp [pathI,this]
theorem pstep_take {s:List UInt8} {k:Nat} {c:UInt8} {o:Bool} (hk:s[k]? = some c) (h:(s.take k).foldl pstep (some false)=some o):(s.take (k+1)).foldl pstep (some false)=pstep (some o) c:=by
 rw [take_get hk,List.foldl_append,h];rfl
theorem pstep_bad {c:UInt8} {b:Bool} (h:c.toNat≠47∧¬ ((97≤c.toNat∧c.toNat≤122)∨(48≤c.toNat∧c.toNat≤57)∨c.toNat=45)):pstep (some b) c=none:=by
 have hn:nameCh c=false:=by
  cases hb:nameCh c
  ·rfl
  ·exfalso
   simp [nameCh] at hb;omega
 simp only [pstep,if_neg h.1,hn];rfl
theorem pstep_good {c:UInt8} {b:Bool} (h:c.toNat≠47∧((97≤c.toNat∧c.toNat≤122)∨(48≤c.toNat∧c.toNat≤57)∨c.toNat=45)):pstep (some b) c=some true:=by
 have hn:nameCh c=true:=by
  simp [nameCh];omega
 simp only [pstep,if_neg h.1,hn,if_true]
theorem pstep_bar {c:UInt8} {b:Bool} (h:c.toNat=47):pstep (some b) c=if b then some false else none:=by
 simp only [pstep,if_pos h]
end Go.Proofs
namespace Go.Proofs
open Go.RowKit Go.Sort
def fallV (a b c d:Int):Value:=.agg #[.int .i64 a,.int .i64 b,.int .i64 c,.int .i64 d]
theorem BoxN.ne {W:World} {B B':Nat} {t t':TypeId} {cs cs':Array Value} (h:BoxN W B t cs) (h':BoxN W B' t' cs') (hne:t≠t'):B≠B':=by
 rintro rfl;have e:some (Obj.cells cs t (0,0))=some (Obj.cells cs' t' (0,0)):=h.symm.trans h';simp at e;exact hne e.2
theorem Tryz.well (w:World):Calls prog 16 #[] w fun e w'=>e=.returned (fallV (-1) (-1) 0 0)∧Below w.heap.size w w':=by
 unfold fallV;go_enter func16,ntmps16;go_wp2;exact bodyPost_ret (v:=.agg #[.int .i64 (-1),.int .i64 (-1),.int .i64 0,.int .i64 0]) (by simp [results,results16,go_sem]) rfl ⟨rfl,(Below.refl _ _).alloc (Nat.le_refl _) _⟩
theorem set_other (w:World) (db i k:Nat) (v:Value) (hd:k≠db):(w.setCell ⟨db,i,none⟩ v).heap[k]? = w.heap[k]?:=by
 show (w.heap.modify db _)[k]? = _
 rw [Array.getElem?_modify,if_neg (fun e=>hd e.symm)]
theorem grown_two (w:World) (db i i':Nat) (v v':Value) (o:Obj):w.grownBy (((w.setCell ⟨db,i,none⟩ v).setCell ⟨db,i',none⟩ v').alloc o).drew (some db):=
 ⟨rfl,rfl,rfl,by simp [World.drew],fun k hk hne=>by
  have hd:k≠db:=fun e=>hne (by rw [e])
  show (((w.setCell ⟨db,i,none⟩ v).setCell ⟨db,i',none⟩ v').heap.push o)[k]? = _
  rw [Array.getElem?_push_lt (by simpa using hk),← Array.getElem?_eq_getElem]
  rw [set_other _ _ _ _ _ hd,set_other _ _ _ _ _ hd]⟩
abbrev Tryz.FallP (hb db fb:Nat) (a b:Int) (W:World):Prop:=
 (W.cell? ⟨hb,0,none⟩=some (.pointer (some ⟨db,0,none⟩))∧W.cell? ⟨fb,0,none⟩=some (.int .i64 a)∧W.cell? ⟨fb,1,none⟩=some (.int .i64 b)) ∧
 (W.cell? ⟨db,3,none⟩=some (cellOr W ⟨db,3,none⟩)∧W.cell? ⟨db,4,none⟩=some (cellOr W ⟨db,4,none⟩))∧W.frozen? ⟨db,3,none⟩=false∧W.frozen? ⟨db,4,none⟩=false
theorem Tryz.FallP.start {W:World} {hb db fb:Nat} {a b c d:Int} {cs ds:Array Value} (hs:W.heap.size=fb) (hH:BoxN W hb 78 cs) (h0:cs[0]? = some (.pointer (some ⟨db,0,none⟩))) (hD:BoxN W db 100 ds) (h6:ds.size=6) :
  FallP hb db fb a b (W.alloc (.cells #[.int .i64 a,.int .i64 b,.int .i64 c,.int .i64 d] 29)).drew:=by
 subst hs;have bF:=BoxN.new W 29 #[.int .i64 a,.int .i64 b,.int .i64 c,.int .i64 d];have bH:=hH.alloc (.cells #[.int .i64 a,.int .i64 b,.int .i64 c,.int .i64 d] 29);have bD:=hD.alloc (.cells #[.int .i64 a,.int .i64 b,.int .i64 c,.int .i64 d] 29);exact⟨⟨bH.cell 0 h0,bF.cell 0 rfl,bF.cell 1 rfl⟩,⟨cellOr_some (by have h:=bD.cell 3 (v:=ds[3]) (by simp [h6]);show ((W.alloc _).cell? _).isSome;rw [h];rfl),cellOr_some (by have h:=bD.cell 4 (v:=ds[4]) (by simp [h6]);show ((W.alloc _).cell? _).isSome;rw [h];rfl)⟩,bD.frozen 3,bD.frozen 4⟩
theorem Tryz.FallP.start1 {w:World} {hb db:Nat} {a b c d:Int} {c1 c2 m1 m2 p l f dn:Value} (hH:BoxN w hb 78 #[.pointer (some ⟨db,0,none⟩),c1,c2]) (hD:BoxN w db 100 #[m1,m2,p,l,f,dn]) (hne:hb≠db) (i:Nat) (v:Value) :
  FallP hb db w.heap.size a b ((w.setCell ⟨db,i,none⟩ v).alloc (.cells #[.int .i64 a,.int .i64 b,.int .i64 c,.int .i64 d] 29)).drew:=
 FallP.start (by simp) (hH.other hne i v) rfl (hD.set i v) (by simp)
theorem Tryz.FallP.start2 {w:World} {hb db:Nat} {a b c d:Int} {c1 c2 m1 m2 p l f dn:Value} (hH:BoxN w hb 78 #[.pointer (some ⟨db,0,none⟩),c1,c2]) (hD:BoxN w db 100 #[m1,m2,p,l,f,dn]) (hne:hb≠db) (i:Nat) (v:Value) (i':Nat) (v':Value) :
  FallP hb db w.heap.size a b (((w.setCell ⟨db,i,none⟩ v).setCell ⟨db,i',none⟩ v').alloc (.cells #[.int .i64 a,.int .i64 b,.int .i64 c,.int .i64 d] 29)).drew:=
 FallP.start (by simp) ((hH.other hne i v).other hne i' v') rfl ((hD.set i v).set i' v') (by simp)
theorem Tryz.before (hb db:Nat) (c1 c2 m1 m2 p l f dn:Value) (a b c d:Int) (w:World) (hH:BoxN w hb 78 #[.pointer (some ⟨db,0,none⟩),c1,c2]) (hD:BoxN w db 100 #[m1,m2,p,l,f,dn]) :
  Calls prog 40 #[.pointer (some ⟨hb,0,none⟩),fallV a b c d] w fun e w'=>e=.returned (.tuple #[])∧BoxN w' db 100 #[m1,m2,p,.int .i64 a,.int .i64 b,dn]∧w.grownBy w' (some db):=by
 have lH:=hH.lt;have lD:=hD.lt;have hne:=hH.ne hD (by decide);unfold fallV;go_enter func40,ntmps40;go_wp2
 go_region_held3 (FallP hb db w.heap.size a b) (first
  | with_reducible exact FallP.start rfl hH rfl hD rfl
  | with_reducible exact FallP.start1 hH hD hne _ _
  | with_reducible exact FallP.start2 hH hD hne _ _ _ _
  | with_reducible assumption) (fail)
 all_goals
  go_wp2
  go_end0
  exact⟨rfl,((hD.set 3 _).set 4 _).alloc _,grown_two _ _ _ _ _ _ _⟩
theorem Tryz.after (hb db:Nat) (c1 c2 m1 m2 p l f:Value) (a b c d:Int) (w:World) (hH:BoxN w hb 78 #[.pointer (some ⟨db,0,none⟩),c1,c2]) (hD:BoxN w db 100 #[m1,m2,p,l,f,.bool false]) :
  Calls prog 42 #[.pointer (some ⟨hb,0,none⟩),fallV a b c d] w fun e w'=>e=.returned (.tuple #[])∧BoxN w' db 100 #[m1,m2,p,.int .i64 (-1),.int .i64 (-1),.bool false]∧w.grownBy w' (some db):=by
 have h0:=hH.cell 0 (v:=.pointer (some ⟨db,0,none⟩)) rfl;have d5:=hD.cell 5 (v:=.bool false) rfl;have lH:=hH.lt;have lD:=hD.lt;have hne:=hH.ne hD (by decide);unfold fallV;go_enter func42,ntmps42;go_wp2
 go_region_held3 (FallP hb db w.heap.size a b) (first
  | with_reducible exact FallP.start rfl hH rfl hD rfl
  | with_reducible exact FallP.start1 hH hD hne _ _
  | with_reducible exact FallP.start2 hH hD hne _ _ _ _
  | with_reducible assumption) (fail)
 all_goals
  go_wp2
  go_end0
  exact⟨rfl,((hD.set 3 _).set 4 _).alloc _,grown_two _ _ _ _ _ _ _⟩
structure Spares (bs:List Nat) (W W':World):Prop where
 os:W'.os=W.os
 tape:W'.tape=W.tape
 output:W'.output=W.output
 size:W.heap.size≤W'.heap.size
 block:∀ k,k<W.heap.size→k∉bs→W'.heap[k]? = W.heap[k]?
section
variable {W W' W'':World} {bs:List Nat}
theorem Spares.of_below (h:Below W.heap.size W W'):Spares bs W W':=⟨h.os,h.tape,h.output,h.size,fun k hk _=>h.block k hk⟩
theorem Spares.of_grown {b:Nat} (h:W.grownBy W' (some b)) (hb:b∈bs):Spares bs W W':=⟨h.os,h.tape,h.output,h.size,fun k hk hn=>h.block k hk (fun e=>hn (by injection e with e;rw [e];exact hb))⟩
theorem Spares.trans (h:Spares bs W W') (h':Spares bs W' W''):Spares bs W W'':=⟨h'.os.trans h.os,h'.tape.trans h.tape,h'.output.trans h.output,Nat.le_trans h.size h'.size,fun k hk hn=>(h'.block k (Nat.lt_of_lt_of_le hk h.size) hn).trans (h.block k hk hn)⟩
theorem Spares.mono {bs':List Nat} (h:Spares bs W W') (hs:∀ b∈bs,b∈bs'):Spares bs' W W':=⟨h.os,h.tape,h.output,h.size,fun k hk hn=>h.block k hk (fun e=>hn (hs k e))⟩
theorem Spares.box {B:Nat} {t:TypeId} {cs:Array Value} (h:Spares bs W W') (hB:BoxN W B t cs) (hn:B∉bs):BoxN W' B t cs:=(h.block B hB.lt hn).trans hB
theorem Spares.map {H:Type} {P:Program} {k:TypeId} {R:Value→Option (DataW H × List MemPlace)} {D:DataW H} {b n:Nat} (h:Spares bs W W') (hm:W.ownsMap P k R b n D) (hn:b∉bs):W'.ownsMap P k R b n D:=by
 have hl:=hm.lt;obtain⟨es,clock,hb,F,hs,hD⟩:=hm;exact⟨es,clock,(h.block b hl hn).trans hb,F,hs,hD⟩
theorem Spares.row {base size n g cap:Nat} {e:TypeId} {xs:List Value} (h:Spares bs W W') (hr:W.ownsRow base e size (.slice (some ⟨g,0,none⟩) n cap) n xs) (hn:g∉bs):W'.ownsRow base e size (.slice (some ⟨g,0,none⟩) n cap) n xs:=by
 obtain⟨h1,⟨e1,-⟩ | ⟨g',cap',cur,e1,e2,e3,e4⟩⟩:=hr
 ·cases e1
 ·cases e1
  exact⟨h1,.inr ⟨g,cap,cur,rfl,e2,Spares.box (t:=e) (cs:=cur) h e3 hn,e4⟩⟩
theorem Spares.below {B:Nat} (h:Spares bs W W') (hB:B≤W.heap.size) (hn:∀ b∈bs,B≤b):Below B W W':=⟨h.os,h.tape,h.output,h.size,fun k hk=>h.block k (by omega) (fun e=>by have:=hn k e;omega)⟩
end
theorem Spares.set {bs:List Nat} {W W':World} (h:Spares bs W W') {b:Nat} (hb:b∈bs) (i:Nat) (v:Value):Spares bs W (W'.setCell ⟨b,i,none⟩ v):=
 ⟨h.os,h.tape,h.output,by simpa using h.size,fun k hk hn=>by rw [set_other _ _ _ _ _ (fun e=>hn (by rw [e];exact hb))];exact h.block k hk hn⟩
theorem Spares.alloc {bs:List Nat} {W W':World} (h:Spares bs W W') (o:Obj):Spares bs W (W'.alloc o):=h.trans (Spares.of_below ((Below.refl _ _).alloc (Nat.le_refl _) o))
theorem Spares.drew {bs:List Nat} {W W':World} (h:Spares bs W W'):Spares bs W W'.drew:=h.trans (Spares.of_below ((Below.refl _ _).drew))
end Go.Proofs
namespace Go.Proofs
open Go.RowKit Go.Sort Go.Lib Go.Shelf
def renewAt (tm ttl:Int) (t:ThingD):Int:=max t.at_ (min (plusI tm ttl) t.last)
def issueE (tm:Int) (id pth:List UInt8) (ttl most:Int) (L:List ThingD):Int:=
 if liveI tm id true L<0 then 1 else if pathI pth=false then 2 else if ttl=0∨most<ttl then 3 else if countI false L=14 then 4 else 0
end Go.Proofs
