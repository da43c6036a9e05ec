import Derived.Test.YtjbekgjdempbiaaGreatDoorJRefH
import Derived.Test.YtjbekgjdempbiaaGreatDoorJCntB
import Derived.Test.YtjbekgjdempbiaaGreatDoorJRecC
import Derived.Test.YtjbekgjdempbiaaGreatDoorJTkB
set_option maxRecDepth 100000
set_option maxHeartbeats 8000000
namespace Go.Proofs
open Go.RowKit Go.Sort Go.Lib Go.Shelf Go.Maps
theorem Xg2:∀(xs:List InfoD) (k j:Nat) (t:InfoD),xs[k]? = some t->j<6->(Ul xs)[k*6+j]? = t.cells[j]?
 | [],_,_,_,h,_=>by simp at h
 | x :: xs,0,j,t,h,hj=>by
  obtain rfl:x=t:=by simpa using h
  show (x.cells.toList++Ul xs)[0*6+j]? = _
  rw [List.getElem?_append_left (by rw [InfoD.cells_size];omega)];simp
 | x :: xs,k+1,j,t,h,hj=>by
  show (x.cells.toList++Ul xs)[(k+1)*6+j]? = _
  rw [List.getElem?_append_right (by rw [InfoD.cells_size];omega),InfoD.cells_size,show (k+1)*6+j-6=k*6+j by omega];exact Xg2 xs k j t (by simpa using h) hj
theorem Xm3 {B:Nat} {W:World} {g cap n:Nat} {e:TypeId} {xs:List InfoD} (h:W.ownsRow B e 6 (.slice (some ⟨g,0,none⟩) n cap) n (Ul xs)) {k:Nat} {t:InfoD} (hk:xs[k]? = some t) :
  W.cell? ⟨g,k*6,none⟩=some (.string ⟨t.id.toArray⟩)/\W.cell? ⟨g,k*6+1,none⟩=some (.int .i64 t.st)/\W.cell? ⟨g,k*6+2,none⟩=some (.int .u64 t.at_)/\W.cell? ⟨g,k*6+3,none⟩=some (.int .i64 t.tr)/\W.cell? ⟨g,k*6+4,none⟩=some (.string ⟨t.tok.toArray⟩)/\W.cell? ⟨g,k*6+5,none⟩=some (.string ⟨t.pth.toArray⟩):=by
 have c:∀ j,j<6->W.cell? ⟨g,k*6+j,none⟩=t.cells[j]?:=fun j hj=>by
  have hc:=h.cells (g:=g) rfl (k*6+j);have hs:j<t.cells.size:=hj;have:=hc (t.cells[j]) (by rw [Xg2 xs k j t hk hj];simp [hs]);rw [Lib.add_plain] at this;simp only [Nat.zero_add] at this;rw [this];simp [hs]
 exact⟨c 0 (by omega),c 1 (by omega),c 2 (by omega),c 3 (by omega),c 4 (by omega),c 5 (by omega)⟩
theorem Tryz.Xll:prog.underlying 49=some (.struct (prog.fieldsOf 49)):=by kernel_rfl
theorem Tryz.Xq5:prog.stoodInHeld 49=false:=by kernel_rfl
theorem Tryz.Xtp (x y:InfoD) (W:World):(binOp .neq 49 (.agg x.cells) (.agg y.cells)).run prog W=.ok (.bool (!(x.id==y.id&&x.st==y.st&&x.at_==y.at_&&x.tr==y.tr&&x.tok==y.tok&&x.pth==y.pth))) W:=by
 obtain⟨a0,a1,a2,a3,a4,a5⟩:=x;obtain⟨b0,b1,b2,b3,b4,b5⟩:=y;rw [run_neq_struct,run_equalIn_struct W 9999 _ _ _ Xll Xq5];simp only [Program.fieldsOf,underlying49];simp [InfoD.cells,Ya,Op.eqFields,go_sem]
 by_cases h0:a0=b0 <;> by_cases h1:a1=b1 <;> by_cases h2:a2=b2 <;> by_cases h3:a3=b3 <;> by_cases h4:a4=b4 <;> by_cases h5:a5=b5 <;> simp_all
theorem Tryz.Xgn (B B' n m:Nat) (u v:Value) (xs ys:List InfoD) (w:World) (hA:w.ownsRow B 49 6 u n (Ul xs)) (hB:w.ownsRow B' 49 6 v m (Ul ys)) (hn:xs.length=n) (hm:ys.length=m) (hl:n<=1000) (hl':m<=1000) :
  Calls prog 58 #[u,v] w fun e w'=>∃ b,e=.returned (.bool b)/\(xs=ys->b=true)/\Below w.heap.size w w':=by
 have hU:∃ p c,u=.slice p n c:=by
  rcases hA.2 with⟨rfl,h0⟩ | ⟨g,cap,cur,rfl,_⟩
  ·exact⟨none,0,by rw [h0]⟩
  exact⟨_,_,rfl⟩
 have hV:∃ p c,v=.slice p m c:=by
  rcases hB.2 with⟨rfl,h0⟩ | ⟨g,cap,cur,rfl,_⟩
  ·exact⟨none,0,by rw [h0]⟩
  exact⟨_,_,rfl⟩
 obtain⟨p,c,rfl⟩:=hU;obtain⟨q,d,rfl⟩:=hV
 by_cases hnm:n=m
 ·subst hnm
  go_enter func58,ntmps58;go_wp2
  go_loopw [5] (fun i wr=>∃ k:Nat,k<=n/\i=.int .i64 k/\Below w.heap.size w wr) (fun i _=>n-(intOf i).toNat)
  case atStart=>exact⟨0,Nat.zero_le _,rfl,Below.refl _ _⟩
  case round =>
   obtain⟨k,hk,rfl,hBw⟩:=hrel
   by_cases hkn:k<n
   ·obtain⟨x,hx⟩:∃ x,xs[k]? = some x:=⟨xs[k]'(by omega),by simp⟩
    obtain⟨y,hy⟩:∃ y,ys[k]? = some y:=⟨ys[k]'(by omega),by simp⟩
    obtain⟨g,rfl⟩:∃ g,p=some ⟨g,0,none⟩:=by
     rcases hA.2 with⟨h,h0⟩ | ⟨g,_,_,h,_⟩
     ·omega
     simp at h;exact⟨g,h.1⟩
    obtain⟨g',rfl⟩:∃ g,q=some ⟨g,0,none⟩:=by
     rcases hB.2 with⟨h,h0⟩ | ⟨g,_,_,h,_⟩
     ·omega
     simp at h;exact⟨g,h.1⟩
    obtain⟨x0,x1,x2,x3,x4,x5⟩:=Xm3 (ownsRow_below hA hBw) hx;obtain⟨y0,y1,y2,y3,y4,y5⟩:=Xm3 (ownsRow_below hB hBw) hy;have hnq:=Xtp x y;have hHx:=Xb hx;have hHy:=Xb hy;clear hx hy;obtain⟨a0,a1,a2,a3,a4,a5⟩:=x;obtain⟨b0,b1,b2,b3,b4,b5⟩:=y;simp only [InfoD.cells,Ya] at hnq x0 x1 x2 x3 x4 x5 y0 y1 y2 y3 y4 y5
    obtain⟨bq,hbq⟩:∃ bq,(!(a0==b0&&a1==b1&&a2==b2&&a3==b3&&a4==b4&&a5==b5))=bq:=⟨_,rfl⟩
    rw [hbq] at hnq
    have hsame:Hid (xs=ys->bq=false):=Xb (fun e=>by
     have h1:=Xa hHx;have h2:=Xa hHy;rw [e,h2] at h1
     obtain⟨e0,e1,e2,e3,e4,e5⟩:b0=a0/\b1=a1/\b2=a2/\b3=a3/\b4=a4/\b5=a5:=by simpa using h1
     rw [<- hbq,e0,e1,e2,e3,e4,e5]
     simp)
    clear hbq;cases bq
    ·go_wp2
     go_quiet (fail);go_wp2
     go_roundw
     case rel=>exact⟨k+1,by omega,rfl,below_drewN hBw _⟩
     case measure=>simp [intOf];omega
    go_wp2;go_quiet (fail);go_wp2;go_ret;exact⟨false,rfl,fun e=>absurd (Xa hsame e) (by simp),below_drewN hBw _⟩
   obtain rfl:k=n:=by omega
   go_wp2;go_ret;exact⟨true,rfl,fun _=>rfl,hBw⟩
 have hne:((n:Int)==(m:Int))=false:=by simp;omega
 go_enter func58,ntmps58;go_wp2;go_ret;exact⟨false,rfl,fun e=>absurd (by rw [<- hn,<- hm,e]) hnm,Below.refl _ _⟩
theorem Xe5 (tm:Int) (L:List ThingD):(Xc9 tm L).length<=2*L.length:=by
 have h1:=Xca tm true L;have h2:=Xca tm false L;simp only [Xc9,List.length_append];omega
theorem Tryz.Xnr (B B' va g cap vc g' cap':Nat) (L L':List ThingD) (tm tn ln tm' tn' ln':Int) (w:World) (h:Xk B w va g cap L tm tn ln) (h':Xk B' w vc g' cap' L' tm' tn' ln') :
  Calls prog 113 #[.pointer (some ⟨va,0,none⟩),.pointer (some ⟨vc,0,none⟩)] w fun e w'=>∃ b,e=.returned (.bool b)/\Below w.heap.size w w':=by
 have hA:=Xu0 B va g cap L tm tn ln w h;have hl:=h.lim;have hl':=h'.lim;have ht:=Xe5 tm L;have ht':=Xe5 tm' L';go_enter func113,ntmps113
 go_wp2_with (first
  | (go_at_call_of 57 (Value.pointer (some ⟨va,0,none⟩));refine hA.mono ?_;rintro e w1 ⟨x,rfl,hr1,hb1⟩)
  | (go_at_call_of 57 (Value.pointer (some ⟨vc,0,none⟩));refine(Xu0 B' vc g' cap' L' tm' tn' ln' w1 (h'.below hb1)).mono ?_;rintro e w2 ⟨y,rfl,hr2,hb2⟩)
  | (go_at_call 58;refine(Xgn _ _ _ _ _ _ _ _ w2 (ownsRow_below hr1 hb2) hr2 rfl rfl (by omega) (by omega)).mono ?_;rintro e w3 ⟨b,rfl,hb,hb3⟩))
 go_ret;exact⟨!b,rfl,hb1.trans ((hb2.mono hb1.size).trans (hb3.mono (Nat.le_trans hb1.size hb2.size)))⟩
theorem Tryz.looks (B wb hb va g cap vb mt ml:Nat) (vx:VX) (tm tn ln tn' ln':Int) (tks:List Xd) (lks:List Xc) (L:List ThingD) (dv rv c1 c2 c3 c4:Value) (w:World) (hW:BoxN w wb 69 #[.pointer (some ⟨hb,0,none⟩),c1,c2,c3,c4]) (hH:BoxN w hb 78 #[dv,rv,.pointer (some ⟨vb,0,none⟩)]) (hV:Xq w vb mt ml vx tm tn ln tks lks) (hR:Xk B w va g cap L tm tn' ln') (hl:Rel tks lks L) :
  Calls prog 38 #[.pointer (some ⟨wb,0,none⟩),.pointer (some ⟨va,0,none⟩)] w fun e w'=>e=.returned (.bool true)/\Below w.heap.size w w':=by
 have hA:=callsIn_wide.1 (hAll0 hb vb mt ml vx tm tn ln tks lks w dv rv hH hV);have hI:=hl.infos tm;have hN:=hl.next tm;rw [hI] at hA hN;have hlim:=hR.lim;have ht:=Xe5 tm L
 have hX:=fun W (b:Below w.heap.size w W)=>hNext hb vb mt ml vx tm tn ln tks lks W dv rv (hH.below b hH.lt) (hV.below b)
 rw [hI,hN] at hX
 have hY:=fun W (b:Below w.heap.size w W)=>rNext B va g cap L tm tn' ln' W (hR.below b)
 have hw0:=fun W (b:Below w.heap.size w W)=>(hW.below b hW.lt).cell 0 (v:=.pointer (some ⟨hb,0,none⟩)) rfl
 have c0:=hw0 w (Below.refl _ _);clear hI hN;generalize minT L=mm at *;go_enter func38,ntmps38
 go_wp2_with (first
  | (go_at_call 24;refine hA.mono ?_;rintro e w1 ⟨x,rfl,hr1,hb1⟩)
  | (go_at_call 57;refine(Xu0 B va g cap L tm tn' ln' w1 (hR.below hb1)).mono ?_;rintro e w2 ⟨y,rfl,hr2,hb2⟩)
  | (go_at_call 58;refine(Xgn _ _ _ _ _ _ _ _ w2 (ownsRow_below hr1 hb2) hr2 rfl rfl (by omega) (by omega)).mono ?_;rintro e w3 ⟨b,rfl,hsb,hb3⟩;obtain rfl:=hsb rfl;have hb9:=hb1.trans ((hb2.mono hb1.size).trans (hb3.mono (Nat.le_trans hb1.size hb2.size)));have c9:=hw0 _ hb9)
  | (go_at_call 21;refine(hX _ hb9).mono ?_;rintro e w4 ⟨rfl,hb4⟩)
  | (go_at_call 59;refine(hY _ (hb9.trans (hb4.mono hb9.size))).mono ?_;rintro e w5 ⟨rfl,rfl⟩))
 go_ret;exact⟨rfl,hb9.trans (hb4.mono hb9.size)⟩
theorem Tryz.turned (wb nb:Nat) (k:Int) (tu:Bool) (c0 c1 c2:Value) (sk:Bool) (w:World) (hW:BoxN w wb 69 #[c0,c1,c2,.bool sk,.bool false]) :
  Calls prog 110 #[.pointer (some ⟨wb,0,none⟩),.pointer (some ⟨nb,0,none⟩),.int .i64 k,.int .i64 k,.bool tu] w fun e w'=>e=.returned (.bool true)/\w'=w.setCell ⟨wb,1,none⟩ (.pointer (some ⟨nb,0,none⟩)):=by
 have h1:=hW.cell 1 (v:=c1) rfl;have h4:=hW.cell 4 (v:=.bool false) rfl;have f1:=hW.frozen 1
 by_cases hk:k=0
 ·subst hk
  cases tu
  all_goals
   go_enter func110,ntmps110;go_wp2;go_ret;exact⟨rfl,rfl⟩
 have hk':(k==0)=false:=by simpa using hk
 cases tu
 all_goals
  go_enter func110,ntmps110;go_wp2;go_ret;exact⟨by simp,rfl⟩
theorem Tryz.Sys.Xhn {B hb rb:Nat} {σ:SS} {W:World} (h:Sys B W hb rb σ):∀ b∈σ.k.turns,b≠rb:=fun b hbt=>by
 obtain⟨ra,rc,hr⟩:=h.rvb;obtain⟨fd,fn,hd,e1,e2⟩:=h.wh.d;obtain⟨n1,-,m1⟩:=h.wh.v.va.held.mapT;obtain⟨n2,-,m2⟩:=h.wh.v.va.held.mapL;obtain⟨n3,-,m3⟩:=hd.dm;obtain⟨n4,-,m4⟩:=hd.nm;simp only [Blk.turns,List.mem_cons,List.not_mem_nil,or_false] at hbt
 rcases hbt with rfl | rfl | rfl | rfl | rfl | rfl
 ·exact h.wh.v.va.v.ne hr (by decide)
 ·exact BoxN.Xw hr m1
 ·exact BoxN.Xw hr m2
 ·exact hd.box.ne hr (by decide)
 ·exact BoxN.Xw hr m3
 exact BoxN.Xw hr m4
theorem Tryz.Sys.Xpi {B hb rb:Nat} {σ:SS} {W:World} (h:Sys B W hb rb σ):∀ b∈σ.k.turns,σ.vx.due.ownBlock≠some b:=fun b hbt hg=>by
 obtain⟨-,cur,hr⟩:=Xm h.due hg;obtain⟨fd,fn,hd,e1,e2⟩:=h.wh.d;obtain⟨n1,-,m1⟩:=h.wh.v.va.held.mapT;obtain⟨n2,-,m2⟩:=h.wh.v.va.held.mapL;obtain⟨n3,-,m3⟩:=hd.dm;obtain⟨n4,-,m4⟩:=hd.nm;simp only [Blk.turns,List.mem_cons,List.not_mem_nil,or_false] at hbt
 rcases hbt with rfl | rfl | rfl | rfl | rfl | rfl
 ·exact h.wh.v.va.v.ne hr (by decide) rfl
 ·exact BoxN.Xw hr m1 rfl
 ·exact BoxN.Xw hr m2 rfl
 ·exact hd.box.ne hr (by decide) rfl
 ·exact BoxN.Xw hr m3 rfl
 exact BoxN.Xw hr m4 rfl
theorem Tryz.six (B hb rb:Nat) (σ:SS) (w:World) (hS:Sys B w hb rb σ) (cc dd:Int) (er:Value) (k:Int)
  (hT:∀ W,Ja W->Calls prog 43 #[er] W fun e w'=>e=.returned (.int .i64 k)/\Below W.heap.size W w') (Q:SS->Prop) :
  (∀(id:List UInt8) (s:Value),(∀ W,w.heap.size<=W.heap.size->Whole W σ.k σ.vx σ.tm σ.s σ.c (-1) (-1)->Calls prog 49 #[.pointer (some ⟨σ.k.vb,0,none⟩),.string ⟨id.toArray⟩] W fun e w'=>e=.returned (.tuple #[s,er])/\(∃ σ' l f,(Q σ'/\σ'.k=σ.k/\σ'.vx=σ.vx)/\Whole w' σ.k σ'.vx σ'.tm σ'.s σ'.c l f)/\Spares σ.k.turns W w')->Calls prog 25 #[.pointer (some ⟨hb,0,none⟩),.string ⟨id.toArray⟩,Yn (-1) (-1) cc dd] w fun e w'=>e=.returned (.tuple #[s,.int .i64 k])/\(∃ σ',(Q σ'/\σ'.k=σ.k/\σ'.vx=σ.vx)/\Sys B w' hb rb σ')/\Spares σ.k.turns w w') /\
  (∀(id pth:List UInt8) (ttl most:Int) (s:Value),(∀ W,w.heap.size<=W.heap.size->Whole W σ.k σ.vx σ.tm σ.s σ.c (-1) (-1)->Calls prog 41 #[.pointer (some ⟨σ.k.vb,0,none⟩),.string ⟨id.toArray⟩,.string ⟨pth.toArray⟩,.int .u64 ttl,.int .u64 most] W fun e w'=>e=.returned (.tuple #[s,er])/\(∃ σ' l f,(Q σ'/\σ'.k=σ.k/\σ'.vx=σ.vx)/\Whole w' σ.k σ'.vx σ'.tm σ'.s σ'.c l f)/\Spares σ.k.turns W w')->Calls prog 18 #[.pointer (some ⟨hb,0,none⟩),.string ⟨id.toArray⟩,.string ⟨pth.toArray⟩,.int .u64 ttl,.int .u64 most,Yn (-1) (-1) cc dd] w fun e w'=>e=.returned (.tuple #[s,.int .i64 k])/\(∃ σ',(Q σ'/\σ'.k=σ.k/\σ'.vx=σ.vx)/\Sys B w' hb rb σ')/\Spares σ.k.turns w w') /\
  (∀(id:List UInt8) (ttl:Int) (s:Value),(∀ W,w.heap.size<=W.heap.size->Whole W σ.k σ.vx σ.tm σ.s σ.c (-1) (-1)->Calls prog 44 #[.pointer (some ⟨σ.k.vb,0,none⟩),.string ⟨id.toArray⟩,.int .u64 ttl] W fun e w'=>e=.returned (.tuple #[s,er])/\(∃ σ' l f,(Q σ'/\σ'.k=σ.k/\σ'.vx=σ.vx)/\Whole w' σ.k σ'.vx σ'.tm σ'.s σ'.c l f)/\Spares σ.k.turns W w')->Calls prog 20 #[.pointer (some ⟨hb,0,none⟩),.string ⟨id.toArray⟩,.int .u64 ttl,Yn (-1) (-1) cc dd] w fun e w'=>e=.returned (.tuple #[s,.int .i64 k])/\(∃ σ',(Q σ'/\σ'.k=σ.k/\σ'.vx=σ.vx)/\Sys B w' hb rb σ')/\Spares σ.k.turns w w') /\
  (∀(id:List UInt8),(∀ W,w.heap.size<=W.heap.size->Whole W σ.k σ.vx σ.tm σ.s σ.c (-1) (-1)->Calls prog 51 #[.pointer (some ⟨σ.k.vb,0,none⟩),.string ⟨id.toArray⟩] W fun e w'=>e=.returned (er)/\(∃ σ' l f,(Q σ'/\σ'.k=σ.k/\σ'.vx=σ.vx)/\Whole w' σ.k σ'.vx σ'.tm σ'.s σ'.c l f)/\Spares σ.k.turns W w')->Calls prog 28 #[.pointer (some ⟨hb,0,none⟩),.string ⟨id.toArray⟩,Yn (-1) (-1) cc dd] w fun e w'=>e=.returned (.int .i64 k)/\(∃ σ',(Q σ'/\σ'.k=σ.k/\σ'.vx=σ.vx)/\Sys B w' hb rb σ')/\Spares σ.k.turns w w') /\
  (∀(id:List UInt8) (s:Value),(∀ W,w.heap.size<=W.heap.size->Whole W σ.k σ.vx σ.tm σ.s σ.c (-1) (-1)->Calls prog 52 #[.pointer (some ⟨σ.k.vb,0,none⟩),.string ⟨id.toArray⟩] W fun e w'=>e=.returned (.tuple #[s,er])/\(∃ σ' l f,(Q σ'/\σ'.k=σ.k/\σ'.vx=σ.vx)/\Whole w' σ.k σ'.vx σ'.tm σ'.s σ'.c l f)/\Spares σ.k.turns W w')->Calls prog 29 #[.pointer (some ⟨hb,0,none⟩),.string ⟨id.toArray⟩,Yn (-1) (-1) cc dd] w fun e w'=>e=.returned (.tuple #[s,.int .i64 k])/\(∃ σ',(Q σ'/\σ'.k=σ.k/\σ'.vx=σ.vx)/\Sys B w' hb rb σ')/\Spares σ.k.turns w w') /\
  (∀(id:List UInt8),(∀ W,w.heap.size<=W.heap.size->Whole W σ.k σ.vx σ.tm σ.s σ.c (-1) (-1)->Calls prog 50 #[.pointer (some ⟨σ.k.vb,0,none⟩),.string ⟨id.toArray⟩] W fun e w'=>e=.returned (er)/\(∃ σ' l f,(Q σ'/\σ'.k=σ.k/\σ'.vx=σ.vx)/\Whole w' σ.k σ'.vx σ'.tm σ'.s σ'.c l f)/\Spares σ.k.turns W w')->Calls prog 26 #[.pointer (some ⟨hb,0,none⟩),.string ⟨id.toArray⟩,Yn (-1) (-1) cc dd] w fun e w'=>e=.returned (.int .i64 k)/\(∃ σ',(Q σ'/\σ'.k=σ.k/\σ'.vx=σ.vx)/\Sys B w' hb rb σ')/\Spares σ.k.turns w w'):=by
 obtain⟨fd,fn,hD,e1,e2⟩:=hS.wh.d;have hH:=hS.host;have hbs:=hS.Xfv
 have hdb:σ.k.db∈σ.k.turns:=by simp [Blk.turns]
 have hne:=hH.ne hD.box (by decide);have lH:=hH.lt;have lD:=hD.box.lt;have hB0:Below w.heap.size w (w.alloc (.cells #[.int .i64 (-1),.int .i64 (-1),.int .i64 cc,.int .i64 dd] 29)):=(Below.refl _ w).alloc (Nat.le_refl _) _;have bF:=BoxN.new w 29 #[.int .i64 (-1),.int .i64 (-1),.int .i64 cc,.int .i64 dd];have h2:=hH.cell 2 (v:=.pointer (some ⟨σ.k.vb,0,none⟩)) rfl;have hBf:=before hb σ.k.db _ _ _ _ _ _ _ _ (-1) (-1) cc dd _ (hH.alloc (.cells #[.int .i64 (-1),.int .i64 (-1),.int .i64 cc,.int .i64 dd] 29)) (hD.box.alloc _);have hW0:=hS.wh.below hB0;have h9:=hS.nine;unfold Yn at hBf ⊢;refine⟨?_,?_,?_,?_,?_,?_⟩
 focus
  intro id s hC;go_enter func25,ntmps25
 rotate_left
 focus
  intro id pth ttl most s hC;go_enter func18,ntmps18
 rotate_left
 focus
  intro id ttl s hC;go_enter func20,ntmps20
 rotate_left
 focus
  intro id hC;go_enter func28,ntmps28
 rotate_left
 focus
  intro id s hC;go_enter func29,ntmps29
 rotate_left
 focus
  intro id hC;go_enter func26,ntmps26
 rotate_left
 all_goals
  go_wp2_with (first
   | (go_at_call 40;refine hBf.mono ?_;rintro e w1 ⟨rfl,bD1,hg1⟩;have bH1:=(hH.alloc (.cells #[.int .i64 (-1),.int .i64 (-1),.int .i64 cc,.int .i64 dd] 29)).kept hg1 (by intro e;injection e with e;exact hne e);have bF1:=bF.kept hg1 (by intro e;injection e with e;omega);have hW1:=hW0.Xhl (Spares.X6 hg1 (by simp)) bD1;have hC1:=hC w1 (by have:=hg1.size;simp at this;omega) hW1;have h21:=bH1.cell 2 (v:=.pointer (some ⟨σ.k.vb,0,none⟩)) rfl;have f0:=bF1.cell 0 (v:=.int .i64 (-1)) rfl;have f1:=bF1.cell 1 (v:=.int .i64 (-1)) rfl;have f2:=bF1.cell 2 (v:=.int .i64 cc) rfl;have f3:=bF1.cell 3 (v:=.int .i64 dd) rfl;have HG1:=Xb hg1;clear hg1)
   | ((first | go_at_call 49 | go_at_call 41 | go_at_call 44 | go_at_call 51 | go_at_call 52 | go_at_call 50);refine hC1.mono ?_;rintro e w2 ⟨rfl,⟨σ',l',f',hQ,hW2⟩,hs2⟩;have bH2:=hs2.box bH1 (fun hx=>(hbs _ hx).2.1 rfl);obtain⟨fd2,fn2,hD2,-,-⟩:=hW2.d;have bF2:=hs2.box bF1 (fun hx=>by have:=(hbs _ hx).2.2;omega);have g0:=bF2.cell 0 (v:=.int .i64 (-1)) rfl;have g1:=bF2.cell 1 (v:=.int .i64 (-1)) rfl;have g2:=bF2.cell 2 (v:=.int .i64 cc) rfl;have g3:=bF2.cell 3 (v:=.int .i64 dd) rfl;have hBa:=after hb σ.k.db _ _ _ _ _ _ _ (-1) (-1) cc dd _ bH2 hD2.box;unfold Yn at hBa;have HS2:=Xb hs2;clear hs2)
   | (go_at_call 42;refine hBa.mono ?_;rintro e w3 ⟨rfl,bD3,hg3⟩;have hsp3:Spares σ.k.turns w w3:=(((Spares.of_below hB0).trans (Spares.X6 (Xa HG1) hdb)).trans (Xa HS2)).trans (Spares.X6 hg3 hdb);have hE3:Ja w3:=hS.err.below (hsp3.below h9 (fun b hb=>(hbs b hb).1));have HG3:=Xb hg3;clear hg3;have HSP:=Xb hsp3;clear hsp3)
   | (go_at_call 43;refine(hT _ hE3).mono ?_;rintro e w4 ⟨rfl,hb4⟩))
  have hsp3:=Xa HSP;have hg3:=Xa HG3;have bH3:=bH2.kept hg3 (by intro e;injection e with e;exact hne e);have hW3:=hW2.Xhl (Spares.X6 hg3 (by simp)) bD3;obtain⟨hQ1,hk,hx⟩:=hQ;obtain⟨ra,rc,hr⟩:=hS.rvb
  have hSy:Sys B w3 hb rb σ':=by
   exact { host:=by rw [hk];exact bH3,wh:=by rw [hk];exact hW3,err:=hE3,b9:=hS.b9,hlow:=hS.hlow,low:=by rw [hk];exact hS.low,rvb:=⟨ra,rc,hsp3.box hr (fun hm=>Sys.Xhn hS rb hm rfl)⟩,rlow:=hS.rlow,vrv:=by rw [hx];exact hS.vrv,vtk:=by rw [hx];exact hS.vtk,due:=by rw [hx];exact hsp3.J2 hS.due (fun g hg hm=>Sys.Xpi hS g hm hg) }
  first | go_ret2 | go_ret
  exact⟨rfl,⟨σ',⟨hQ1,hk,hx⟩,hSy.below hb4⟩,hsp3.trans (Spares.of_below hb4)⟩
theorem Tryz.hAuth (hb db rb vb:Nat) (w:World) (hH:BoxN w hb 78 #[.pointer (some ⟨db,0,none⟩),.pointer (some ⟨rb,0,none⟩),.pointer (some ⟨vb,0,none⟩)]) (id pth:List UInt8) (r:Bool)
  (hC:Calls prog 47 #[.pointer (some ⟨vb,0,none⟩),.string ⟨id.toArray⟩,.string ⟨pth.toArray⟩] w fun e w'=>e=.returned (.bool r)/\Below w.heap.size w w') :
  Calls prog 23 #[.pointer (some ⟨hb,0,none⟩),.string ⟨id.toArray⟩,.string ⟨pth.toArray⟩] w fun e w'=>e=.returned (.bool r)/\Below w.heap.size w w':=by
 have h2:=hH.cell 2 (v:=.pointer (some ⟨vb,0,none⟩)) rfl;go_enter func23,ntmps23
 go_wp2_with (go_at_call 47;refine hC.mono ?_;rintro e w1 ⟨rfl,hb1⟩)
 go_ret;exact⟨rfl,hb1⟩
structure Xo where
 kind:Int
 s:List UInt8
 t:List UInt8
 a:Int
 b:Int
 f:Int
 fl:Int
 fu:Int
 ke:Int
 pa:Int
def Xo.cells (x:Xo):Array Value:=#[.int .i64 x.kind,.string ⟨x.s.toArray⟩,.string ⟨x.t.toArray⟩,.int .u64 x.a,.int .u64 x.b,.int .u64 x.f,.int .i64 x.fl,.int .i64 x.fu,.int .i64 x.ke,.int .i64 x.pa]
theorem Tryz.Xk.lower {B B':Nat} {W:World} {vb g cap:Nat} {L:List ThingD} {tm tn ln:Int} (h:Xk B W vb g cap L tm tn ln) (hB:B'<=B):Xk B' W vb g cap L tm tn ln:=by
 refine⟨h.v,?_,h.lim,h.num,h.ofs⟩;obtain⟨h1,⟨e1,-⟩ | ⟨g',cap',cur,e1,e2,e3⟩⟩:=h.row
 ·cases e1
 exact⟨h1,.inr ⟨g',cap',cur,e1,by omega,e3⟩⟩
theorem Tryz.Xk.Xbn {B:Nat} {W:World} {vb g cap:Nat} {L:List ThingD} {tm tn ln:Int} (h:Xk B W vb g cap L tm tn ln):∃ cur,BoxN W g 105 cur:=by
 obtain⟨h1,⟨e1,-⟩ | ⟨g',cap',cur,e1,e2,e3,-⟩⟩:=h.row
 ·cases e1
 cases e1;exact⟨cur,e3⟩
theorem Tryz.Xk.Xpf {B:Nat} {W:World} {vb g cap:Nat} {L:List ThingD} {tm tn ln:Int} (h:Xk B W vb g cap L tm tn ln):B<=g:=by
 obtain⟨h1,⟨e1,-⟩ | ⟨g',cap',cur,e1,e2,e3,-⟩⟩:=h.row
 ·cases e1
 cases e1;exact e2
theorem Tryz.Xk.ne {B:Nat} {W:World} {vb g cap:Nat} {L:List ThingD} {tm tn ln:Int} (h:Xk B W vb g cap L tm tn ln):vb≠g:=by
 obtain⟨cur,hc⟩:=h.Xbn;exact h.v.ne hc (by decide)
theorem Tryz.Xk.Zz {B:Nat} {W W':World} {vb g cap:Nat} {L:List ThingD} {tm tn ln:Int} {bs:List Nat} (h:Xk B W vb g cap L tm tn ln) (hs:Spares bs W W') (h1:vb∉bs) (h2:g∉bs):Xk B W' vb g cap L tm tn ln:=
 ⟨hs.box h.v h1,hs.row h.row h2,h.lim,h.num,h.ofs⟩
theorem Tryz.Xk.foreign {B:Nat} {W:World} {vb g cap:Nat} {L:List ThingD} {tm tn ln:Int} (h:Xk B W vb g cap L tm tn ln) (hB:9<=B) (hv:9<=vb):X1 W vb/\X1 W g:=by
 obtain⟨cur,hc⟩:=h.Xbn;have:=h.Xpf;exact⟨⟨hv,_,_,h.v,by decide⟩,⟨by omega,_,_,hc,by decide⟩⟩
theorem Tryz.X1.of {W:World} {b:Nat} {t:TypeId} {cs:Array Value} (h:BoxN W b t cs) (hb:9<=b) (ht:foreign t=true):X1 W b:=⟨hb,_,_,h,ht⟩
abbrev Uy (wb hb sb:Nat) (st:Xo) (W:World):Prop:=
 (W.cell? ⟨wb,0,none⟩=some (.pointer (some ⟨hb,0,none⟩))/\W.cell? ⟨sb,1,none⟩=some (.string ⟨st.s.toArray⟩)/\W.cell? ⟨sb,2,none⟩=some (.string ⟨st.t.toArray⟩)/\W.cell? ⟨sb,3,none⟩=some (.int .u64 st.a)/\W.cell? ⟨sb,4,none⟩=some (.int .u64 st.b)) /\
 (W.cell? ⟨sb,6,none⟩=some (.int .i64 st.fl)/\W.cell? ⟨sb,7,none⟩=some (.int .i64 st.fu)/\W.cell? ⟨sb,8,none⟩=some (.int .i64 st.ke)/\W.cell? ⟨sb,9,none⟩=some (.int .i64 st.pa))
theorem Uy.mk' {wb hb sb:Nat} {st:Xo} {W:World} {t t':TypeId} {c1 c2 c3 c4:Value} (hW:BoxN W wb t #[.pointer (some ⟨hb,0,none⟩),c1,c2,c3,c4]) (hS:BoxN W sb t' st.cells):Uy wb hb sb st W:=
 ⟨⟨hW.cell 0 rfl,hS.cell 1 rfl,hS.cell 2 rfl,hS.cell 3 rfl,hS.cell 4 rfl⟩,hS.cell 6 rfl,hS.cell 7 rfl,hS.cell 8 rfl,hS.cell 9 rfl⟩
theorem Uy.drew {wb hb sb:Nat} {st:Xo} {W:World} (h:Uy wb hb sb st W):Uy wb hb sb st W.drew:=h
structure Tryz.After (w:World) (B wb hb:Nat) (tm:Int) (HP':World->Prop) (Q2:List ThingD->Int->Int->Prop) (w':World):Prop where
 hp:HP' w'
 ex:∃ L tr lr nb g cap,Q2 L tr lr/\Tryz.Xk B w' nb g cap L tm tr lr/\B<=nb/\BoxN w' wb 69 #[.pointer (some ⟨hb,0,none⟩),.pointer (some ⟨nb,0,none⟩),.pointer none,.bool false,.bool false]
 bel:Below B w w'
theorem Tryz.Xj4 (B wb hb ra g cap:Nat) (tm:Int) (L:List ThingD) (tr lr:Int) (w:World) (HP HP':World->Prop) (lo1:Xf5 HP) (lo2:Xf5 HP') (hP:HP w) (hR:Xk B w ra g cap L tm tr lr) (hpos:0<L.length) (hW:BoxN w wb 69 #[.pointer (some ⟨hb,0,none⟩),.pointer (some ⟨ra,0,none⟩),.pointer none,.bool false,.bool false]) (hB:B<=w.heap.size) (hB9:9<=B) (hwb:B<=wb) (hra:B<=ra)
  (ss tt:List UInt8) (aa bb ff fl fu ke pa:Int) (k:Int) (rs:List UInt8) (hkr:k≠0->rs = []) (Q2:List ThingD->Int->Int->Prop)
  (kd:Int) (hk:(kd=1/\(∀ W,w.heap.size<=W.heap.size->HP W->Calls prog 25 #[.pointer (some ⟨hb,0,none⟩),.string ⟨ss.toArray⟩,.agg #[.int .i64 fl,.int .i64 fu,.int .i64 ke,.int .i64 pa]] W fun e w'=>e=.returned (.tuple #[.string ⟨rs.toArray⟩,.int .i64 k])/\HP' w'/\Z8 B W w')/\∀ B' W nb g' cap',B'<=W.heap.size->B'<=nb->Xk B' W nb g' cap' L tm tr lr->Calls prog 109 #[.pointer (some ⟨nb,0,none⟩),.string ⟨ss.toArray⟩] W fun e w'=>∃ g2 cap2 L2 tr2 lr2,Q2 L2 tr2 lr2/\e=.returned (.tuple #[.string ⟨rs.toArray⟩,.int .i64 k])/\Xk B' w' nb g2 cap2 L2 tm tr2 lr2/\Spares [nb,g'] W w')\/(kd=2/\(∀ W,w.heap.size<=W.heap.size->HP W->Calls prog 18 #[.pointer (some ⟨hb,0,none⟩),.string ⟨ss.toArray⟩,.string ⟨tt.toArray⟩,.int .u64 aa,.int .u64 bb,.agg #[.int .i64 fl,.int .i64 fu,.int .i64 ke,.int .i64 pa]] W fun e w'=>e=.returned (.tuple #[.string ⟨rs.toArray⟩,.int .i64 k])/\HP' w'/\Z8 B W w')/\∀ B' W nb g' cap',B'<=W.heap.size->B'<=nb->Xk B' W nb g' cap' L tm tr lr->Calls prog 111 #[.pointer (some ⟨nb,0,none⟩),.string ⟨ss.toArray⟩,.string ⟨tt.toArray⟩,.int .u64 aa,.int .u64 bb] W fun e w'=>∃ g2 cap2 L2 tr2 lr2,Q2 L2 tr2 lr2/\e=.returned (.tuple #[.string ⟨rs.toArray⟩,.int .i64 k])/\Xk B' w' nb g2 cap2 L2 tm tr2 lr2/\Spares [nb,g'] W w')) :
  Calls prog 62 #[.pointer (some ⟨wb,0,none⟩),.agg (Xo.cells ⟨kd,ss,tt,aa,bb,ff,fl,fu,ke,pa⟩)] w fun e w'=>e=.returned (.bool true)/\After w B wb hb tm HP' Q2 w':=by
 rcases hk with⟨hk,hH,hC⟩ | ⟨hk,hH,hC⟩
 focus
  have hk1:(kd==1)=true:=by rw [hk];rfl
  clear hk
 rotate_left
 focus
  have hk1:(kd==1)=false:=by rw [hk];rfl
  have hk2:(kd==2)=true:=by rw [hk];rfl
  clear hk
 rotate_left
 all_goals
  have lW:=hW.lt;have hb0:Below w.heap.size w (w.alloc (.cells (Xo.cells ⟨kd,ss,tt,aa,bb,ff,fl,fu,ke,pa⟩) 72)):=(Below.refl _ w).alloc (Nat.le_refl _) _;have bS:=BoxN.new w 72 (Xo.cells ⟨kd,ss,tt,aa,bb,ff,fl,fu,ke,pa⟩);have bW0:=hW.alloc (.cells (Xo.cells ⟨kd,ss,tt,aa,bb,ff,fl,fu,ke,pa⟩) 72);have hCp:=Xgf B ra g cap L tm tr lr _ (hR.below hb0) hpos;rw [World.size_alloc] at hCp;have w1c:=bW0.cell 1 (v:=.pointer (some ⟨ra,0,none⟩)) rfl;have s0c:=bS.cell 0 (v:=.int .i64 kd) rfl
  obtain⟨kz,hkz⟩:∃ kz:Bool,(k != 0)=kz:=⟨_,rfl⟩
  have hkz':(k==0) = !kz:=by rw [<- hkz];simp [bne]
  have Hkz:Hid (kz=true->rs = []):=Xb (fun e=>hkr (by rw [e] at hkz;simpa using hkz));clear hkr;simp only [Xo.cells] at *;cases kz
  all_goals
   try (have hzz:=Xa Hkz rfl)
   try subst hzz
   go_enter func62,ntmps62
   go_wp2_with (first
    | (go_at_call 106;refine hCp.mono ?_;rintro e w1 ⟨g',cap',rfl,hR1,hb1⟩;have bS1:=bS.below hb1 (by simp);have s01:=bS1.cell 0 (v:=.int .i64 kd) rfl))
   have hb1':Below w.heap.size w w1:=hb0.trans (hb1.mono (by omega));have bW1:=bW0.below hb1 (by omega);have hP1:Uy wb hb w.heap.size ⟨kd,ss,tt,aa,bb,ff,fl,fu,ke,pa⟩ w1:=Uy.mk' bW1 bS1;have hh1:HP w1.drew:=lo1.below hP hb1'.drew;have hg'l:=hR1.glt;have hg'b:w.heap.size+1<=g':=(hR1.row.lt g' rfl).1;have hH1:=hH w1.drew (by have:=hb1'.size;exact this) hh1;have hRo1:Xk B w1.drew ra g cap L tm tr lr:=hR.below hb1'.drew;have hRn1:Xk (w.heap.size+1) w1.drew (w.heap.size+1) g' cap' L tm tr lr:=hR1.below (Below.refl _ _).drew
   have fW:X1 w1.drew wb:=⟨by omega,_,_,bW1,by decide⟩
   have fS:X1 w1.drew w.heap.size:=⟨by omega,_,_,bS1,by decide⟩
   obtain⟨fA,fG⟩:=hRo1.foreign hB9 (by omega);obtain⟨fN,fH⟩:=hRn1.foreign (by omega) (by omega);simp only [Uy] at hP1
   go_region_held3 (Uy wb hb w.heap.size ⟨kd,ss,tt,aa,bb,ff,fl,fu,ke,pa⟩) (first
    | with_reducible exact Uy.drew hP1
    | with_reducible assumption) (first | ((first | go_at_call 25 | go_at_call 18);refine hH1.mono ?_;rintro e w2 ⟨rfl,hp2,hs,hsp2,hso⟩;have bW2:=Spares.box (W:=w1.drew) hsp2 bW1 (fun hx=>(hso _ hx).2 fW);have bS2:=Spares.box (W:=w1.drew) hsp2 bS1 (fun hx=>(hso _ hx).2 fS);have hP2:=Uy.mk' (st:=⟨kd,ss,tt,aa,bb,ff,fl,fu,ke,pa⟩) bW2 bS2))
   have hRn2:Xk (w.heap.size+1) w2 (w.heap.size+1) g' cap' L tm tr lr:=hRn1.Zz hsp2 (fun hx=>(hso _ hx).2 fN) (fun hx=>(hso _ hx).2 fH);have hC2:=hC (w.heap.size+1) w2 (w.heap.size+1) g' cap' (by have:=hRn2.v.lt;omega) (Nat.le_refl _) hRn2;obtain⟨⟨q0,q1,q2,q3,q4⟩,q6,q7,q8,q9⟩:=hP2;have hgd:=hRn2.Xbn;have lra:=hR.v.lt;have lgg:=hR.glt;have hRo2:Xk B w2 ra g cap L tm tr lr:=hRo1.Zz hsp2 (fun hx=>(hso _ hx).2 fA) (fun hx=>(hso _ hx).2 fG);have hbB2:Below B w w2:=(hb1'.mono hB).drew.trans (hsp2.below (by have:=hb1'.size;exact Nat.le_trans hB this) (fun b hb=>(hso b hb).1));have HBB:=Xb hbB2;clear hP1 hCp hH hC hH1 w1c s0c s01 hsp2 hso hbB2
   go_wp2_with (first
    | ((first | go_at_call 109 | go_at_call 111);refine hC2.mono ?_;rintro e w3 ⟨g2,cap2,L2,tr2,lr2,hQ2,rfl,hR3,hsp3⟩;have bW3:=hsp3.box bW2 (fun hx=>by rcases List.mem_cons.1 hx with e | e;omega;have:=List.mem_singleton.1 e;omega);have hTu:=turned wb (w.heap.size+1) k true _ _ _ _ w3 bW3)
    | (go_at_call 110;refine hTu.mono ?_;rintro e w4 ⟨rfl,rfl⟩))
   go_ret;refine⟨by first | rfl | simp,?_⟩;obtain⟨cur,hcur⟩:=hgd
   have hp3:HP' w3:=lo2.other hp2 hsp3 (fun b hb=>by
    rcases List.mem_cons.1 hb with rfl | hb
    ·exact X1.of hRn2.v (by omega) (by decide)
    rw [List.mem_singleton.1 hb];exact X1.of hcur (by omega) (by decide))
   have hsp4:Spares [wb] w3 (w3.setCell ⟨wb,1,none⟩ (.pointer (some ⟨w.heap.size+1,0,none⟩))):=(Spares.of_below (Below.refl _ _)).set (by simp) _ _
   have nW:wb≠g2:=fun e=>by obtain⟨c,hc⟩:=hR3.Xbn;exact bW3.ne hc (by decide) e
   have hp4:HP' (w3.setCell ⟨wb,1,none⟩ (.pointer (some ⟨w.heap.size+1,0,none⟩))):=lo2.other hp3 hsp4 (fun b hb=>by rw [List.mem_singleton.1 hb];exact X1.of bW3 (by omega) (by decide));have hR4:=(Xk.Zz hR3 hsp4 (by simp;omega) (by simpa using Ne.symm nW)).lower (B':=B) (by omega)
   have hB3:Below B w w3:=(Xa HBB).trans (hsp3.below (by have:=hRn2.v.lt;omega) (fun b hb=>by
    rcases List.mem_cons.1 hb with rfl | hb
    ·omega
    rw [List.mem_singleton.1 hb];omega))
   exact⟨hp4,⟨L2,tr2,lr2,_,g2,cap2,hQ2,hR4,by omega,bW3.set 1 _⟩,hB3.setCell (p:=⟨wb,1,none⟩) hwb _⟩
theorem Tryz.Xnl (B wb hb ra g cap:Nat) (tm:Int) (L:List ThingD) (tr lr:Int) (w:World) (HP HP':World->Prop) (lo1:Xf5 HP) (lo2:Xf5 HP') (hP:HP w) (hR:Xk B w ra g cap L tm tr lr) (hpos:0<L.length) (hW:BoxN w wb 69 #[.pointer (some ⟨hb,0,none⟩),.pointer (some ⟨ra,0,none⟩),.pointer none,.bool false,.bool false]) (hB:B<=w.heap.size) (hB9:9<=B) (hwb:B<=wb) (hra:B<=ra)
  (ss tt:List UInt8) (aa bb ff fl fu ke pa:Int) (k:Int) (rs:Int) (hkr:k≠0->rs=0) (Q2:List ThingD->Int->Int->Prop)
  (kd:Int) (hk:(kd=3/\(∀ W,w.heap.size<=W.heap.size->HP W->Calls prog 20 #[.pointer (some ⟨hb,0,none⟩),.string ⟨ss.toArray⟩,.int .u64 aa,.agg #[.int .i64 fl,.int .i64 fu,.int .i64 ke,.int .i64 pa]] W fun e w'=>e=.returned (.tuple #[.int .u64 rs,.int .i64 k])/\HP' w'/\Z8 B W w')/\∀ B' W nb g' cap',B'<=W.heap.size->B'<=nb->Xk B' W nb g' cap' L tm tr lr->Calls prog 112 #[.pointer (some ⟨nb,0,none⟩),.string ⟨ss.toArray⟩,.int .u64 aa] W fun e w'=>∃ g2 cap2 L2 tr2 lr2,Q2 L2 tr2 lr2/\e=.returned (.tuple #[.int .u64 rs,.int .i64 k])/\Xk B' w' nb g2 cap2 L2 tm tr2 lr2/\Spares [nb,g'] W w')\/(kd=6/\(∀ W,w.heap.size<=W.heap.size->HP W->Calls prog 29 #[.pointer (some ⟨hb,0,none⟩),.string ⟨tt.toArray⟩,.agg #[.int .i64 fl,.int .i64 fu,.int .i64 ke,.int .i64 pa]] W fun e w'=>e=.returned (.tuple #[.int .i64 rs,.int .i64 k])/\HP' w'/\Z8 B W w')/\∀ B' W nb g' cap',B'<=W.heap.size->B'<=nb->Xk B' W nb g' cap' L tm tr lr->Calls prog 115 #[.pointer (some ⟨nb,0,none⟩),.string ⟨tt.toArray⟩] W fun e w'=>∃ g2 cap2 L2 tr2 lr2,Q2 L2 tr2 lr2/\e=.returned (.tuple #[.int .i64 rs,.int .i64 k])/\Xk B' w' nb g2 cap2 L2 tm tr2 lr2/\Spares [nb,g'] W w')) :
  Calls prog 62 #[.pointer (some ⟨wb,0,none⟩),.agg (Xo.cells ⟨kd,ss,tt,aa,bb,ff,fl,fu,ke,pa⟩)] w fun e w'=>e=.returned (.bool true)/\After w B wb hb tm HP' Q2 w':=by
 rcases hk with⟨hk,hH,hC⟩ | ⟨hk,hH,hC⟩
 focus
  have hk1:(kd==1)=false:=by rw [hk];rfl
  have hk2:(kd==2)=false:=by rw [hk];rfl
  have hk3:(kd==3)=true:=by rw [hk];rfl
  clear hk
 rotate_left
 focus
  have hk1:(kd==1)=false:=by rw [hk];rfl
  have hk2:(kd==2)=false:=by rw [hk];rfl
  have hk3:(kd==3)=false:=by rw [hk];rfl
  have hk5:(kd==5)=false:=by rw [hk];rfl
  have hk6:(kd==6)=true:=by rw [hk];rfl
  clear hk
 rotate_left
 all_goals
  have lW:=hW.lt;have hb0:Below w.heap.size w (w.alloc (.cells (Xo.cells ⟨kd,ss,tt,aa,bb,ff,fl,fu,ke,pa⟩) 72)):=(Below.refl _ w).alloc (Nat.le_refl _) _;have bS:=BoxN.new w 72 (Xo.cells ⟨kd,ss,tt,aa,bb,ff,fl,fu,ke,pa⟩);have bW0:=hW.alloc (.cells (Xo.cells ⟨kd,ss,tt,aa,bb,ff,fl,fu,ke,pa⟩) 72);have hCp:=Xgf B ra g cap L tm tr lr _ (hR.below hb0) hpos;rw [World.size_alloc] at hCp;have w1c:=bW0.cell 1 (v:=.pointer (some ⟨ra,0,none⟩)) rfl;have s0c:=bS.cell 0 (v:=.int .i64 kd) rfl
  obtain⟨kz,hkz⟩:∃ kz:Bool,(k != 0)=kz:=⟨_,rfl⟩
  have hkz':(k==0) = !kz:=by rw [<- hkz];simp [bne]
  have Hkz:Hid (kz=true->rs=0):=Xb (fun e=>hkr (by rw [e] at hkz;simpa using hkz));clear hkr;simp only [Xo.cells] at *;cases kz
  all_goals
   try (have hzz:=Xa Hkz rfl)
   try subst hzz
   go_enter func62,ntmps62
   go_wp2_with (first
    | (go_at_call 106;refine hCp.mono ?_;rintro e w1 ⟨g',cap',rfl,hR1,hb1⟩;have bS1:=bS.below hb1 (by simp);have s01:=bS1.cell 0 (v:=.int .i64 kd) rfl))
   have hb1':Below w.heap.size w w1:=hb0.trans (hb1.mono (by omega));have bW1:=bW0.below hb1 (by omega);have hP1:Uy wb hb w.heap.size ⟨kd,ss,tt,aa,bb,ff,fl,fu,ke,pa⟩ w1:=Uy.mk' bW1 bS1;have hh1:HP w1.drew:=lo1.below hP hb1'.drew;have hg'l:=hR1.glt;have hg'b:w.heap.size+1<=g':=(hR1.row.lt g' rfl).1;have hH1:=hH w1.drew (by have:=hb1'.size;exact this) hh1;have hRo1:Xk B w1.drew ra g cap L tm tr lr:=hR.below hb1'.drew;have hRn1:Xk (w.heap.size+1) w1.drew (w.heap.size+1) g' cap' L tm tr lr:=hR1.below (Below.refl _ _).drew
   have fW:X1 w1.drew wb:=⟨by omega,_,_,bW1,by decide⟩
   have fS:X1 w1.drew w.heap.size:=⟨by omega,_,_,bS1,by decide⟩
   obtain⟨fA,fG⟩:=hRo1.foreign hB9 (by omega);obtain⟨fN,fH⟩:=hRn1.foreign (by omega) (by omega);simp only [Uy] at hP1
   go_region_held3 (Uy wb hb w.heap.size ⟨kd,ss,tt,aa,bb,ff,fl,fu,ke,pa⟩) (first
    | with_reducible exact Uy.drew hP1
    | with_reducible assumption) (first | ((first | go_at_call 20 | go_at_call 29);refine hH1.mono ?_;rintro e w2 ⟨rfl,hp2,hs,hsp2,hso⟩;have bW2:=Spares.box (W:=w1.drew) hsp2 bW1 (fun hx=>(hso _ hx).2 fW);have bS2:=Spares.box (W:=w1.drew) hsp2 bS1 (fun hx=>(hso _ hx).2 fS);have hP2:=Uy.mk' (st:=⟨kd,ss,tt,aa,bb,ff,fl,fu,ke,pa⟩) bW2 bS2))
   have hRn2:Xk (w.heap.size+1) w2 (w.heap.size+1) g' cap' L tm tr lr:=hRn1.Zz hsp2 (fun hx=>(hso _ hx).2 fN) (fun hx=>(hso _ hx).2 fH);have hC2:=hC (w.heap.size+1) w2 (w.heap.size+1) g' cap' (by have:=hRn2.v.lt;omega) (Nat.le_refl _) hRn2;obtain⟨⟨q0,q1,q2,q3,q4⟩,q6,q7,q8,q9⟩:=hP2;have hgd:=hRn2.Xbn;have lra:=hR.v.lt;have lgg:=hR.glt;have hRo2:Xk B w2 ra g cap L tm tr lr:=hRo1.Zz hsp2 (fun hx=>(hso _ hx).2 fA) (fun hx=>(hso _ hx).2 fG);have hbB2:Below B w w2:=(hb1'.mono hB).drew.trans (hsp2.below (by have:=hb1'.size;exact Nat.le_trans hB this) (fun b hb=>(hso b hb).1));have HBB:=Xb hbB2;clear hP1 hCp hH hC hH1 w1c s0c s01 hsp2 hso hbB2
   go_wp2_with (first
    | ((first | go_at_call 112 | go_at_call 115);refine hC2.mono ?_;rintro e w3 ⟨g2,cap2,L2,tr2,lr2,hQ2,rfl,hR3,hsp3⟩;have bW3:=hsp3.box bW2 (fun hx=>by rcases List.mem_cons.1 hx with e | e;omega;have:=List.mem_singleton.1 e;omega);have c13:=bW3.cell 1 (v:=.pointer (some ⟨ra,0,none⟩)) rfl;have hRo3:Xk B w3 ra g cap L tm tr lr:=hRo2.Zz hsp3 (fun hx=>by rcases List.mem_cons.1 hx with e | e;omega;have:=List.mem_singleton.1 e;omega) (fun hx=>by rcases List.mem_cons.1 hx with e | e;omega;have:=List.mem_singleton.1 e;omega))
    | (go_at_call 113;refine(Xnr _ _ _ _ _ _ _ _ _ _ _ _ _ _ _ _ w3 hR3 hRo3).mono ?_;rintro e w5 ⟨tb,rfl,hb5⟩;have bW5:=bW3.below hb5 bW3.lt;have hTu:=turned wb (w.heap.size+1) k tb _ _ _ _ w5 bW5)
    | (go_at_call 110;refine hTu.mono ?_;rintro e w4 ⟨rfl,rfl⟩))
   go_ret;refine⟨by first | rfl | simp,?_⟩;obtain⟨cur,hcur⟩:=hgd
   have hp3:HP' w3:=lo2.other hp2 hsp3 (fun b hb=>by
    rcases List.mem_cons.1 hb with rfl | hb
    ·exact X1.of hRn2.v (by omega) (by decide)
    rw [List.mem_singleton.1 hb];exact X1.of hcur (by omega) (by decide))
   have hp5:HP' w5:=lo2.below hp3 hb5;have hR5:=hR3.below hb5;have hsp4:Spares [wb] w5 (w5.setCell ⟨wb,1,none⟩ (.pointer (some ⟨w.heap.size+1,0,none⟩))):=(Spares.of_below (Below.refl _ _)).set (by simp) _ _
   have nW:wb≠g2:=fun e=>by obtain⟨c,hc⟩:=hR5.Xbn;exact bW5.ne hc (by decide) e
   have hp4:HP' (w5.setCell ⟨wb,1,none⟩ (.pointer (some ⟨w.heap.size+1,0,none⟩))):=lo2.other hp5 hsp4 (fun b hb=>by rw [List.mem_singleton.1 hb];exact X1.of bW5 (by omega) (by decide));have hR4:=(Xk.Zz hR5 hsp4 (by simp;omega) (by simpa using Ne.symm nW)).lower (B':=B) (by omega)
   have hB3:Below B w w3:=(Xa HBB).trans (hsp3.below (by have:=hRn2.v.lt;omega) (fun b hb=>by
    rcases List.mem_cons.1 hb with rfl | hb
    ·omega
    rw [List.mem_singleton.1 hb];omega))
   exact⟨hp4,⟨L2,tr2,lr2,_,g2,cap2,hQ2,hR4,by omega,bW5.set 1 _⟩,(hB3.trans (hb5.mono (by have:=hR3.v.lt;omega))).setCell (p:=⟨wb,1,none⟩) hwb _⟩
abbrev Xbl (wb hb ra sb:Nat) (ss tt:List UInt8) (W:World):Prop:=
 W.cell? ⟨wb,0,none⟩=some (.pointer (some ⟨hb,0,none⟩))/\W.cell? ⟨wb,1,none⟩=some (.pointer (some ⟨ra,0,none⟩))/\W.cell? ⟨sb,1,none⟩=some (.string ⟨ss.toArray⟩)/\W.cell? ⟨sb,2,none⟩=some (.string ⟨tt.toArray⟩)
theorem Xbl.drew {wb hb ra sb:Nat} {ss tt:List UInt8} {W:World} (h:Xbl wb hb ra sb ss tt W):Xbl wb hb ra sb ss tt W.drew:=h
theorem Xbl.mk' {wb hb ra sb:Nat} {st:Xo} {W:World} {t t':TypeId} {c2 c3 c4:Value} (hW:BoxN W wb t #[.pointer (some ⟨hb,0,none⟩),.pointer (some ⟨ra,0,none⟩),c2,c3,c4]) (hS:BoxN W sb t' st.cells):Xbl wb hb ra sb st.s st.t W:=
 ⟨hW.cell 0 rfl,hW.cell 1 rfl,hS.cell 1 rfl,hS.cell 2 rfl⟩
theorem Tryz.Xts (B wb hb ra g cap:Nat) (tm:Int) (L:List ThingD) (tr lr:Int) (w:World) (hR:Xk B w ra g cap L tm tr lr) (hpos:0<L.length) (hW:BoxN w wb 69 #[.pointer (some ⟨hb,0,none⟩),.pointer (some ⟨ra,0,none⟩),.pointer none,.bool false,.bool false])
  (ss tt:List UInt8) (aa bb ff fl fu ke pa:Int) (r:Bool)
  (hH:∀ W,Below w.heap.size w W->Calls prog 23 #[.pointer (some ⟨hb,0,none⟩),.string ⟨ss.toArray⟩,.string ⟨tt.toArray⟩] W fun e w'=>e=.returned (.bool r)/\Below W.heap.size W w')
  (hC:∀ W,Below w.heap.size w W->Calls prog 117 #[.pointer (some ⟨ra,0,none⟩),.string ⟨ss.toArray⟩,.string ⟨tt.toArray⟩] W fun e w'=>e=.returned (.bool r)/\Below W.heap.size W w') :
  Calls prog 62 #[.pointer (some ⟨wb,0,none⟩),.agg (Xo.cells ⟨4,ss,tt,aa,bb,ff,fl,fu,ke,pa⟩)] w fun e w'=>e=.returned (.bool true)/\Below w.heap.size w w':=by
 have lW:=hW.lt;have hb0:Below w.heap.size w (w.alloc (.cells (Xo.cells ⟨4,ss,tt,aa,bb,ff,fl,fu,ke,pa⟩) 72)):=(Below.refl _ w).alloc (Nat.le_refl _) _;have bS:=BoxN.new w 72 (Xo.cells ⟨4,ss,tt,aa,bb,ff,fl,fu,ke,pa⟩);have bW0:=hW.alloc (.cells (Xo.cells ⟨4,ss,tt,aa,bb,ff,fl,fu,ke,pa⟩) 72);have hCp:=Xgf B ra g cap L tm tr lr _ (hR.below hb0) hpos;rw [World.size_alloc] at hCp;have w1c:=bW0.cell 1 (v:=.pointer (some ⟨ra,0,none⟩)) rfl;have s0c:=bS.cell 0 (v:=.int .i64 4) rfl;simp only [Xo.cells] at *;go_enter func62,ntmps62
 go_wp2_with (first
  | (go_at_call 106;refine hCp.mono ?_;rintro e w1 ⟨g',cap',rfl,hR1,hb1⟩;have bS1:=bS.below hb1 (by simp);have s01:=bS1.cell 0 (v:=.int .i64 4) rfl))
 have hb1':Below w.heap.size w w1:=hb0.trans (hb1.mono (by omega));have bW1:=bW0.below hb1 (by omega);have hP1:Xbl wb hb ra w.heap.size ss tt w1:=Xbl.mk' (st:=⟨4,ss,tt,aa,bb,ff,fl,fu,ke,pa⟩) bW1 bS1;have hH1:=hH w1.drew hb1'.drew;simp only [Xbl] at hP1
 go_region_held3 (Xbl wb hb ra w.heap.size ss tt) (first
  | with_reducible exact Xbl.drew hP1
  | with_reducible assumption) (first | (go_at_call 23;refine hH1.mono ?_;rintro e w2 ⟨rfl,hb2⟩;have bW2:=BoxN.below (W:=w1.drew) bW1 hb2 bW1.lt;have bS2:=BoxN.below (W:=w1.drew) bS1 hb2 bS1.lt;have hP2:=Xbl.mk' (st:=⟨4,ss,tt,aa,bb,ff,fl,fu,ke,pa⟩) bW2 bS2))
 have hb2':Below w.heap.size w w2:=hb1'.drew.trans (hb2.mono (by have:=hb1'.size;exact this));have hC2:=hC w2.drew hb2'.drew
 go_wp2_with fail
 simp only [Xbl] at hP2
 go_region_held3 (Xbl wb hb ra w.heap.size ss tt) (first
  | with_reducible exact Xbl.drew hP2
  | with_reducible assumption) (first | (go_at_call 117;refine hC2.mono ?_;rintro e w3 ⟨rfl,hb3⟩;have bW3:=BoxN.below (W:=w2.drew) bW2 hb3 bW2.lt;have bS3:=BoxN.below (W:=w2.drew) bS2 hb3 bS2.lt;have hP3:=Xbl.mk' (st:=⟨4,ss,tt,aa,bb,ff,fl,fu,ke,pa⟩) bW3 bS3))
 go_wp2;go_ret;exact⟨by first | rfl | simp,hb2'.drew.trans (hb3.mono (by have:=hb2'.size;exact this))⟩
def Xbv (W:World) (b off:Nat) (S:List Xo):Prop:=∀(i:Nat) (st:Xo),S[i]? = some st ->
 W.cell? ⟨b,off+i*10,none⟩=some (.int .i64 st.kind)/\W.cell? ⟨b,off+i*10+1,none⟩=some (.string ⟨st.s.toArray⟩)/\W.cell? ⟨b,off+i*10+2,none⟩=some (.string ⟨st.t.toArray⟩)/\W.cell? ⟨b,off+i*10+3,none⟩=some (.int .u64 st.a)/\W.cell? ⟨b,off+i*10+4,none⟩=some (.int .u64 st.b)/\W.cell? ⟨b,off+i*10+5,none⟩=some (.int .u64 st.f) /\
 W.cell? ⟨b,off+i*10+6,none⟩=some (.int .i64 st.fl)/\W.cell? ⟨b,off+i*10+7,none⟩=some (.int .i64 st.fu)/\W.cell? ⟨b,off+i*10+8,none⟩=some (.int .i64 st.ke)/\W.cell? ⟨b,off+i*10+9,none⟩=some (.int .i64 st.pa)
theorem Xbv.below {W W':World} {b off B:Nat} {S:List Xo} (h:Xbv W b off S) (hb:Below B W W') (hB:b<B):Xbv W' b off S:=fun i st hi=>by
 obtain⟨h0,h1,h2,h3,h4,h5,h6,h7,h8,h9⟩:=h i st hi
 have c:∀ o,W'.cell? ⟨b,o,none⟩=W.cell? ⟨b,o,none⟩:=fun o=>hb.cell (p:=⟨b,o,none⟩) hB
 exact⟨(c _).trans h0,(c _).trans h1,(c _).trans h2,(c _).trans h3,(c _).trans h4,(c _).trans h5,(c _).trans h6,(c _).trans h7,(c _).trans h8,(c _).trans h9⟩
def Me (W:World) (p:Option Addr) (S:List Xo):Prop:=(S = [] )\/∃ b off,p=some ⟨b,off,none⟩/\Xbv W b off S
def szS (st:Xo):Nat:=st.s.length+st.t.length
def Xjj (S:List Xo) (k:Nat):Nat:=S.length+((S.take k).map szS).sum
theorem Xn7 {S:List Xo} {k:Nat} {st:Xo} (h:S[k]? = some st):Xjj S (k+1)=Xjj S k+st.s.length+st.t.length:=by
 unfold Xjj;rw [Zu h,List.map_append,List.sum_append];simp [szS];omega
theorem Xeu:∀(l:List Nat) (x:Nat),x∈l->x<=l.sum
 | [],_,h=>by cases h
 | a :: l,x,h=>by
  rw [List.sum_cons]
  rcases List.mem_cons.1 h with rfl | h
  ·omega
  have:=Xeu l x h;omega
theorem Xtz (S:List Xo) (st:Xo) (h:st∈S):st.s.length+st.t.length<=Xjj S S.length:=by
 unfold Xjj;rw [List.take_length];have:szS st∈S.map szS:=List.mem_map.2 ⟨st,h,rfl⟩;have h2:=Xeu _ _ this;unfold szS at h2 ⊢;omega
theorem Tryz.small (p:Option Addr) (cap:Nat) (S:List Xo) (w:World) (hS:Me w p S) (hl:S.length<=281474976710656) (hz:∀ st∈S,st.s.length<=281474976710656/\st.t.length<=281474976710656) :
  Calls prog 34 #[.slice p S.length cap] w fun e w'=>∃ b,e=.returned (.bool b)/\(b=true->S.length<=16384/\∀ st∈S,st.s.length+st.t.length<=16384)/\Below w.heap.size w w':=by
 obtain⟨len,hlen⟩:∃ len,S.length=len:=⟨_,rfl⟩
 rw [hlen] at hl ⊢;have Hlen:=Xb hlen;clear hlen;go_enter func34,ntmps34;go_wp2
 go_loopw [3,4] (fun n i wr=>∃ k nn:Nat,k<=len/\i=.int .i64 k/\n=.int .i64 nn/\Hid (nn=Xjj S k)/\nn<=562949953437696/\Below w.heap.size w wr) (fun _ i _=>len-(intOf i).toNat)
 case atStart=>exact⟨0,len,Nat.zero_le _,rfl,rfl,Xb (by simp [Xjj,Xa Hlen]),by omega,Below.refl _ _⟩
 case round =>
  obtain⟨k,nn,hk,rfl,rfl,ht,hbd,hBw⟩:=hrel
  by_cases hkl:k<len
  ·by_cases hn:nn<=16384
   ·obtain⟨st,hst⟩:∃ st,S[k]? = some st:=⟨S[k]'(by have:=Xa Hlen;omega),by have:=Xa Hlen;simp [this,hkl]⟩
    have hne:S ≠ []:=fun e=>by rw [e] at hst;simp at hst
    obtain⟨b,off,rfl,hsc⟩:=hS.resolve_left hne;obtain⟨x0,x1,x2,-⟩:=hsc k st hst;have hbl:b<w.heap.size:=World.block_lt_of_cell? _ _ x0;obtain⟨y0,y1,y2,-⟩:=(hsc.below hBw hbl) k st hst;obtain⟨z1,z2⟩:=hz st (List.mem_of_getElem? hst);have hts:=Xb (Xn7 hst);generalize st.s=ss at *;generalize st.t=tt at *;go_wp2;go_quiet (fail);go_wp2;exact⟨⟨k+1,nn+ss.length+tt.length,by omega,rfl,congrArg (Value.int .i64) (by omega),Xb (by rw [Xa hts,<- Xa ht]),by omega,below_drewN hBw _⟩,by simp [intOf];omega⟩
   have hn':¬ (nn:Int)<=16384:=by omega
   go_wp2;go_ret;exact .inl ⟨rfl,hBw⟩
  obtain rfl:k=len:=by omega
  go_wp2;go_ret;refine⟨decide ((nn:Int)<=16384),rfl,fun h=>?_,hBw⟩
  have h1:(nn:Int)<=16384:=by simpa using h
  have h2:=Xa ht;have h3:=Xa Hlen;refine⟨?_,fun st hst=>?_⟩
  ·unfold Xjj at h2;omega
  have:=Xtz S st hst;rw [h3] at this;omega
theorem Tryz.Xmw (B wb hb ra g cap:Nat) (tm:Int) (L:List ThingD) (tr lr:Int) (w:World) (HP HP':World->Prop) (lo1:Xf5 HP) (lo2:Xf5 HP') (hP:HP w) (hR:Xk B w ra g cap L tm tr lr) (hpos:0<L.length) (hW:BoxN w wb 69 #[.pointer (some ⟨hb,0,none⟩),.pointer (some ⟨ra,0,none⟩),.pointer none,.bool false,.bool false]) (hB:B<=w.heap.size) (hB9:9<=B) (hwb:B<=wb) (hra:B<=ra)
  (ss tt:List UInt8) (aa bb ff fl fu ke pa:Int) (k:Int) (Q2:List ThingD->Int->Int->Prop)
  (kd:Int) (hk:(kd=5/\(∀ W,w.heap.size<=W.heap.size->HP W->Calls prog 28 #[.pointer (some ⟨hb,0,none⟩),.string ⟨ss.toArray⟩,.agg #[.int .i64 fl,.int .i64 fu,.int .i64 ke,.int .i64 pa]] W fun e w'=>e=.returned (.int .i64 k)/\HP' w'/\Z8 B W w')/\∀ B' W nb g' cap',B'<=W.heap.size->B'<=nb->Xk B' W nb g' cap' L tm tr lr->Calls prog 114 #[.pointer (some ⟨nb,0,none⟩),.string ⟨ss.toArray⟩] W fun e w'=>∃ g2 cap2 L2 tr2 lr2,Q2 L2 tr2 lr2/\e=.returned (.int .i64 k)/\Xk B' w' nb g2 cap2 L2 tm tr2 lr2/\Spares [nb,g'] W w')\/(kd=7/\(∀ W,w.heap.size<=W.heap.size->HP W->Calls prog 26 #[.pointer (some ⟨hb,0,none⟩),.string ⟨ss.toArray⟩,.agg #[.int .i64 fl,.int .i64 fu,.int .i64 ke,.int .i64 pa]] W fun e w'=>e=.returned (.int .i64 k)/\HP' w'/\Z8 B W w')/\∀ B' W nb g' cap',B'<=W.heap.size->B'<=nb->Xk B' W nb g' cap' L tm tr lr->Calls prog 116 #[.pointer (some ⟨nb,0,none⟩),.string ⟨ss.toArray⟩] W fun e w'=>∃ g2 cap2 L2 tr2 lr2,Q2 L2 tr2 lr2/\e=.returned (.int .i64 k)/\Xk B' w' nb g2 cap2 L2 tm tr2 lr2/\Spares [nb,g'] W w')) :
  Calls prog 62 #[.pointer (some ⟨wb,0,none⟩),.agg (Xo.cells ⟨kd,ss,tt,aa,bb,ff,fl,fu,ke,pa⟩)] w fun e w'=>e=.returned (.bool true)/\After w B wb hb tm HP' Q2 w':=by
 rcases hk with⟨hk,hH,hC⟩ | ⟨hk,hH,hC⟩
 focus
  have hk1:(kd==1)=false:=by rw [hk];rfl
  have hk2:(kd==2)=false:=by rw [hk];rfl
  have hk3:(kd==3)=false:=by rw [hk];rfl
  have hk5:(kd==5)=true:=by rw [hk];rfl
  clear hk
 rotate_left
 focus
  have hk1:(kd==1)=false:=by rw [hk];rfl
  have hk2:(kd==2)=false:=by rw [hk];rfl
  have hk3:(kd==3)=false:=by rw [hk];rfl
  have hk5:(kd==5)=false:=by rw [hk];rfl
  have hk6:(kd==6)=false:=by rw [hk];rfl
  have hk7:(kd==7)=true:=by rw [hk];rfl
  clear hk
 rotate_left
 all_goals
  have lW:=hW.lt;have hb0:Below w.heap.size w (w.alloc (.cells (Xo.cells ⟨kd,ss,tt,aa,bb,ff,fl,fu,ke,pa⟩) 72)):=(Below.refl _ w).alloc (Nat.le_refl _) _;have bS:=BoxN.new w 72 (Xo.cells ⟨kd,ss,tt,aa,bb,ff,fl,fu,ke,pa⟩);have bW0:=hW.alloc (.cells (Xo.cells ⟨kd,ss,tt,aa,bb,ff,fl,fu,ke,pa⟩) 72);have hCp:=Xgf B ra g cap L tm tr lr _ (hR.below hb0) hpos;rw [World.size_alloc] at hCp;have w1c:=bW0.cell 1 (v:=.pointer (some ⟨ra,0,none⟩)) rfl;have s0c:=bS.cell 0 (v:=.int .i64 kd) rfl;simp only [Xo.cells] at *
  all_goals
   go_enter func62,ntmps62
   go_wp2_with (first
    | (go_at_call 106;refine hCp.mono ?_;rintro e w1 ⟨g',cap',rfl,hR1,hb1⟩;have bS1:=bS.below hb1 (by simp);have s01:=bS1.cell 0 (v:=.int .i64 kd) rfl))
   have hb1':Below w.heap.size w w1:=hb0.trans (hb1.mono (by omega));have bW1:=bW0.below hb1 (by omega);have hP1:Uy wb hb w.heap.size ⟨kd,ss,tt,aa,bb,ff,fl,fu,ke,pa⟩ w1:=Uy.mk' bW1 bS1;have hh1:HP w1.drew:=lo1.below hP hb1'.drew;have hg'l:=hR1.glt;have hg'b:w.heap.size+1<=g':=(hR1.row.lt g' rfl).1;have hH1:=hH w1.drew (by have:=hb1'.size;exact this) hh1;have hRo1:Xk B w1.drew ra g cap L tm tr lr:=hR.below hb1'.drew;have hRn1:Xk (w.heap.size+1) w1.drew (w.heap.size+1) g' cap' L tm tr lr:=hR1.below (Below.refl _ _).drew
   have fW:X1 w1.drew wb:=⟨by omega,_,_,bW1,by decide⟩
   have fS:X1 w1.drew w.heap.size:=⟨by omega,_,_,bS1,by decide⟩
   obtain⟨fA,fG⟩:=hRo1.foreign hB9 (by omega);obtain⟨fN,fH⟩:=hRn1.foreign (by omega) (by omega);simp only [Uy] at hP1
   go_region_held3 (Uy wb hb w.heap.size ⟨kd,ss,tt,aa,bb,ff,fl,fu,ke,pa⟩) (first
    | with_reducible exact Uy.drew hP1
    | with_reducible assumption) (first | ((first | go_at_call 28 | go_at_call 26);refine hH1.mono ?_;rintro e w2 ⟨rfl,hp2,hs,hsp2,hso⟩;have bW2:=Spares.box (W:=w1.drew) hsp2 bW1 (fun hx=>(hso _ hx).2 fW);have bS2:=Spares.box (W:=w1.drew) hsp2 bS1 (fun hx=>(hso _ hx).2 fS);have hP2:=Uy.mk' (st:=⟨kd,ss,tt,aa,bb,ff,fl,fu,ke,pa⟩) bW2 bS2))
   have hRn2:Xk (w.heap.size+1) w2 (w.heap.size+1) g' cap' L tm tr lr:=hRn1.Zz hsp2 (fun hx=>(hso _ hx).2 fN) (fun hx=>(hso _ hx).2 fH);have hC2:=hC (w.heap.size+1) w2 (w.heap.size+1) g' cap' (by have:=hRn2.v.lt;omega) (Nat.le_refl _) hRn2;obtain⟨⟨q0,q1,q2,q3,q4⟩,q6,q7,q8,q9⟩:=hP2;have hgd:=hRn2.Xbn;have lra:=hR.v.lt;have lgg:=hR.glt;have hRo2:Xk B w2 ra g cap L tm tr lr:=hRo1.Zz hsp2 (fun hx=>(hso _ hx).2 fA) (fun hx=>(hso _ hx).2 fG);have hbB2:Below B w w2:=(hb1'.mono hB).drew.trans (hsp2.below (by have:=hb1'.size;exact Nat.le_trans hB this) (fun b hb=>(hso b hb).1));have HBB:=Xb hbB2;clear hP1 hCp hH hC hH1 w1c s0c s01 hsp2 hso hbB2
   go_wp2_with (first
    | ((first | go_at_call 114 | go_at_call 116);refine hC2.mono ?_;rintro e w3 ⟨g2,cap2,L2,tr2,lr2,hQ2,rfl,hR3,hsp3⟩;have bW3:=hsp3.box bW2 (fun hx=>by rcases List.mem_cons.1 hx with e | e;omega;have:=List.mem_singleton.1 e;omega);have c13:=bW3.cell 1 (v:=.pointer (some ⟨ra,0,none⟩)) rfl;have hRo3:Xk B w3 ra g cap L tm tr lr:=hRo2.Zz hsp3 (fun hx=>by rcases List.mem_cons.1 hx with e | e;omega;have:=List.mem_singleton.1 e;omega) (fun hx=>by rcases List.mem_cons.1 hx with e | e;omega;have:=List.mem_singleton.1 e;omega))
    | (go_at_call 113;refine(Xnr _ _ _ _ _ _ _ _ _ _ _ _ _ _ _ _ w3 hR3 hRo3).mono ?_;rintro e w5 ⟨tb,rfl,hb5⟩;have bW5:=bW3.below hb5 bW3.lt;have hTu:=turned wb (w.heap.size+1) k tb _ _ _ _ w5 bW5)
    | (go_at_call 110;refine hTu.mono ?_;rintro e w4 ⟨rfl,rfl⟩))
   go_ret;refine⟨by first | rfl | simp,?_⟩;obtain⟨cur,hcur⟩:=hgd
   have hp3:HP' w3:=lo2.other hp2 hsp3 (fun b hb=>by
    rcases List.mem_cons.1 hb with rfl | hb
    ·exact X1.of hRn2.v (by omega) (by decide)
    rw [List.mem_singleton.1 hb];exact X1.of hcur (by omega) (by decide))
   have hp5:HP' w5:=lo2.below hp3 hb5;have hR5:=hR3.below hb5;have hsp4:Spares [wb] w5 (w5.setCell ⟨wb,1,none⟩ (.pointer (some ⟨w.heap.size+1,0,none⟩))):=(Spares.of_below (Below.refl _ _)).set (by simp) _ _
   have nW:wb≠g2:=fun e=>by obtain⟨c,hc⟩:=hR5.Xbn;exact bW5.ne hc (by decide) e
   have hp4:HP' (w5.setCell ⟨wb,1,none⟩ (.pointer (some ⟨w.heap.size+1,0,none⟩))):=lo2.other hp5 hsp4 (fun b hb=>by rw [List.mem_singleton.1 hb];exact X1.of bW5 (by omega) (by decide));have hR4:=(Xk.Zz hR5 hsp4 (by simp;omega) (by simpa using Ne.symm nW)).lower (B':=B) (by omega)
   have hB3:Below B w w3:=(Xa HBB).trans (hsp3.below (by have:=hRn2.v.lt;omega) (fun b hb=>by
    rcases List.mem_cons.1 hb with rfl | hb
    ·omega
    rw [List.mem_singleton.1 hb];omega))
   exact⟨hp4,⟨L2,tr2,lr2,_,g2,cap2,hQ2,hR4,by omega,bW5.set 1 _⟩,(hB3.trans (hb5.mono (by have:=hR3.v.lt;omega))).setCell (p:=⟨wb,1,none⟩) hwb _⟩
end Go.Proofs
