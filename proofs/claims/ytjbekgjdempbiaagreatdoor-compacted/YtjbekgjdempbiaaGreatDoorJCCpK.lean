import Derived.Test.YtjbekgjdempbiaaGreatDoorJSq
import Derived.Test.YtjbekgjdempbiaaGreatDoorJLawA
import Derived.Test.YtjbekgjdempbiaaGreatDoorJCCpJ
import Derived.Test.YtjbekgjdempbiaaGreatDoorJCRowCompactedR4
set_option maxRecDepth 100000
set_option maxHeartbeats 8000000
namespace Go.Proofs
open Go.RowKit Go.Sort Go.Lib Go.Shelf Go.Maps Go.WideMaps
def compL (tm:Int) (s:VSt):List UInt8:=keepLine tm (Jg s.tn s.ln s.tks s.lks)
theorem Xnn:Xbr rootE:=⟨by decide,by decide,by decide,by decide,.inr (.inr ⟨rfl,rfl⟩)⟩
theorem My {tn ln:Nat} {lks:List Xd} (h1:tn<Xj) (h2:ln<Xj) (hl:lks.length<=1) (hok:∀ l∈lks,Ul l/\l.n<=ln/\l.au<Xj):Yn (Jg tn ln [rootE] lks) rootS/\Za (Jg tn ln [rootE] lks) rootS=⟨tn,ln,[rootE],lks⟩:=by
 have hr:(Item.tok rootE).Fits ⟨tn,ln,[rootE],[]⟩:=⟨Xnn,.inl ⟨rootE,by simp,rfl⟩,by simp,by decide,by decide⟩
 have hp:Yl rootE [rootE] = [rootE]:=by simp [Yl]
 match lks,hl with
 | [],_ =>
  refine⟨⟨h1,h2,?_,trivial⟩,?_⟩
  ·simpa [Item.app,Xfl,Xe7,rootS] using hr
  simp [Jg,Za,Item.app,Xfl,Xe7,rootS,hp];simp [rootE]
 | [l],_ =>
  obtain⟨h3,h4,h5⟩:=hok l (by simp);refine⟨⟨h1,h2,?_,?_,trivial⟩,?_⟩
  ·simpa [Item.app,Xfl,Xe7,rootS] using hr
  ·refine⟨h3,?_,?_,by omega,h5⟩
   ·simp [Item.app,Xfl,Xe7,rootS]
    exact .inr (by simp)
   simp [Item.app,Xfl,Xe7,rootS]
  simp [Jg,Za,Item.app,Xfl,Xe7,rootS,hp,Yf];simp [rootE];omega
 | _ :: _ :: _,h=>exact absurd h (by simp)
theorem Xkm {tm:Int} {tn ln:Nat} {lks:List Xd} (t0:0<=tm) (t1:tm<=18446744073709551615) (h1:tn<Xj) (h2:ln<Xj) (hl:lks.length<=1) (hok:∀ l∈lks,Ul l/\l.n<=ln/\l.au<Xj):Log tm ⟨tn,ln,[rootE],lks⟩ (compL tm ⟨tn,ln,[rootE],lks⟩):=by
 obtain⟨hF,hA⟩:=My h1 h2 hl hok;refine⟨[⟨tm,Jg tn ln [rootE] lks⟩],⟨⟨⟨t0,t1⟩,hF,by simp [Jg],by simp [Jg];omega⟩,trivial⟩,?_,?_,fun l hl=>by rw [List.mem_singleton.1 hl];exact Int.le_refl _⟩
 ·simp [playL,hA]
 simp [textL,compL,keepLine,X9.recs]
theorem Tryz.Xlg (k:Blk) (vx:VX) (tm:Int) (tn ln:Nat) (lks:List Xd) (c:List UInt8) (l f:Int) (w:World) (hW:Whole w k vx tm ⟨tn,ln,[rootE],lks⟩ c l f) (hl:l<0) (hl1 : -999999980<=l) (hf:f<0) (hf1 : -999999980<=f) (hc:c ≠ []) (hno:k.no+1<1000000) (h1:tn<Xj) (h2:ln<Xj) (hll:lks.length<=1) :
  Calls prog 53 #[.pointer (some ⟨k.vb,0,none⟩)] w fun e w'=>e=.returned .nilIface/\(∃ l' f',Whole w' { k with no:=k.no+1 } vx tm ⟨tn,ln,[rootE],lks⟩ (compL tm ⟨tn,ln,[rootE],lks⟩) l' f')/\Spares (k.jb :: k.turns) w w':=by
 have hok:∀ l∈lks,Ul l/\l.n<=ln/\l.au<Xj:=fun l hl=>⟨hW.v.okL l hl,hW.v.nl l hl,(hW.v.va.ok.limL l hl).2⟩
 obtain⟨hF,-⟩:=My h1 h2 hll hok;have hlog:=Xkm hW.v.t0 hW.v.t1 h1 h2 hll hok;obtain⟨fd,fn,hD,e1,e2⟩:=hW.d
 obtain⟨bd,rfl⟩:∃ b,fd=some (b,c):=by
  cases fd with
  | none=>exact absurd e1.1.symm hc
  | some p=>obtain⟨b,x⟩:=p;exact⟨b,by rw [show x=c from e1.1]⟩
 obtain⟨bn,rfl⟩:∃ b,fn=some (b,c):=by
  cases fn with
  | none=>exact absurd e2.1.symm hc
  | some p=>obtain⟨b,x⟩:=p;exact⟨b,by rw [show x=c from e2.1]⟩
 have hokN:∀ r∈nowR tm :: (Jg tn ln [rootE] lks).map Item.rec_,r.Ok/\Yg r.pth:=fun r hr=>by
  rcases List.mem_cons.1 hr with rfl | hr
  ·exact⟨(Mb hW.v.t0 hW.v.t1).ok,(Mb hW.v.t0 hW.v.t1).c⟩
  exact hF.ok r hr
 have hlen:(nowR tm :: (Jg tn ln [rootE] lks).map Item.rec_).length = [rootE].length+lks.length+3:=by simp [Jg];omega
 have hA:=callsIn_wide.1 (Xhz k.vb k.mt k.ml vx tm tn ln [rootE] lks w.drew (hW.v.va.below (Below.refl _ w).drew));have hjn:=hW.jn;have h9:=hW.Xh5;have hj9:=hW.j9
 have hRp:=fun W g cap (hb:Below w.heap.size w W) (hR:Yo W g (nowR tm :: (Jg tn ln [rootE] lks).map Item.rec_)) (hg:g<W.heap.size)=>Xmk k.jb k.db k.md k.mn k.no (k.no+1) g cap _ bd bn c c l f W rfl hno (hW.j.below hb hW.j.lt) (hD.below hb) hl hl1 hf hf1 hR hg (fun r hr=>(hokN r hr).1) (fun r hr=>(hokN r hr).2) (by rw [hlen];simp;omega) (hW.v.va.env.below hb hW.v.va.six) (Nat.le_trans hW.v.va.six hb.size) ⟨by omega,Nat.le_trans (by decide) hW.d9,Nat.le_trans (by decide) hW.md9,Nat.le_trans (by decide) hW.mn9⟩
 rw [hlen] at hRp
 change ∀ W g cap,_->_->_->Calls prog 95 _ W (fun e w'=>e=.returned .nilIface/\_/\(∃ b b',W.heap.size<=b/\W.heap.size<=b'/\Xk (fileN (k.no+1)) w' k.db k.md k.mn (some (b,compL tm ⟨tn,ln,[rootE],lks⟩)) (some (b',compL tm ⟨tn,ln,[rootE],lks⟩)) (.slice none 0 0) (l-1-1-2) (f-1-1-2))/\_) at hRp
 have hcne:compL tm ⟨tn,ln,[rootE],lks⟩ ≠ []:=by have:=Xbb [] tm (Jg tn ln [rootE] lks);simpa [compL] using this
 have hfin:∀ W w',Below w.heap.size w W->BoxN w' k.jb 212 #[Xw k.db,.int .u64 ((k.no+1:Nat):Int),.nilIface]->(∃ b b',W.heap.size<=b/\W.heap.size<=b'/\Xk (fileN (k.no+1)) w' k.db k.md k.mn (some (b,compL tm ⟨tn,ln,[rootE],lks⟩)) (some (b',compL tm ⟨tn,ln,[rootE],lks⟩)) (.slice none 0 0) (l-1-1-2) (f-1-1-2))->Spares [k.jb,k.db,k.md,k.mn] W w'->(∃ l' f',Whole w' { k with no:=k.no+1 } vx tm ⟨tn,ln,[rootE],lks⟩ (compL tm ⟨tn,ln,[rootE],lks⟩) l' f')/\Spares (k.jb :: k.turns) w w':=fun W w' hb bJ hDx hS=>by
  obtain⟨b,b',-,-,hD'⟩:=hDx;obtain⟨⟨a1,a2,a3⟩,a4,a5,a6,a7⟩:=hW.nes;simp only [List.mem_cons,List.not_mem_nil,or_false,not_or,Blk.turns] at a1 a2 a3 a4;refine⟨⟨_,_,{ v:=(hW.v.below hb).spared hS (by simp;omega) (by simp;omega) (by simp;omega) (fun b hb'=>?_),jn:=hW.jn,j:=bJ,d:=⟨_,_,hD',Fl.some hcne,Fl.some hcne⟩,j9:=hW.j9,d9:=hW.d9,md9:=hW.md9,mn9:=hW.mn9,no9:=hno,ne1:=hW.ne1,log:=hlog }⟩,(Spares.of_below hb).trans (hS.mono (fun b hb'=>?_))⟩
  ·have:=hW.d9;have:=hW.md9;have:=hW.mn9
   simp only [List.mem_cons,List.not_mem_nil,or_false] at hb';omega
  simp only [List.mem_cons,List.not_mem_nil,or_false,Blk.turns] at hb' ⊢;omega
 have HF:=Xb hfin;have hv0:=hW.v.va.v.cell 0 (v:=vx.jn) rfl;rw [hjn] at hv0;have lV:=hW.v.va.v.lt;clear hfin hlog hcne e1 e2 hc hD hok hF hokN hlen h9 hj9 hjn;generalize compL tm ⟨tn,ln,[rootE],lks⟩=cl at *;go_enter func53,ntmps53
 go_wp2_with fail
 have hb0:Below w.heap.size w w.drew:=(Below.refl _ w).drew;refine wp_region_held_drew (S:=fun W=>W.cell? ⟨k.vb,0,none⟩=some (.pointer (some ⟨k.jb,0,none⟩))/\W.cell? ⟨k.vb,0,none⟩=some (.pointer (some ⟨k.jb,0,none⟩))) (by kernel_rfl) ⟨cell_later hb0 hv0,cell_later hb0 hv0⟩ (fun hS0=>?_);refine Xt 0 ?v0 rfl ?y0 hS0 ?_
 case y0=>(rintro w ⟨q0,q1⟩;go_simp;try with_reducible rfl)
 refine Xt 1 ?v1 rfl ?y1 hS0 ?_
 case y1=>(rintro w ⟨q0,q1⟩;go_simp;try with_reducible rfl)
 refine Xt 2 ?v2 rfl ?y2 hS0 ?_
 case y2=>(rintro w ⟨q0,q1⟩;go_simp;try with_reducible rfl)
 refine Xt 3 ?v3 rfl ?y3 hS0 ?_
 case y3=>(rintro w ⟨q0,q1⟩;go_simp;try with_reducible rfl)
 refine Xt 4 ?v4 rfl ?y4 hS0 ?_
 case y4=>(rintro w ⟨q0,q1⟩;go_simp;try with_reducible rfl)
 refine Xh 5 rfl fun K hK=>?_;go_simp;refine hA.mono ?_;rintro e w1 ⟨v,rfl,hown,hb1⟩;obtain⟨g,cap,rfl,hg1,hg2⟩:=hown.form (by simp);have hR1:Yo w1 g (nowR tm :: (Jg tn ln [rootE] lks).map Item.rec_):=M3 (B:=w.drew.heap.size) (cap:=cap) (e:=135) hown;have hb2:Below w.heap.size w w1:=hb0.trans hb1;have hRp1:=hRp w1 g cap hb2 hR1 hg2;refine hK.out _ _ ⟨cell_later hb2 hv0,cell_later hb2 hv0⟩ (fun hS1=>?_);clear hK K hown hR1 hRp hA;refine Xh 6 rfl fun K hK=>?_;go_simp;refine hRp1.mono ?_;rintro e w2 ⟨rfl,bJ2,hD2,hS2⟩;have hE2:=Xa HF _ _ hb2 bJ2 hD2 hS2;obtain⟨⟨l',f',hW2⟩,hS3⟩:=hE2;have v2':=hW2.v.va.v.cell 0 (v:=vx.jn) rfl;rw [hW.jn] at v2';refine hK.out _ _ ⟨v2',v2'⟩ (fun hS4=>?_);clear hK K;refine Xt 7 ?v7 rfl ?y7 hS4 ?_
 case y7=>(rintro w ⟨q0,q1⟩;go_simp;try with_reducible rfl)
 refine wpAnyH_done (by kernel_rfl) ?_ _;clear hRp1 hD2 bJ2 hS2 HF v2' hS4 hS1 hS0;go_wp2;go_ret;exact⟨rfl,⟨l',f',hW2⟩,hS3⟩
theorem Tryz.Xex (B hb rb:Nat) (k:Blk) (vx:VX) (tm:Int) (tn ln:Nat) (lks:List Xd) (c:List UInt8) (w:World) (hS:Sys B w hb rb ⟨k,vx,tm,⟨tn,ln,[rootE],lks⟩,c⟩) (hc:c ≠ []) (hno:k.no+1<1000000) (h1:tn<Xj) (h2:ln<Xj) (hll:lks.length<=1) (cc dd:Int) :
  Calls prog 30 #[.pointer (some ⟨hb,0,none⟩),Ya (-1) (-1) cc dd] w fun e w'=>e=.returned (.int .i64 0)/\Sys B w' hb rb ⟨{ k with no:=k.no+1 },vx,tm,⟨tn,ln,[rootE],lks⟩,compL tm ⟨tn,ln,[rootE],lks⟩⟩/\Spares (k.jb :: k.turns) w w':=by
 obtain⟨fd,fn,hD,e1,e2⟩:=hS.wh.d;have hH:=hS.host;simp only at hH hD
 have hbs:∀ b∈k.jb :: k.turns,9<=b/\b≠hb/\b<w.heap.size:=fun b hb'=>by
  rcases List.mem_cons.1 hb' with rfl | hb'
  ·exact⟨hS.wh.j9,Ne.symm (hH.ne hS.wh.j (by decide)),hS.wh.j.lt⟩
  exact hS.V4 b hb'
 have hdb:k.db∈k.jb :: k.turns:=by simp [Blk.turns]
 have hne:=hH.ne hD.box (by decide);have lH:=hH.lt;have lD:=hD.box.lt;have hB0:Below w.heap.size w (w.alloc (.cells #[.int .i64 (-1),.int .i64 (-1),.int .i64 cc,.int .i64 dd] 29)):=(Below.refl _ w).alloc (Nat.le_refl _) _;have bF:=BoxN.new w 29 #[.int .i64 (-1),.int .i64 (-1),.int .i64 cc,.int .i64 dd];have h2':=hH.cell 2 (v:=.pointer (some ⟨k.vb,0,none⟩)) rfl;have hBf:=before hb k.db _ _ _ _ _ _ _ _ (-1) (-1) cc dd _ (hH.alloc (.cells #[.int .i64 (-1),.int .i64 (-1),.int .i64 cc,.int .i64 dd] 29)) (hD.box.alloc _);have hW0:=hS.wh.below hB0;simp only at hW0;have h9:=hS.nine
 have hC:=fun W hV=>Xlg k vx tm tn ln lks c (-1) (-1) W hV (by decide) (by decide) (by decide) (by decide) hc hno h1 h2 hll
 generalize compL tm ⟨tn,ln,[rootE],lks⟩=cl at *;unfold Ya at hBf ⊢;clear hno h1 h2 hll hc;go_enter func30,ntmps30
 go_wp2_with (first
  | (go_at_call 40;refine hBf.mono ?_;rintro e w1 ⟨rfl,bD1,hg1⟩;have bH1:=(hH.alloc (.cells #[.int .i64 (-1),.int .i64 (-1),.int .i64 cc,.int .i64 dd] 29)).kept hg1 (by intro e;injection e with e;exact hne e);have bF1:=bF.kept hg1 (by intro e;injection e with e;omega);have hW1:=hW0.Xaz (Spares.X4 hg1 (by simp)) bD1;have hC1:=hC w1 hW1;have h21:=bH1.cell 2 (v:=.pointer (some ⟨k.vb,0,none⟩)) rfl;have f0:=bF1.cell 0 (v:=.int .i64 (-1)) rfl;have f1:=bF1.cell 1 (v:=.int .i64 (-1)) rfl;have f2:=bF1.cell 2 (v:=.int .i64 cc) rfl;have f3:=bF1.cell 3 (v:=.int .i64 dd) rfl;have HG1:=Xb hg1;clear hg1)
  | (go_at_call 53;refine hC1.mono ?_;rintro e w2 ⟨rfl,⟨l',f',hW2⟩,hs2⟩;have bH2:=hs2.box bH1 (fun hx=>(hbs _ hx).2.1 rfl);obtain⟨fd2,fn2,hD2,-,-⟩:=hW2.d;have bF2:=hs2.box bF1 (fun hx=>by have:=(hbs _ hx).2.2;omega);have g0:=bF2.cell 0 (v:=.int .i64 (-1)) rfl;have g1:=bF2.cell 1 (v:=.int .i64 (-1)) rfl;have g2:=bF2.cell 2 (v:=.int .i64 cc) rfl;have g3:=bF2.cell 3 (v:=.int .i64 dd) rfl;have hBa:=after hb k.db _ _ _ _ _ _ _ (-1) (-1) cc dd _ bH2 hD2.box;unfold Ya at hBa;have HS2:=Xb hs2;clear hs2)
  | (go_at_call 42;refine hBa.mono ?_;rintro e w3 ⟨rfl,bD3,hg3⟩;have hsp3:Spares (k.jb :: k.turns) w w3:=(((Spares.of_below hB0).trans (Spares.X4 (Xa HG1) hdb)).trans (Xa HS2)).trans (Spares.X4 hg3 hdb);have hE3:Z1 w3:=hS.err.below (hsp3.below h9 (fun b hb=>(hbs b hb).1));have HG3:=Xb hg3;clear hg3;have HSP:=Xb hsp3;clear hsp3)
  | (go_at_call 43;refine(Jh _).mono ?_;rintro e w4 ⟨rfl,hb4⟩))
 have hsp3:=Xa HSP;have hg3:=Xa HG3;have bH3:=bH2.kept hg3 (by intro e;injection e with e;exact hne e);have hW3:=hW2.Xaz (Spares.X4 hg3 (by simp)) bD3;obtain⟨ra,rc,hr⟩:=hS.rvb
 have hSy:Sys B w3 hb rb ⟨{ k with no:=k.no+1 },vx,tm,⟨tn,ln,[rootE],lks⟩,cl⟩:=
  { host:=bH3,wh:=hW3,err:=hE3,b9:=hS.b9,hlow:=hS.hlow,low:=hS.low,rvb:=⟨ra,rc,hsp3.box hr (fun hm=>by
    rcases List.mem_cons.1 hm with e | hm
    ·exact hr.ne hS.wh.j (by decide) e
    ·exact Sys.Xaj hS rb hm rfl)⟩,rlow:=hS.rlow,vrv:=hS.vrv,vtk:=hS.vtk,due:=hsp3.Jv hS.due (fun g hg hm=>by
    rcases List.mem_cons.1 hm with rfl | hm
    ·obtain⟨-,cur,hc⟩:=Xn hS.due hg
     exact hc.ne hS.wh.j (by decide) rfl
    exact Sys.Xdv hS g hm hg) }
 go_ret;exact⟨rfl,hSy.below hb4,hsp3.trans (Spares.of_below hb4)⟩
end Go.Proofs
