import Derived.Test.YtjbekgjdempbiaaGreatDoorJRecR
import Derived.Test.YtjbekgjdempbiaaGreatDoorJCodeE
import Derived.Test.YtjbekgjdempbiaaGreatDoorJRefH
import Derived.Test.YtjbekgjdempbiaaGreatDoorJMapOps
import Derived.Test.YtjbekgjdempbiaaGreatDoorJDiskC
import Derived.Carry
import Derived.Maps.RangeWalk
import Derived.Test.YtjbekgjdempbiaaGreatDoorJFndA
import Derived.Test.YtjbekgjdempbiaaGreatDoorJHostW
import Derived.Test.YtjbekgjdempbiaaGreatDoorJFndC
set_option maxRecDepth 100000
set_option maxHeartbeats 8000000
namespace Go.Proofs
open Go.RowKit Go.Sort Go.Lib Go.Shelf Go.Maps
theorem flatR_snoc (rs:List RecD) (r:RecD):flatR (rs ++ [r])=flatR rs++r.cells.toList:=by simp [flatR]
theorem take_snoc {α:Type} {l:List α} {k:Nat} {x:α} (h:l[k]? = some x):l.take (k+1)=l.take k ++ [x]:=by rw [List.take_add_one,h];rfl
theorem Tryz.recParse (rs:List RecD) (hne:rs ≠ []) (hr:∀ r∈rs,r.Back) (hn:rs.length≤1000) (w:World) (hE:Env w) (h9:9≤w.heap.size) (hG:ErrT w) :
  Calls prog 186 #[.string ⟨(recTxt rs).toArray⟩] w fun e w'=>∃ v,e=.returned (.tuple #[v,.bool true])∧w'.ownsRow w.heap.size 135 10 v rs.length (flatR rs)∧Below w.heap.size w w':=by
 have hlen:=recText_len rs (fun r h=>(hr r h).ok);have hSp:=split1 (recTxt rs) 59 w (by omega) hG _ (txt_split hne (fun r h=>(hr r h).p));rw [List.length_map] at hSp;obtain⟨i0,hi,hz0,hz1,hz2⟩:=info_parts recInfo;have bS:=BoxN.new w 9 ((rs.map recStr).map (fun x=>Value.string ⟨x.toArray⟩)).toArray;have hB0:Below w.heap.size w (w.alloc (.cells ((rs.map recStr).map (fun x=>Value.string ⟨x.toArray⟩)).toArray 9)):=(Below.refl _ w).alloc (Nat.le_refl _) _
 have hz:(w.alloc (.cells ((rs.map recStr).map (fun x=>Value.string ⟨x.toArray⟩)).toArray 9)).heap.size=w.heap.size+1:=by simp
 have hPO:=fun(r:RecD) (h:r∈rs) W (hb:Below w.heap.size w W)=>parseOne r (hr r h) W (hE.below hb (by omega)) (Nat.le_trans h9 hb.size) (hG.below (hb.mono h9))
 have hcell:∀(i:Nat) (r:RecD),rs[i]? = some r→((rs.map recStr).map (fun x=>Value.string ⟨x.toArray⟩)).toArray[i]? = some (.string ⟨(recStr r).toArray⟩):=fun i r h=>by simp [h]
 generalize ((rs.map recStr).map (fun x=>Value.string ⟨x.toArray⟩)).toArray=strs at *;generalize recTxt rs=txt at *
 obtain⟨n,hnn⟩:∃ n,rs.length=n:=⟨_,rfl⟩
 rw [hnn] at hn hlen hSp ⊢;have Hn:=hid_intro hnn;clear hnn hlen hne
 obtain⟨w0,hw0⟩:∃ w0,w.alloc (.cells strs 9)=w0:=⟨_,rfl⟩
 rw [hw0] at hSp bS hB0 hz;have Hz:=hid_intro hz;clear hw0 hz;go_enter func186,ntmps186
 go_wp2_with (go_at_call 184;refine hSp.mono ?_;rintro e w1 ⟨rfl,hw1⟩;subst w1)
 go_loopw [4,12] (fun v j wq=>∃ i:Nat,i≤n∧j=.int .i64 i∧wq.ownsRow w0.heap.size 135 10 v i (flatR (rs.take i))∧Below w0.heap.size w0 wq) (fun _ j _=>n-(intOf j).toNat)
 case atStart=>exact⟨0,Nat.zero_le _,rfl,World.ownsRow_nil _ _ _ _,Below.refl _ _⟩
 case round =>
  obtain⟨i,hil,rfl,hrow,hB⟩:=hrel;have hzq:=hB.size
  by_cases hin:i<n
  ·obtain⟨r,hri⟩:∃ r,rs[i]? = some r:=⟨rs[i]'(by have:=hid_elim Hn;omega),by simp [hid_elim Hn,hin]⟩
   have hsn:=hid_intro (show flatR (rs.take (i+1))=flatR (rs.take i)++r.cells.toList by rw [take_snoc hri,flatR_snoc]);have c0:=(bS.below hB bS.lt).cell i (hcell i r hri);have hP:=hPO r (List.mem_of_getElem? hri) wr (hB0.trans (hB.mono hB0.size))
   obtain⟨fl1,hfl1⟩:∃ f,flatR (rs.take (i+1))=f:=⟨_,rfl⟩
   obtain⟨fl0,hfl0⟩:∃ f,flatR (rs.take i)=f:=⟨_,rfl⟩
   rw [hfl1,hfl0] at hsn;rw [hfl0] at hrow;have Hfl1:=hid_intro hfl1;clear hfl1 hfl0;generalize recStr r=txr at *;obtain⟨kind,nk,nn,ak,an,pd,at_,tr,last,pth⟩:=r;unfold RecD.cells recCells at hP hsn;simp only at hP hsn;clear hPO hcell hr
   go_wp2_with (first
    | (go_at_call 215;refine hP.mono ?_;rintro e w1 ⟨rfl,hb1⟩;have hrow1:=ownsRow_below hrow hb1;have hwl1:=hb1.size)
    | (at_builtin;refine wpList_append_own _ rfl _ _ 162 rfl w0.heap.size 135 i0 _ 10 88 underlying162 hi hz0 hz1 hz2 rfl (by decide) _ _ _ rfl ((hrow1.alloc _).alloc _) ⟨w1.heap.size+1,0,none⟩ 1 1 [.int .i64 kind,.int .i64 nk,.int .u64 (nn:Int),.int .i64 ak,.int .u64 (an:Int),.bool pd,.int .u64 at_,.int .i64 tr,.int .u64 last,.string ⟨pth.toArray⟩] rfl rfl (fun j u hu=>by rw [add_cell];have:=(BoxN.new (w1.alloc (.cells #[.int .i64 kind,.int .i64 nk,.int .u64 (nn:Int),.int .i64 ak,.int .u64 (an:Int),.bool pd,.int .u64 at_,.int .i64 tr,.int .u64 last,.string ⟨pth.toArray⟩] 135)) 135 #[.int .i64 kind,.int .i64 nk,.int .u64 (nn:Int),.int .i64 ak,.int .u64 (an:Int),.bool pd,.int .u64 at_,.int .i64 tr,.int .u64 last,.string ⟨pth.toArray⟩]).cell j (v:=u) (by simpa using hu);rwa [World.size_alloc] at this) (by simp [Value.oneCell']) (by unfold maxLen;omega) (by omega) (by simp;omega) ?_))
   intro v' w2 hown' hgrow hn';clear hn'
   have hbk:∀ q,u4.ownBlock=some q→w0.heap.size≤q:=fun q hq=>(hrow.lt q hq).1
   have hB2:Below w0.heap.size w0 w2:=(((hB.trans (hb1.mono hzq)).alloc (by omega) _).alloc (by simp;omega) _).grown hgrow (by simp;omega) hbk;clear hgrow hrow1 hrow hB hb1 hP c0;go_wp2
   go_roundw
   case rel=>exact⟨i+1,by omega,rfl,by rw [hid_elim Hfl1,hid_elim hsn];exact hown',hB2⟩
   case measure=>simp [intOf];omega
  ·obtain rfl:i=n:=by omega
   rw [List.take_of_length_le (Nat.le_of_eq (hid_elim Hn))] at hrow;go_wp2
   go_ret2
   exact⟨_,rfl,ownsRow_lower hrow hB0.size,hB0.trans (hB.mono hB0.size)⟩
end Go.Proofs
namespace Go.Proofs
open Go.RowKit Go.Sort Go.Lib Go.Shelf Go.Maps Go.WideMaps
theorem Tryz.count_now (vb mt ml:Nat) (vx:VX) (tm:Int) (tn ln:Nat) (tks:List TokE) (lks:List LeaE) (w:World) (hV:VFull w vb mt ml vx tm tn ln tks lks) (at_:Int) (a0:0≤at_) (a1:at_≤18446744073709551615) :
  Calls prog 100 #[.pointer (some ⟨vb,0,none⟩),.agg (nowR at_).cells] w fun e w'=>e=.returned (.tuple #[])∧VFull w' vb mt ml vx (max tm at_) tn ln tks lks∧Spares [vb] w w':=by
 have hB0:Below w.heap.size w (w.alloc (.cells (recCells 0 0 0 0 0 false at_ 0 0 []) 135)):=(Below.refl _ w).alloc (Nat.le_refl _) _;have bR0:=BoxN.new w 135 (recCells 0 0 0 0 0 false at_ 0 0 []);have hV0:=hV.below hB0;have lV:=hV.va.v.lt;have m2:=hV0.va.v.cell 2 (v:=.int .u64 tm) rfl;have f2:=hV0.va.v.frozen 2;have t0:=hV.t0;have t1:=hV.t1;have bV3:BoxN ((w.setCell ⟨vb,2,none⟩ (.int .u64 (max tm at_))).alloc (.cells (recCells 0 0 0 0 0 false at_ 0 0 []) 135)).drew vb 126 (vaultC vx (max tm at_) mt ml tn ln):=(hV.va.v.set 2 (.int .u64 (max tm at_))).alloc _;have hS:Spares [vb] w ((w.setCell ⟨vb,2,none⟩ (.int .u64 (max tm at_))).alloc (.cells (recCells 0 0 0 0 0 false at_ 0 0 []) 135)).drew:=(((Spares.of_below (Below.refl _ w)).set (by simp) _ _).alloc _).drew
 have hF:VFull ((w.setCell ⟨vb,2,none⟩ (.int .u64 (max tm at_))).alloc (.cells (recCells 0 0 0 0 0 false at_ 0 0 []) 135)).drew vb mt ml vx (max tm at_) tn ln tks lks:=by
  obtain⟨n1,k1,m1⟩:=hV.va.held.mapT;obtain⟨n2,k2,m2⟩:=hV.va.held.mapL;have hb6:=hS.below (B:=6) hV.va.six (fun b hb=>by rw [List.mem_singleton.1 hb];have:=hV.v9;omega);exact⟨⟨bV3,⟨⟨n1,k1,hS.map m1 (by simpa using hV.nes.1)⟩,⟨n2,k2,hS.map m2 (by simpa using hV.nes.2)⟩⟩,hV.va.ok,hV.va.env.below hb6 (Nat.le_refl _),Nat.le_trans hV.va.six hS.size⟩,hV.nt,hV.nl,by omega,by omega,hV.okT,hV.okL,hV.mne,hV.v9,hV.m9,hV.l9⟩
 have HF:=hid_intro (And.intro hF hS);clear hF hS bV3;unfold nowR RecD.cells;unfold recCells at *;have r6:=bR0.cell 6 (v:=.int .u64 at_) rfl;go_enter func100,ntmps100;go_wp2
 go_region
 go_wp2
 go_end0
 exact⟨rfl,(hid_elim HF).1,(hid_elim HF).2⟩
theorem Tryz.countV (vb mt ml:Nat) (vx:VX) (tm:Int) (s:VSt) (w:World) (hV:VFull w vb mt ml vx tm s.tn s.ln s.tks s.lks) (i:Item) (hF:i.Fits s) :
  Calls prog 100 #[.pointer (some ⟨vb,0,none⟩),.agg i.rec_.cells] w fun e w'=>e=.returned (.tuple #[])∧VFull w' vb mt ml vx tm (i.app s).tn (i.app s).ln (i.app s).tks (i.app s).lks∧Spares [vb,mt,ml] w w':=by
 cases i with
 | tok t =>
  obtain⟨h1,h2,h3,h4,h5⟩:=hF;refine(count_tok vb mt ml vx tm s.tn s.ln s.tks s.lks w hV 0 [] t h1 h2 h3 h4 h5).mono ?_;rintro e w' ⟨rfl,hV,hS⟩;exact⟨rfl,hV,hS.mono (by simp)⟩
 | lea t =>
  obtain⟨h1,h2,h3,h4,h5⟩:=hF;refine(count_lea vb mt ml vx tm s.tn s.ln s.tks s.lks w hV t h1 h2 h3 h4 h5).mono ?_;rintro e w' ⟨rfl,hV,hS⟩;exact⟨rfl,hV,hS.mono (by simp)⟩
 | gone tk n =>
  refine(count_gone vb mt ml vx tm s.tn s.ln s.tks s.lks w hV tk n hF).mono ?_;rintro e w' ⟨rfl,hV,hS⟩;exact⟨rfl,hV,hS.mono (by simp)⟩
def inS (tm:Int) (l:LineD) (s:VSt):Nat→Int × VSt
 | 0=>(tm,s)
 | q+1=>(max tm l.tm,appAll (l.is.take q) s)
abbrev Tryz.VF (W:World) (vb mt ml:Nat) (vx:VX) (p:Int × VSt):Prop:=VFull W vb mt ml vx p.1 p.2.tn p.2.ln p.2.tks p.2.lks
theorem Tryz.countL (vb mt ml:Nat) (vx:VX) (tm:Int) (l:LineD) (s:VSt) (q:Nat) (r:RecD) (w:World) (hok:l.Ok s) (hr:l.recs[q]? = some r) (hV:VF w vb mt ml vx (inS tm l s q)) :
  Calls prog 100 #[.pointer (some ⟨vb,0,none⟩),.agg r.cells] w fun e w'=>e=.returned (.tuple #[])∧VF w' vb mt ml vx (inS tm l s (q+1))∧Spares [vb,mt,ml] w w':=by
 obtain⟨⟨h0,h1⟩,hF,-,-⟩:=hok
 cases q with
 | zero =>
  obtain rfl:nowR l.tm=r:=by simpa [LineD.recs] using hr
  refine(count_now vb mt ml vx tm s.tn s.ln s.tks s.lks w hV l.tm h0 h1).mono ?_;rintro e w' ⟨rfl,hV,hS⟩;exact⟨rfl,hV,hS.mono (by simp)⟩
 | succ q =>
  obtain⟨i,hi,rfl⟩:∃ i,l.is[q]? = some i∧i.rec_=r:=by simpa [LineD.recs,List.getElem?_map] using hr
  have h:=countV vb mt ml vx (max tm l.tm) (appAll (l.is.take q) s) w hV i (hF.get hi);rw [← appAll_take hi] at h;exact h
end Go.Proofs
namespace Go.Proofs
open Go.RowKit Go.Sort Go.Lib Go.Shelf Go.Maps
def tmL (tm:Int) (ls:List LineD):Int:=ls.foldl (fun t l=>max t l.tm) tm
def outS (tm:Int) (ls:List LineD) (s:VSt) (i:Nat):Int × VSt:=(tmL tm (ls.take (i-1)),playL (ls.take (i-1)) s)
theorem OkL.get:∀ {ls:List LineD} {s:VSt} {k:Nat} {l:LineD},OkL ls s→ls[k]? = some l→l.Ok (playL (ls.take k) s)
 | [],_,_,_,_,h=>by simp at h
 | a :: ls,s,0,l,h,hl=>by
  obtain rfl:a=l:=by simpa using hl
  exact h.1
 | a :: ls,s,k+1,l,h,hl=>OkL.get (ls:=ls) (s:=appAll a.is s) h.2 (by simpa using hl)
theorem outS_step {tm:Int} {ls:List LineD} {s:VSt} {k:Nat} {l:LineD} (h:ls[k]? = some l):outS tm ls s (k+1+1)=inS (outS tm ls s (k+1)).1 l (outS tm ls s (k+1)).2 l.recs.length:=by
 have e:ls.take (k+1)=ls.take k ++ [l]:=take_snoc h
 have e2:l.recs.length=l.is.length+1:=by simp [LineD.recs]
 unfold outS;rw [e2];simp only [Nat.add_sub_cancel,inS,e,tmL,playL,List.foldl_append,List.foldl_cons,List.foldl_nil,List.take_length]
theorem ascii_body {t:List UInt8} (h:Ascii t):Ascii (bodyL t):=(ascii_dec _).app (Ascii.cons (by decide) ((ascii_dec _).app (Ascii.cons (by decide) h)))
theorem body_len {ls:List LineD} {l:LineD} (h:l∈ls):(bodyL (recTxt l.recs)).length≤(textL ls).length:=by
 unfold textL
 induction ls with
 | nil=>cases h
 | cons a ls ih =>
  rw [List.flatMap_cons,List.length_append]
  rcases List.mem_cons.1 h with rfl | h
  ·have:(recLine l.recs).length=(bodyL (recTxt l.recs)).length+1:=by unfold recLine;rw [lineL_body,List.length_cons]
   omega
  ·have:=ih h;omega
theorem lines_le (ls:List LineD):ls.length≤(textL ls).length:=by
 unfold textL
 induction ls with
 | nil=>simp
 | cons a ls ih =>
  rw [List.flatMap_cons,List.length_append,List.length_cons]
  have:(recLine a.recs).length=(bodyL (recTxt a.recs)).length+1:=by unfold recLine;rw [lineL_body,List.length_cons]
  omega
theorem Tryz.tellAll (vb mt ml:Nat) (vx:VX) (tm:Int) (s:VSt) (ls:List LineD) (hok:OkL ls s) (hlen:(textL ls).length<4294967281) (w:World) (hV:VF w vb mt ml vx (tm,s)) (h9:9≤w.heap.size) (hG:ErrT w) :
  Calls prog 147 #[.string ⟨(textL ls).toArray⟩,.func (.func 100) #[.pointer (some ⟨vb,0,none⟩)] #[]] w fun e w'=>e=.returned (.tuple #[])∧VF w' vb mt ml vx (tmL tm ls,playL ls s)∧Spares [vb,mt,ml] w w':=by
 have hSp:=split1 (textL ls) 10 w hlen hG _ hok.split;rw [List.length_cons,List.length_map] at hSp;have bS:=BoxN.new w 9 (([] :: ls.map (fun l=>bodyL (recTxt l.recs))).map (fun x=>Value.string ⟨x.toArray⟩)).toArray;have hB0:Below w.heap.size w (w.alloc (.cells (([] :: ls.map (fun l=>bodyL (recTxt l.recs))).map (fun x=>Value.string ⟨x.toArray⟩)).toArray 9)):=(Below.refl _ w).alloc (Nat.le_refl _) _
 have hcell0:(([] :: ls.map (fun l=>bodyL (recTxt l.recs))).map (fun x=>Value.string ⟨x.toArray⟩)).toArray[0]? = some (.string ⟨#[]⟩):=by simp
 have hcell:∀(i:Nat) (l:LineD),ls[i]? = some l→(([] :: ls.map (fun l=>bodyL (recTxt l.recs))).map (fun x=>Value.string ⟨x.toArray⟩)).toArray[i+1]? = some (.string ⟨(bodyL (recTxt l.recs)).toArray⟩):=fun i l h=>by simp [h]
 have hle:∀ l∈ls,(bodyL (recTxt l.recs)).length<4294967281:=fun l hl=>Nat.lt_of_le_of_lt (body_len hl) hlen
 generalize (([] :: ls.map (fun l=>bodyL (recTxt l.recs))).map (fun x=>Value.string ⟨x.toArray⟩)).toArray=strs at *;have hend:Hid (outS tm ls s (ls.length+1)=(tmL tm ls,playL ls s)):=hid_intro (by simp [outS])
 have hn32:ls.length≤4294967290:=by have:=lines_le ls;omega
 generalize textL ls=txt at *
 obtain⟨n,hnn⟩:∃ n,ls.length=n:=⟨_,rfl⟩
 rw [hnn] at hSp hend hn32;have Hn:=hid_intro hnn;have lv:=hV.va.v.lt;have lh:=hV.va.held.lt;have v9:=hV.v9;have m9:=hV.m9;have l9:=hV.l9
 have hgl:∀ {W:World},Spares [vb,mt,ml] w W→Below 9 w W:=fun hS=>hS.below h9 (fun b hb=>by
  simp only [List.mem_cons,List.not_mem_nil,or_false] at hb
  omega)
 have hV0:VF (w.alloc (.cells strs 9)) vb mt ml vx (outS tm ls s 0):=by
  have:outS tm ls s 0=(tm,s):=rfl;rw [this];exact hV.below hB0
 have hz:(w.alloc (.cells strs 9)).heap.size=w.heap.size+1:=by simp
 have hS0:Spares [vb,mt,ml] w (w.alloc (.cells strs 9)):=Spares.of_below hB0
 have nS:w.heap.size ∉ [vb,mt,ml]:=by simp;omega
 clear hnn hlen
 obtain⟨w0,hw0⟩:∃ w0,w.alloc (.cells strs 9)=w0:=⟨_,rfl⟩
 rw [hw0] at hSp bS hV0 hz hS0;clear hw0 hB0;go_enter func147,ntmps147
 go_wp2_with (go_at_call 184;refine hSp.mono ?_;rintro e w1 ⟨rfl,hw1⟩;subst w1)
 go_loopw [15] (fun j wq=>∃ i:Nat,i≤n+1∧j=.int .i64 i∧VF wq vb mt ml vx (outS tm ls s i)∧BoxN wq w.heap.size 9 strs∧Spares [vb,mt,ml] w wq) (fun j _=>n+1-(intOf j).toNat)
 case atStart=>exact⟨0,Nat.zero_le _,rfl,hV0,bS,hS0⟩
 case round =>
  obtain⟨i,hil,rfl,hVq,bSq,hSq⟩:=hrel
  have hT:=fun(x:List UInt8) (hx:x.length<4294967281) (ha:∀ b∈x,b.toNat<128)=>textOf x wr hx ha hVq.va.env (Nat.le_trans h9 hSq.size) (hG.below (hgl hSq))
  by_cases hin:i<n+1
  ·cases i with
   | zero =>
    have c0:=bSq.cell 0 hcell0;have hT0:=hT [] (by decide) (by simp);rw [show wholeB []=false by decide,show txtL [] = [] by rfl] at hT0;clear hT
    go_wp2_with (go_at_call 185;refine hT0.mono ?_;rintro e w2 ⟨rfl,hb2⟩)
    go_roundw
    case rel=>exact⟨1,by omega,rfl,hVq.below hb2,bSq.below hb2 bSq.lt,hSq.trans (Spares.of_below hb2)⟩
    case measure=>simp [intOf]
   | succ k =>
    obtain⟨l,hl⟩:∃ l,ls[k]? = some l:=⟨ls[k]'(by have:=hid_elim Hn;omega),by simp⟩
    have hlm:=List.mem_of_getElem? hl;have c0:=bSq.cell (k+1) (hcell k l hl)
    have hlk:l.Ok (outS tm ls s (k+1)).2:=by simpa [outS] using hok.get hl
    have hstep:=hid_intro (outS_step (tm:=tm) (s:=s) hl);have hbk:=hlk.back;have hasc:Ascii (bodyL (recTxt l.recs)):=ascii_body (ascii_text _ (fun r hr=>(hbk r hr).c));have hT0:=hT (bodyL (recTxt l.recs)) (hle l hlm) hasc;have htl:=recText_len l.recs (fun r hr=>(hbk r hr).ok)
    have hm0:0<l.recs.length:=by simp [LineD.recs]
    have hm1:l.recs.length≤501:=by have:=hlk.2.2.2;simp [LineD.recs];omega
    rw [(body_whole _ (by omega)).1,(body_whole _ (by omega)).2] at hT0
    have hPa:=fun W (hb:Below wr.heap.size wr W)=>recParse l.recs (fun e=>by rw [e] at hm0;simp at hm0) hbk (by omega) W (hVq.below hb).va.env (by have:=hSq.size;have:=hb.size;omega) (hG.below ((hgl hSq).trans (hb.mono (by have:=hSq.size;omega))))
    have hC:=fun q r hr W=>countL vb mt ml vx (outS tm ls s (k+1)).1 l (outS tm ls s (k+1)).2 q r W hlk hr
    have hstart:outS tm ls s (k+1)=inS (outS tm ls s (k+1)).1 l (outS tm ls s (k+1)).2 0:=rfl;rw [hstart] at hVq;generalize outS tm ls s (k+1)=o1 at *;generalize bodyL (recTxt l.recs)=bod at *;generalize recTxt l.recs=rtx at *;generalize hrecs:l.recs=recs at *
    obtain⟨m,hmm⟩:∃ m,recs.length=m:=⟨_,rfl⟩
    rw [hmm] at hm0 hm1 hPa hstep;have Hm:=hid_intro hmm;clear hmm hT hle hcell hcell0 hasc hbk htl hlk hl hstart
    go_wp2_with (first
     | (go_at_call 185;refine hT0.mono ?_;rintro e w2 ⟨rfl,hb2⟩)
     | (go_at_call 186;refine(hPa _ hb2).mono ?_;rintro e w3 ⟨v,rfl,hown,hb3⟩;obtain⟨g,cap,rfl,hg1,hg2⟩:=hown.form hm0))
    have hR3:RecRow w3 g recs:=rowR_flat (B:=w2.heap.size) (cap:=cap) (n:=m) (e:=135) hown;have hb4:Below wr.heap.size wr w3:=hb2.trans (hb3.mono hb2.size);have hV3:=hVq.below hb4;have bS3:=bSq.below hb4 bSq.lt;have hS3:=hSq.trans (Spares.of_below hb4)
    have ngb:g ∉ [vb,mt,ml]:=by have:=hVq.va.v.lt;have:=hVq.va.held.lt;have:=hb2.size;simp;omega
    clear hown hb3 hb2 hPa hT0 c0
    go_loopw [33] (fun j wq=>∃ q:Nat,q≤m∧j=.int .i64 q∧VF wq vb mt ml vx (inS o1.1 l o1.2 q)∧RecRow wq g recs∧g<wq.heap.size∧BoxN wq w.heap.size 9 strs∧Spares [vb,mt,ml] w wq) (fun j _=>m-(intOf j).toNat)
    case atStart=>exact⟨0,Nat.zero_le _,rfl,hV3,hR3,hg2,bS3,hS3⟩
    case round =>
     clear hVq bSq hSq hV3 hR3 bS3 hS3 hb4;obtain⟨q,hq,rfl,hVq,hRq,hgq,bSq,hSq⟩:=hrel
     by_cases hqm:q<m
     ·obtain⟨r,hr⟩:∃ r,recs[q]? = some r:=⟨recs[q]'(by have:=hid_elim Hm;omega),by simp [hid_elim Hm,hqm]⟩
      have hrk:=hRq q r hr;have hB1:Below wr.heap.size wr (wr.alloc (.cells r.cells 135)):=(Below.refl _ _).alloc (Nat.le_refl _) _;have hC1:=hC q r hr _ (hVq.below hB1);have HB1:=hid_intro hB1;unfold RecD.cells recCells at hrk hC1 hB1;have x0:=hrk 0 _ rfl;have x1:=hrk 1 _ rfl;have x2:=hrk 2 _ rfl;have x3:=hrk 3 _ rfl;have x4:=hrk 4 _ rfl;have x5:=hrk 5 _ rfl;have x6:=hrk 6 _ rfl;have x7:=hrk 7 _ rfl;have x8:=hrk 8 _ rfl;have x9:=hrk 9 _ rfl;simp only [Nat.add_zero] at x0;obtain⟨kind,nk,nn,ak,an,pd,at_,tr,last,pth⟩:=r;simp only at x0 x1 x2 x3 x4 x5 x6 x7 x8 x9 hC1 hB1;clear hrk hC
      go_wp2_with (go_at_call 100;refine hC1.mono ?_;rintro e w4 ⟨rfl,hV4,hS4⟩)
      have hsp:Spares [vb,mt,ml] wr w4:=(Spares.of_below hB1).trans hS4;clear x0 x1 x2 x3 x4 x5 x6 x7 x8 x9 hC1
      go_roundw
      case rel=>exact⟨q+1,by omega,rfl,hV4,hRq.spared hsp hgq ngb,Nat.lt_of_lt_of_le hgq hsp.size,hsp.box bSq nS,hSq.trans hsp⟩
      case measure=>simp [intOf];omega
     ·obtain rfl:q=m:=by omega
      rw [← hid_elim hstep] at hVq;go_wp2
      go_roundw
      case rel=>exact⟨k+1+1,by omega,rfl,hVq,bSq,hSq⟩
      case measure=>simp [intOf];omega
  ·obtain rfl:i=n+1:=by omega
   rw [hid_elim hend] at hVq;go_wp2
   go_end0
   exact⟨rfl,hVq,hSq⟩
end Go.Proofs
namespace Go.Proofs
open Go.RowKit Go.Sort Go.Maps
theorem Tryz.root (w:World):Calls prog 85 #[] w fun e w'=>e=.returned (nmV (1,0))∧Below w.heap.size w w':=by
 unfold nmV;go_enter func85,ntmps85;go_wp2;exact bodyPost_ret (v:=.agg #[.int .i64 1,.int .u64 0]) (by simp [results,results85,go_sem]) rfl ⟨rfl,(Below.refl _ _).alloc (Nat.le_refl _) _⟩
theorem grown_sets (w:World) (db i i':Nat) (v v':Value):w.grownBy ((w.setCell ⟨db,i,none⟩ v).setCell ⟨db,i',none⟩ v') (some db):=
 ⟨rfl,rfl,rfl,by simp,fun k _ hne=>by
  have hd:k≠db:=fun e=>hne (by rw [e])
  rw [set_other _ _ _ _ _ hd,set_other _ _ _ _ _ hd]⟩
theorem BoxN.ne_map {H:Type} {P:Program} {k:TypeId} {R:Value→Option (DataW H × List MemPlace)} {D:DataW H} {W:World} {B b n:Nat} {t:TypeId} {cs:Array Value} (h:BoxN W B t cs) (hm:W.ownsMap P k R b n D):b≠B:=by
 rintro rfl;obtain⟨es,clock,hb,_⟩:=hm;have e:=hb.symm.trans h;cases e
theorem Tryz.up (db b:Nat) (m2 p l f dn:Value) (w:World) (hD:BoxN w db 100 #[.map (some b),m2,p,l,f,dn]) (hown:w.ownsMap prog 9 valR b 0 (.map [])) :
  Calls prog 56 #[.pointer (some ⟨db,0,none⟩)] w fun e w'=>e=.returned (.tuple #[])∧(∃ b2,w.heap.size≤b2∧w'.ownsMap prog 9 valR b2 0 (.map [])∧BoxN w' db 100 #[.map (some b),.map (some b2),.slice none 0 0,l,f,.bool false])∧w.grownBy w' (some db):=by
 have hmk:∀ W,(Instr.makeMap 97 none).run prog W=.ok (.map (some W.heap.size)) (W.alloc (.map #[] 0)):=fun W=>run_makeMap _ W
 have d0:=hD.cell 0 (v:=.map (some b)) rfl;have d1:=hD.cell 1 (v:=m2) rfl;have d2:=hD.cell 2 (v:=p) rfl;have d5:=hD.cell 5 (v:=dn) rfl;have f1:=hD.frozen 1;have f2:=hD.frozen 2;have f5:=hD.frozen 5;have lD:=hD.lt;go_enter func56,ntmps56;have hne:=hD.ne_map hown;have hown1:=(hown.setCell (a:=⟨db,1,none⟩) hne (.map (some w.heap.size))).alloc (.map #[] 0)
 go_wp2_with (first
  | (at_range;refine wpList_range_own _ rfl _ 97 rfl 9 101 (string_keyed underlying9) underlying97 _ b 0 _ rfl hown1 ?_;intro w1 hrg hg1 hs1)
  | go_in)
 have bD1:BoxN w1 db 100 #[.map (some b),.map (some w.heap.size),p,l,f,dn]:=((hD.set 1 (.map (some w.heap.size))).alloc (.map #[] 0)).kept hg1 (by simp);have hMn0:=World.ownsMap_made (w.setCell ⟨db,1,none⟩ (.map (some w.heap.size))) prog 9 valR;have hMn1:=hMn0.kept hg1 (by simp);rw [World.size_setCell] at hMn1
 have hgr:w.grownBy w1 (some db):=⟨hg1.os,hg1.tape,hg1.output,by rw [hs1];simp;omega,fun k hk hnk=>by
  have hd:k≠db:=fun e=>hnk (by rw [e])
  rw [hg1.block k (by simp;omega) (by simp)]
  show (((w.setCell ⟨db,1,none⟩ (.map (some w.heap.size))).heap.push _)[k]?)=_
  rw [Array.getElem?_push_lt (by simpa using hk),← Array.getElem?_eq_getElem,set_other _ _ _ _ _ hd]⟩
 have HG:=hid_intro hgr;clear hgr hg1 hs1 hown1 hown d0 d1 d2 d5 f1 f2 f5;have d2:=bD1.cell 2 (v:=p) rfl;have d5:=bD1.cell 5 (v:=dn) rfl;have f2:=bD1.frozen 2;have f5:=bD1.frozen 5;refine wp_loop_rounds 1 ?_;rw [rounds_succ]
 go_wp2_with (first
  | (at_next;refine wpList_next_ranges _ rfl _ rfl 9 (string_keyed underlying9) valR (fun v:Value=>v) (fun v:Value=>v) (fun v _ _=>⟨v,rfl⟩) (fun v _ _=>⟨v,rfl⟩) b _ 0 _ _ _ rfl hrg ?_ ?_)
  | go_in)
 ·intro _ _
  clear hrg;go_wp2
  go_end0
  have hnn:=bD1.ne_map hMn1;exact⟨rfl,⟨_,Nat.le_refl _,(hMn1.setCell (a:=⟨db,2,none⟩) hnn _).setCell (a:=⟨db,5,none⟩) hnn _,(bD1.set 2 _).set 5 _⟩,(hid_elim HG).andThen (grown_sets w1 db 2 5 _ _) (fun j e=>.inr e)⟩
 ·intro x c kl y yp w' cnt' _ h2
  have h3:false=true:=h2;cases h3
theorem Tryz.newHost (w:World):Calls prog 35 #[] w fun e w'=>∃ hb db rb md mn,e=.returned (.pointer (some ⟨hb,0,none⟩))∧BoxN w' hb 78 #[.pointer (some ⟨db,0,none⟩),.pointer (some ⟨rb,0,none⟩),.pointer none]∧DiskAt w' db md mn none none (.slice none 0 0) (-1) (-1)∧BoxN w' rb 88 #[.slice none 0 0,.int .u64 0]∧(w.heap.size≤hb∧w.heap.size≤db∧w.heap.size≤rb∧w.heap.size≤md∧w.heap.size≤mn)∧Below w.heap.size w w':=by
 have hmk:∀ W,(Instr.makeMap 97 none).run prog W=.ok (.map (some W.heap.size)) (W.alloc (.map #[] 0)):=fun W=>run_makeMap _ W
 have bD:=((BoxN.new (w.alloc (.map #[] 0)) 100 #[.map (some w.heap.size),.map none,.slice none 0 0,.int .i64 (-1),.int .i64 (-1),.bool false]).alloc (.cells #[.slice none 0 0,.int .u64 0] 88)).alloc (.cells #[.pointer (some ⟨w.heap.size+1,0,none⟩),.pointer (some ⟨w.heap.size+1+1,0,none⟩),.pointer none] 78);have bR:=(BoxN.new ((w.alloc (.map #[] 0)).alloc (.cells #[.map (some w.heap.size),.map none,.slice none 0 0,.int .i64 (-1),.int .i64 (-1),.bool false] 100)) 88 #[.slice none 0 0,.int .u64 0]).alloc (.cells #[.pointer (some ⟨w.heap.size+1,0,none⟩),.pointer (some ⟨w.heap.size+1+1,0,none⟩),.pointer none] 78);have bH:=BoxN.new (((w.alloc (.map #[] 0)).alloc (.cells #[.map (some w.heap.size),.map none,.slice none 0 0,.int .i64 (-1),.int .i64 (-1),.bool false] 100)).alloc (.cells #[.slice none 0 0,.int .u64 0] 88)) 78 #[.pointer (some ⟨w.heap.size+1,0,none⟩),.pointer (some ⟨w.heap.size+1+1,0,none⟩),.pointer none];have hM:((((w.alloc (.map #[] 0)).alloc (.cells #[.map (some w.heap.size),.map none,.slice none 0 0,.int .i64 (-1),.int .i64 (-1),.bool false] 100)).alloc (.cells #[.slice none 0 0,.int .u64 0] 88)).alloc (.cells #[.pointer (some ⟨w.heap.size+1,0,none⟩),.pointer (some ⟨w.heap.size+1+1,0,none⟩),.pointer none] 78)).ownsMap prog 9 valR w.heap.size 0 (.map []):=(((World.ownsMap_made w prog 9 valR).alloc _).alloc _).alloc _;have hB:Below w.heap.size w ((((w.alloc (.map #[] 0)).alloc (.cells #[.map (some w.heap.size),.map none,.slice none 0 0,.int .i64 (-1),.int .i64 (-1),.bool false] 100)).alloc (.cells #[.slice none 0 0,.int .u64 0] 88)).alloc (.cells #[.pointer (some ⟨w.heap.size+1,0,none⟩),.pointer (some ⟨w.heap.size+1+1,0,none⟩),.pointer none] 78)):=((((Below.refl _ w).alloc (Nat.le_refl _) _).alloc (by simp) _).alloc (by simp;omega) _).alloc (by simp;omega) _;simp only [World.size_alloc] at bD bR bH;have hU:=up _ _ _ _ _ _ _ _ bD hM;go_enter func35,ntmps35
 go_wp2_with (go_at_call 56;refine hU.mono ?_;rintro e w1 ⟨rfl,⟨b2,hb2,hM2,bD1⟩,hg1⟩)
 go_ret;have hM1:=hM.kept hg1 (by intro e;injection e with e;omega);simp only [World.size_alloc] at hb2;exact⟨_,_,_,w.heap.size,b2,rfl,bH.kept hg1 (by intro e;injection e with e;omega),⟨bD1,⟨0,by omega,hM1⟩,⟨0,by omega,hM2⟩,by simp,by simp,by omega⟩,bR.kept hg1 (by intro e;injection e with e;omega),⟨by omega,by omega,by omega,by omega,by omega⟩,hB.grown hg1 (by simp;omega) (fun q hq=>by cases hq;omega)⟩
end Go.Proofs
namespace Go.Proofs
open Go.RowKit Go.Sort Go.Lib Go.Shelf Go.Maps
theorem Tryz.jOpen_nil (db md mn:Nat) (fd:Option (Nat × List UInt8)) (l f:Int) (tv:Value) (w:World) (hD:DiskAt w db md mn fd none (.slice none 0 0) l f) (hE:Env w) (h9:9≤w.heap.size) (hG:ErrT w) :
  Calls prog 99 #[diskV db,tv] w fun e w'=>e=.returned (.tuple #[.pointer (some ⟨w.heap.size,0,none⟩),.nilIface])∧BoxN w' w.heap.size 212 #[diskV db,.int .u64 0,.nilIface]∧Below w.heap.size w w':=by
 have hB0:Below w.heap.size w (w.alloc (.cells #[diskV db,.int .u64 0,.nilIface] 212)):=(Below.refl _ w).alloc (Nat.le_refl _) _;have bJ:=BoxN.new w 212 #[diskV db,.int .u64 0,.nilIface];have hF:=callsIn_wide.1 (jFind_nil w.heap.size db md mn _ _ fd l f _ bJ (hD.below hB0))
 have hT:=fun W (hb:Below w.heap.size w W)=>tellAll_nil tv W (hE.below hb (by omega)) (Nat.le_trans h9 hb.size) (hG.below (hb.mono h9))
 unfold diskV at hF hB0 bJ ⊢;go_enter func99,ntmps99
 go_wp2_with (first
  | (go_at_call 146;refine hF.mono ?_;rintro e w1 ⟨rfl,hb1⟩;have hB1:=hB0.trans (hb1.mono (by simp));have bJ1:=bJ.below hb1 (by simp))
  | (go_at_call 147;refine(hT _ hB1).mono ?_;rintro e w2 ⟨rfl,hb2⟩))
 go_ret2
 exact⟨rfl,bJ1.below hb2 bJ1.lt,hB1.trans (hb2.mono hB1.size)⟩
def Tryz.rootV:Value:=.agg #[.int .i64 0,.int .u64 0,.int .u64 18446744073709551615,.int .i64 0,.bool false]
theorem Tryz.rootMap:(DataW.map []).put (nmL (1,0)) (.held rootV)=mapD ([rootE].map TokE.key).reverse:=by rfl
theorem rootOk:ListsOk [rootE] []:=⟨by simp,by simp,by simp,by simp,fun t ht=>by rw [List.mem_singleton.1 ht];exact⟨by show (0:Nat)<u64lim;decide,by show (0:Nat)<u64lim;decide⟩,fun l hl=>(by cases hl)⟩
theorem Tryz.open_nil (db md mn rb:Nat) (l f now:Int) (w:World) (hD:DiskAt w db md mn none none (.slice none 0 0) l f) (hE:Env w) (h9:9≤w.heap.size) (hG:ErrT w) (t0:0≤now) (t1:now≤18446744073709551615) (d9:9≤db∧9≤md∧9≤mn) :
  Calls prog 55 #[diskV db,.iface 75 (.pointer (some ⟨rb,0,none⟩)),.int .u64 now] w fun e w'=>∃ vb mt ml jb,e=.returned (.tuple #[.pointer (some ⟨vb,0,none⟩),.nilIface])∧Whole w' ⟨vb,mt,ml,jb,db,md,mn⟩ ⟨.pointer (some ⟨jb,0,none⟩),.iface 75 (.pointer (some ⟨rb,0,none⟩)),false,.slice none 0 0⟩ now ⟨0,0,[rootE],[]⟩ [] l f∧(w.heap.size≤vb∧w.heap.size≤mt∧w.heap.size≤ml∧w.heap.size≤jb)∧Below w.heap.size w w':=by
 have hmkT:∀ W,(Instr.makeMap 120 none).run prog W=.ok (.map (some W.heap.size)) (W.alloc (.map #[] 0)):=fun W=>run_makeMap _ W
 have hmkL:∀ W,(Instr.makeMap 121 none).run prog W=.ok (.map (some W.heap.size)) (W.alloc (.map #[] 0)):=fun W=>run_makeMap _ W
 have hR:=fun W=>root W
 unfold nmV at hR;have hM:=World.ownsMap_made w prog 114 valR;have hB0:Below w.heap.size w (w.alloc (.map #[] 0)):=(Below.refl _ w).alloc (Nat.le_refl _) _
 have hO:=fun W tv (hb:Below w.heap.size w W)=>jOpen_nil db md mn none l f tv W (hD.below hb) (hE.below hb (by omega)) (Nat.le_trans h9 hb.size) (hG.below (hb.mono h9))
 unfold diskV at hO ⊢;go_enter func55,ntmps55
 go_wp2_with (first
  | (go_at_call 85;refine(hR _).mono ?_;rintro e w1 ⟨rfl,hb1⟩;have hM1:=ownsMap_below hM hb1;have hB1:=hB0.trans (hb1.mono (by simp));obtain⟨w2,hrun,hM2,hT2⟩:=hM1.store keyedName underlying120 (by decide) (key:=nmV (1,0)) (val:=rootV) (nmType.keyOf ⟨by decide,by decide⟩) (d:=.held rootV) (ps:=[]) rfl;have hB2:=hB1.grown hT2.grown hB1.size (fun q hq=>by cases hq;omega);have hB4:=hB2.alloc hB2.size (.map #[] 0);have hB5:=hB4.alloc hB4.size (.cells #[.pointer none,.iface 75 (.pointer (some ⟨rb,0,none⟩)),.int .u64 now,.map (some w.heap.size),.map (some w2.heap.size),.int .u64 0,.int .u64 0,.bool false,.slice none 0 0] 126);unfold nmV rootV at hrun)
  | (go_at_call 99;refine(hO _ _ hB5).mono ?_;rintro e w6 ⟨rfl,bJ6,hb6⟩;have bV5:=BoxN.new (w2.alloc (.map #[] 0)) 126 #[.pointer none,.iface 75 (.pointer (some ⟨rb,0,none⟩)),.int .u64 now,.map (some w.heap.size),.map (some w2.heap.size),.int .u64 0,.int .u64 0,.bool false,.slice none 0 0];rw [World.size_alloc] at bV5;have bV6:=bV5.below hb6 (by simp);have v0:=bV6.cell 0 (v:=.pointer none) rfl;have v0f:=bV6.frozen 0))
 simp only [World.size_alloc] at bJ6;have hz2:=hB2.size;have hMl5:=(World.ownsMap_made w2 prog 114 valR).alloc (.cells #[.pointer none,.iface 75 (.pointer (some ⟨rb,0,none⟩)),.int .u64 now,.map (some w.heap.size),.map (some w2.heap.size),.int .u64 0,.int .u64 0,.bool false,.slice none 0 0] 126);have hMt5:=(hM2.alloc (.map #[] 0)).alloc (.cells #[.pointer none,.iface 75 (.pointer (some ⟨rb,0,none⟩)),.int .u64 now,.map (some w.heap.size),.map (some w2.heap.size),.int .u64 0,.int .u64 0,.bool false,.slice none 0 0] 126);have hMl6:=ownsMap_below hMl5 hb6;have hMt6:=ownsMap_below hMt5 hb6;have hB6:=hB5.trans (hb6.mono hB5.size);have hB7:=hB6.setCell (p:=⟨w2.heap.size+1,0,none⟩) (by simp;omega) (.pointer (some ⟨w2.heap.size+1+1,0,none⟩));have hS7:Spares [w2.heap.size+1] w6 (w6.setCell ⟨w2.heap.size+1,0,none⟩ (.pointer (some ⟨w2.heap.size+1+1,0,none⟩))):=(Spares.of_below (Below.refl _ _)).set (by simp) _ _;have hMl7:=hS7.map hMl6 (by simp);have hMt7:=hS7.map hMt6 (by simp;have:=hM2.lt;omega);have bJ7:=hS7.box bJ6 (by simp);have bV7:=bV6.set 0 (.pointer (some ⟨w2.heap.size+1+1,0,none⟩));have hD7:=hD.below hB7;rw [show ((DataW.map []).put (Lit.string (nmB (1,0))) (.held rootV))=mapD ([rootE].map TokE.key).reverse from rootMap] at hMt7
 exact bodyPost_ret (v:=.tuple #[.pointer (some ⟨w2.heap.size+1,0,none⟩),.nilIface]) (by simp [results,results55,go_sem]) rfl ⟨w2.heap.size+1,w.heap.size,w2.heap.size,w2.heap.size+1+1,rfl,
  { v:={ va:=⟨bV7,⟨⟨_,by decide,hMt7⟩,⟨0,by decide,hMl7⟩⟩,rootOk,hE.below hB7 (by omega),by have:=hB7.size;omega⟩,nt:=fun t ht=>by rw [List.mem_singleton.1 ht];exact Nat.le_refl _,nl:=fun l hl=>(by cases hl),t0:=t0,t1:=t1,okT:=fun t ht=>by rw [List.mem_singleton.1 ht];exact⟨by decide,by decide,by decide,by decide,.inr (.inr ⟨rfl,rfl⟩)⟩,okL:=fun l hl=>(by cases hl),mne:=by have:=hM2.lt;show w.heap.size≠w2.heap.size;omega,v9:=by show 9≤w2.heap.size+1;omega,m9:=h9,l9:=by show 9≤w2.heap.size;omega },jn:=rfl,j:=bJ7,d:=⟨none,none,hD7,rfl,rfl⟩,j9:=by show 9≤w2.heap.size+1+1;omega,d9:=d9.1,md9:=d9.2.1,mn9:=d9.2.2,ne1:=by have:=hD.lt;show md≠w.heap.size∧md≠w2.heap.size∧mn≠w.heap.size∧mn≠w2.heap.size;omega,log:=Log.nil now },by omega,hB7⟩
end Go.Proofs
namespace Go.Proofs
open Go.RowKit Go.Sort Go.Lib Go.Shelf Go.Maps Go.WideMaps
theorem Tryz.dSync_nil (db md mn:Nat) (fd fn:Option (Nat × List UInt8)) (l f:Int) (w:World) (hD:DiskAt w db md mn fd fn (.slice none 0 0) l f) (hl:l<0) (hl1 : -1000000000≤l) (hf:f<0) (hf1 : -1000000000≤f) :
  Calls prog 309 #[.pointer (some ⟨db,0,none⟩)] w fun e w'=>e=.returned .nilIface∧DiskAt w' db md mn fd fn (.slice none 0 0) (l-1) (f-1)∧Spares [db] w w':=by
 have hW:=dWrites' db _ _ _ l f _ hD.box hl hl1 hf hf1;go_enter func309,ntmps309
 go_wp2_with (go_at_call 314;refine hW.mono ?_;rintro e W1 ⟨rfl,bD1,hS1⟩;have d2:=bD1.cell 2 (v:=.slice none 0 0) rfl;have f2:=bD1.frozen 2)
 have hD1:=hD.cells hS1 bD1;have hD3:=hD1.cells ((Spares.of_below (Below.refl _ W1)).set (bs:=[db]) (by simp) 2 (.slice none 0 0)) (bD1.set 2 _);have hs3:=hS1.set (b:=db) (by simp) 2 (.slice none 0 0);refine wp_loop_rounds 1 ?_;rw [rounds_succ];go_wp2;go_ret;exact⟨rfl,hD3,hs3⟩
theorem Tryz.jOpen_one (db md mn b vb mt ml:Nat) (fd:Option (Nat × List UInt8)) (l f:Int) (vx:VX) (tm:Int) (s:VSt) (ls:List LineD) (hok:OkL ls s) (hne:ls ≠ []) (hlen:(textL ls).length<4294967281) (w:World)
  (hD:DiskAt w db md mn fd (some (b,textL ls)) (.slice none 0 0) l f) (hl:l<0) (hl1 : -1000000000≤l) (hf:f<0) (hf1 : -1000000000≤f) (hV:VF w vb mt ml vx (tm,s)) (h9:9≤w.heap.size) (hG:ErrT w) (d9:9≤db)
  (n1:db ∉ [vb,mt,ml]) (n2:md ∉ [vb,mt,ml]) (n3:mn ∉ [vb,mt,ml]) (n4:∀ q,fd=some q→q.1 ∉ [vb,mt,ml]) (n5:b ∉ [vb,mt,ml]) :
  Calls prog 99 #[diskV db,.func (.func 100) #[.pointer (some ⟨vb,0,none⟩)] #[]] w fun e w'=>e=.returned (.tuple #[.pointer (some ⟨w.heap.size,0,none⟩),.nilIface])∧BoxN w' w.heap.size 212 #[diskV db,.int .u64 0,.nilIface]∧VF w' vb mt ml vx (tmL tm ls,playL ls s)∧DiskAt w' db md mn fd (some (b,textL ls)) (.slice none 0 0) (l-1) (f-1)∧Spares [db,vb,mt,ml] w w':=by
 have hm:=fun W=>method_sync db W
 have hB0:Below w.heap.size w (w.alloc (.cells #[diskV db,.int .u64 0,.nilIface] 212)):=(Below.refl _ w).alloc (Nat.le_refl _) _;have bJ:=BoxN.new w 212 #[diskV db,.int .u64 0,.nilIface]
 have hasc:∀ x∈textL ls,x.toNat<128:=fun x hx=>by
  obtain⟨li,hli,hx⟩:=List.mem_flatMap.1 hx
  have h1:Ascii (recLine li.recs):=by
   unfold recLine;rw [lineL_body];exact Ascii.cons (by decide) (ascii_body (ascii_text _ (fun r hr=>(hok.back li hli r hr).c)))
  exact h1 x hx
 have hF:=callsIn_wide.1 (jFind_one w.heap.size db md mn b _ (textL ls) fd l f _ bJ (hD.below hB0) hlen hasc (begB_text hok hne) (hV.below hB0).va.env (Nat.le_trans h9 hB0.size) (hG.below (hB0.mono h9)))
 have hSy:=fun W (hb:Below w.heap.size w W)=>dSync_nil db md mn fd _ l f W (hD.below hb) hl hl1 hf hf1
 have hT:=fun W (hV:VF W vb mt ml vx (tm,s)) (h9:9≤W.heap.size) (hG:ErrT W)=>tellAll vb mt ml vx tm s ls hok hlen W hV h9 hG
 have hnt:textL ls ≠ []:=fun e=>by
  have:=lines_le ls;rw [e] at this;exact hne (List.eq_nil_of_length_eq_zero (by simpa using this))
 have lv:=hV.va.v.lt;have lh:=hV.va.held.lt;have lD:=hD.lt;generalize textL ls=txt at *;generalize playL ls s=s' at *;generalize tmL tm ls=tm' at *
 have hnb:(txt == [])=false:=by simpa using hnt
 unfold diskV at hF hB0 bJ ⊢;go_enter func99,ntmps99
 go_wp2_with (first
  | (go_at_call 146;refine hF.mono ?_;rintro e w1 ⟨rfl,hb1⟩;have hB1:=hB0.trans (hb1.mono (by simp));have bJ1:=bJ.below hb1 (by simp))
  | (go_at_call 309;refine(hSy _ hB1).mono ?_;rintro e w2 ⟨rfl,hD2,hS2⟩;have hV2:=(hV.below hB1).spared hS2 (by simp at n1 ⊢;omega) (by simp at n1 ⊢;omega) (by simp at n1 ⊢;omega) (fun b hb=>by rw [List.mem_singleton.1 hb];omega);have hG2:=hG.below (((hB1.mono h9)).trans (hS2.below (by have:=hB1.size;omega) (fun b hb=>by rw [List.mem_singleton.1 hb];exact d9)));have hT2:=hT w2 hV2 (by have:=hB1.size;have:=hS2.size;omega) hG2)
  | (go_at_call 147;refine hT2.mono ?_;rintro e w3 ⟨rfl,hV3,hS3⟩))
 go_ret2
 exact⟨rfl,hS3.box (hS2.box bJ1 (by simp;omega)) (by simp;omega),hV3,hD2.spared hS3 n1 n2 n3 n4 (fun q hq=>by cases hq;exact n5),((Spares.of_below hB1).trans (hS2.mono (by simp))).trans (hS3.mono (by simp))⟩
theorem spares_new {bs bs':List Nat} {W W' W'':World} (h:Below W.heap.size W W') (h':Spares bs' W' W'') (hg:∀ b∈bs',b∈bs∨W.heap.size≤b):Spares bs W W'':=
 ⟨h'.os.trans h.os,h'.tape.trans h.tape,h'.output.trans h.output,Nat.le_trans h.size h'.size,fun k hk hn=>(h'.block k (Nat.lt_of_lt_of_le hk h.size) (fun e=>by
  rcases hg k e with e | e
  ·exact hn e
  ·omega)).trans (h.block k hk)⟩
theorem spares_grown {bs:List Nat} {W W' W'':World} {b:Nat} (h:Spares bs W W') (hg:W'.grownBy W'' (some b)) (hb:W.heap.size≤b):Spares bs W W'':=
 ⟨hg.os.trans h.os,hg.tape.trans h.tape,hg.output.trans h.output,Nat.le_trans h.size hg.size,fun k hk hn=>(hg.block k (Nat.lt_of_lt_of_le hk h.size) (fun e=>by injection e with e;omega)).trans (h.block k hk hn)⟩
theorem Tryz.VFull.reJ {W:World} {vb mt ml:Nat} {vx:VX} {tm:Int} {tn ln:Nat} {tks:List TokE} {lks:List LeaE} (h:VFull W vb mt ml vx tm tn ln tks lks) (j:Value):VFull (W.setCell ⟨vb,0,none⟩ j) vb mt ml { vx with jn:=j } tm tn ln tks lks:=by
 have hS:Spares [vb] W (W.setCell ⟨vb,0,none⟩ j):=(Spares.of_below (Below.refl _ W)).set (by simp) _ _;have bV:BoxN (W.setCell ⟨vb,0,none⟩ j) vb 126 (vaultC { vx with jn:=j } tm mt ml tn ln):=h.va.v.set 0 j;obtain⟨n1,k1,m1⟩:=h.va.held.mapT;obtain⟨n2,k2,m2⟩:=h.va.held.mapL;have hb6:=hS.below (B:=6) h.va.six (fun b hb=>by rw [List.mem_singleton.1 hb];have:=h.v9;omega);exact⟨⟨bV,⟨⟨n1,k1,hS.map m1 (by simpa using h.nes.1)⟩,⟨n2,k2,hS.map m2 (by simpa using h.nes.2)⟩⟩,h.va.ok,h.va.env.below hb6 (Nat.le_refl _),Nat.le_trans h.va.six hS.size⟩,h.nt,h.nl,h.t0,h.t1,h.okT,h.okL,h.mne,h.v9,h.m9,h.l9⟩
theorem tmL_le:∀(ls:List LineD) (tm:Int),tm≤tmL tm ls∧∀ l∈ls,l.tm≤tmL tm ls
 | [],_=>⟨Int.le_refl _,fun _ h=>by cases h⟩
 | a :: ls,tm=>by
  obtain⟨h1,h2⟩:=tmL_le ls (max tm a.tm);have e:tmL tm (a :: ls)=tmL (max tm a.tm) ls:=rfl;rw [e];refine⟨by omega,fun l hl=>?_⟩
  rcases List.mem_cons.1 hl with rfl | hl
  ·omega
  ·exact h2 l hl
theorem Tryz.open_one (db md mn rb bd b:Nat) (l f now:Int) (ls:List LineD) (hok:OkL ls rootS) (hnel:ls ≠ []) (hlen:(textL ls).length<4294967281) (w:World) (hD:DiskAt w db md mn (some (bd,textL ls)) (some (b,textL ls)) (.slice none 0 0) l f) (hl:l<0) (hl1 : -1000000000≤l) (hf:f<0) (hf1 : -1000000000≤f) (hE:Env w) (h9:9≤w.heap.size) (hG:ErrT w) (t0:0≤now) (t1:now≤18446744073709551615) (d9:9≤db∧9≤md∧9≤mn) :
  Calls prog 55 #[diskV db,.iface 75 (.pointer (some ⟨rb,0,none⟩)),.int .u64 now] w fun e w'=>∃ vb mt ml jb,e=.returned (.tuple #[.pointer (some ⟨vb,0,none⟩),.nilIface])∧Whole w' ⟨vb,mt,ml,jb,db,md,mn⟩ ⟨.pointer (some ⟨jb,0,none⟩),.iface 75 (.pointer (some ⟨rb,0,none⟩)),false,.slice none 0 0⟩ (tmL now ls) (playL ls rootS) (textL ls) (l-1) (f-1)∧(w.heap.size≤vb∧w.heap.size≤mt∧w.heap.size≤ml∧w.heap.size≤jb)∧Spares [db] w w':=by
 have hmkT:∀ W,(Instr.makeMap 120 none).run prog W=.ok (.map (some W.heap.size)) (W.alloc (.map #[] 0)):=fun W=>run_makeMap _ W
 have hmkL:∀ W,(Instr.makeMap 121 none).run prog W=.ok (.map (some W.heap.size)) (W.alloc (.map #[] 0)):=fun W=>run_makeMap _ W
 have hR:=fun W=>root W
 unfold nmV at hR;have hM:=World.ownsMap_made w prog 114 valR;have hB0:Below w.heap.size w (w.alloc (.map #[] 0)):=(Below.refl _ w).alloc (Nat.le_refl _) _;have lD:=hD.lt;have lbd:=(hD.sd _ rfl).lt;have lbn:=(hD.sn _ rfl).lt;simp only at lbd lbn
 have hO:=fun W vb mt ml vx (hb:Below w.heap.size w W) (hV:VF W vb mt ml vx (now,rootS)) (q1:w.heap.size≤vb) (q2:w.heap.size≤mt) (q3:w.heap.size≤ml)=>jOpen_one db md mn b vb mt ml (some (bd,textL ls)) l f vx now rootS ls hok hnel hlen W (hD.below hb) hl hl1 hf hf1 hV (Nat.le_trans h9 hb.size) (hG.below (hb.mono h9)) d9.1 (by simp;omega) (by simp;omega) (by simp;omega) (fun q hq=>by cases hq;simp;omega) (by simp;omega)
 have hlog:Hid (Log (tmL now ls) (playL ls rootS) (textL ls)):=hid_intro ⟨ls,hok,rfl,rfl,(tmL_le ls now).2⟩;generalize textL ls=txt at *;generalize playL ls rootS=s' at *;generalize tmL now ls=tm' at *;unfold diskV at hO ⊢;go_enter func55,ntmps55
 go_wp2_with (first
  | (go_at_call 85;refine(hR _).mono ?_;rintro e w1 ⟨rfl,hb1⟩;have hM1:=ownsMap_below hM hb1;have hB1:=hB0.trans (hb1.mono (by simp));obtain⟨w2,hrun,hM2,hT2⟩:=hM1.store keyedName underlying120 (by decide) (key:=nmV (1,0)) (val:=rootV) (nmType.keyOf ⟨by decide,by decide⟩) (d:=.held rootV) (ps:=[]) rfl;have hB2:=hB1.grown hT2.grown hB1.size (fun q hq=>by cases hq;omega);have hB4:=hB2.alloc hB2.size (.map #[] 0);have hB5:=hB4.alloc hB4.size (.cells #[.pointer none,.iface 75 (.pointer (some ⟨rb,0,none⟩)),.int .u64 now,.map (some w.heap.size),.map (some w2.heap.size),.int .u64 0,.int .u64 0,.bool false,.slice none 0 0] 126);unfold nmV rootV at hrun)
  | fail)
 have hz2:=hB2.size;have lM2:=hM2.lt;have hMl5:=(World.ownsMap_made w2 prog 114 valR).alloc (.cells #[.pointer none,.iface 75 (.pointer (some ⟨rb,0,none⟩)),.int .u64 now,.map (some w.heap.size),.map (some w2.heap.size),.int .u64 0,.int .u64 0,.bool false,.slice none 0 0] 126);have hMt5:=(hM2.alloc (.map #[] 0)).alloc (.cells #[.pointer none,.iface 75 (.pointer (some ⟨rb,0,none⟩)),.int .u64 now,.map (some w.heap.size),.map (some w2.heap.size),.int .u64 0,.int .u64 0,.bool false,.slice none 0 0] 126);rw [show ((DataW.map []).put (Lit.string (nmB (1,0))) (.held rootV))=mapD ([rootE].map TokE.key).reverse from rootMap] at hMt5;have bV5:=BoxN.new (w2.alloc (.map #[] 0)) 126 #[.pointer none,.iface 75 (.pointer (some ⟨rb,0,none⟩)),.int .u64 now,.map (some w.heap.size),.map (some w2.heap.size),.int .u64 0,.int .u64 0,.bool false,.slice none 0 0];rw [World.size_alloc] at bV5
 have hV5:VF ((w2.alloc (.map #[] 0)).alloc (.cells #[.pointer none,.iface 75 (.pointer (some ⟨rb,0,none⟩)),.int .u64 now,.map (some w.heap.size),.map (some w2.heap.size),.int .u64 0,.int .u64 0,.bool false,.slice none 0 0] 126)) (w2.heap.size+1) w.heap.size w2.heap.size ⟨.pointer none,.iface 75 (.pointer (some ⟨rb,0,none⟩)),false,.slice none 0 0⟩ (now,rootS):=
  { va:=⟨bV5,⟨⟨_,by decide,hMt5⟩,⟨0,by decide,hMl5⟩⟩,rootOk,hE.below hB5 (by omega),by have:=hB5.size;omega⟩,nt:=fun t ht=>by rw [List.mem_singleton.1 ht];exact Nat.le_refl _,nl:=fun l hl=>(by cases hl),t0:=t0,t1:=t1,okT:=fun t ht=>by rw [List.mem_singleton.1 ht];exact⟨by decide,by decide,by decide,by decide,.inr (.inr ⟨rfl,rfl⟩)⟩,okL:=fun l hl=>(by cases hl),mne:=by show w.heap.size≠w2.heap.size;omega,v9:=by show 9≤w2.heap.size+1;omega,m9:=h9,l9:=by show 9≤w2.heap.size;omega }
 have hO5:=hO _ _ _ _ _ hB5 hV5 (by omega) (Nat.le_refl _) (by omega)
 have hz5:((w2.alloc (.map #[] 0)).alloc (.cells #[.pointer none,.iface 75 (.pointer (some ⟨rb,0,none⟩)),.int .u64 now,.map (some w.heap.size),.map (some w2.heap.size),.int .u64 0,.int .u64 0,.bool false,.slice none 0 0] 126)).heap.size=w2.heap.size+1+1:=by simp
 generalize (w2.alloc (.map #[] 0)).alloc (.cells #[.pointer none,.iface 75 (.pointer (some ⟨rb,0,none⟩)),.int .u64 now,.map (some w.heap.size),.map (some w2.heap.size),.int .u64 0,.int .u64 0,.bool false,.slice none 0 0] 126)=W5 at *;rw [hz5] at hO5;clear hO hV5 bV5 hMt5 hMl5 hrun hM2 hT2 hM1 hM;refine hO5.mono ?_;rintro e w6 ⟨rfl,bJ6,hV6,hD6,hS6⟩;have v0:=hV6.va.v.cell 0 (v:=.pointer none) rfl;have v0f:=hV6.va.v.frozen 0;have hV7:=hV6.reJ (.pointer (some ⟨w2.heap.size+1+1,0,none⟩));have hS7:Spares [w2.heap.size+1] w6 (w6.setCell ⟨w2.heap.size+1,0,none⟩ (.pointer (some ⟨w2.heap.size+1+1,0,none⟩))):=(Spares.of_below (Below.refl _ _)).set (by simp) _ _;have bJ7:=hS7.box bJ6 (by simp);have hD7:=hD6.spared hS7 (by simp;omega) (by simp;omega) (by simp;omega) (fun q hq=>by cases hq;simp;omega) (fun q hq=>by cases hq;simp;omega)
 have hSp:Spares [db] w (w6.setCell ⟨w2.heap.size+1,0,none⟩ (.pointer (some ⟨w2.heap.size+1+1,0,none⟩))):=spares_new hB5 ((hS6.mono (bs':=[db,w2.heap.size+1,w.heap.size,w2.heap.size]) (by simp)).trans (hS7.mono (by simp))) (fun b hb=>by
  simp only [List.mem_cons,List.not_mem_nil,or_false] at hb ⊢
  omega)
 go_wp2
 exact bodyPost_ret (v:=.tuple #[.pointer (some ⟨w2.heap.size+1,0,none⟩),.nilIface]) (by simp [results,results55,go_sem]) rfl ⟨w2.heap.size+1,w.heap.size,w2.heap.size,w2.heap.size+1+1,rfl,
  { v:=hV7,jn:=rfl,j:=bJ7,d:=⟨_,_,hD7,rfl,rfl⟩,j9:=by show 9≤w2.heap.size+1+1;omega,d9:=d9.1,md9:=d9.2.1,mn9:=d9.2.2,ne1:=by show md≠w.heap.size∧md≠w2.heap.size∧mn≠w.heap.size∧mn≠w2.heap.size;omega,log:=hid_elim hlog },by omega,hSp⟩
end Go.Proofs
namespace Go.Proofs
open Go.RowKit Go.Sort Go.Lib Go.Shelf Go.Maps
abbrev HostP (hb db rb:Nat) (W:World):Prop:=W.cell? ⟨hb,0,none⟩=some (.pointer (some ⟨db,0,none⟩))∧W.cell? ⟨hb,1,none⟩=some (.pointer (some ⟨rb,0,none⟩))
theorem HostP.drew {hb db rb:Nat} {W:World} (h:HostP hb db rb W):HostP hb db rb W.drew:=h
theorem Tryz.hOpen0 (B hb db rb md mn:Nat) (vv ra rc:Value) (l f:Int) (now c d:Int) (w:World) (hH:BoxN w hb 78 #[.pointer (some ⟨db,0,none⟩),.pointer (some ⟨rb,0,none⟩),vv]) (hD:DiskAt w db md mn none none (.slice none 0 0) l f) (hR:BoxN w rb 88 #[ra,rc]) (hlo:B≤hb∧B≤db∧B≤rb∧B≤md∧B≤mn) (hBw:B≤w.heap.size) (b9:9≤B) (hE:Env w) (hG:ErrT w) (t0:0≤now) (t1:now≤18446744073709551615) :
  Calls prog 33 #[.pointer (some ⟨hb,0,none⟩),.int .u64 now,fallV (-1) (-1) c d] w fun e w'=>e=.returned (.int .i64 0)∧(∃ k vx,Sys B w' hb rb ⟨k,vx,now,⟨0,0,[rootE],[]⟩,[]⟩)∧Below B w w':=by
 obtain⟨lo1,lo2,lo3,lo4,lo5⟩:=hlo;have hne:=hH.ne hD.box (by decide);have hnr:=hH.ne hR (by decide);have hnd:=hD.box.ne hR (by decide);have lH:=hH.lt;have lD:=hD.lt;have bF:=BoxN.new w 29 #[.int .i64 (-1),.int .i64 (-1),.int .i64 c,.int .i64 d];have hB0:Below w.heap.size w (w.alloc (.cells #[.int .i64 (-1),.int .i64 (-1),.int .i64 c,.int .i64 d] 29)):=(Below.refl _ w).alloc (Nat.le_refl _) _;have hBf:=before hb db _ _ _ _ _ _ _ _ (-1) (-1) c d _ (hH.alloc (.cells #[.int .i64 (-1),.int .i64 (-1),.int .i64 c,.int .i64 d] 29)) (hD.box.alloc _)
 have hO:=fun W (hD':DiskAt W db md mn none none (.slice none 0 0) (-1) (-1)) (hb':Below B w W)=>open_nil db md mn rb (-1) (-1) now W hD' (hE.below hb' (by omega)) (by have:=hb'.size;omega) (hG.below (hb'.mono b9)) t0 t1 ⟨by omega,by omega,by omega⟩
 unfold fallV at hBf ⊢;go_enter func33,ntmps33
 go_wp2_with (go_at_call 40;refine hBf.mono ?_;rintro e w1 ⟨rfl,bD1,hg1⟩)
 have bH1:=(hH.alloc (.cells #[.int .i64 (-1),.int .i64 (-1),.int .i64 c,.int .i64 d] 29)).kept hg1 (by intro e;injection e with e;exact hne e);have bR1:=(hR.alloc (.cells #[.int .i64 (-1),.int .i64 (-1),.int .i64 c,.int .i64 d] 29)).kept hg1 (by intro e;injection e with e;exact hnd e.symm);have bF1:=bF.kept hg1 (by intro e;injection e with e;omega);have hD1:=(hD.below hB0).cells (Spares.of_grown hg1 (by simp)) bD1;have hB1:Below B w w1:=(hB0.mono hBw).grown hg1 (by simp;omega) (fun q hq=>by cases hq;exact lo2)
 have hP1:HostP hb db rb w1:=⟨bH1.cell 0 rfl,bH1.cell 1 rfl⟩
 have l1:=bH1.lt;have hO1:=hO w1.drew (hD1.below (Below.refl _ _).drew) hB1.drew;unfold diskV at hO1;clear hBf hO
 go_region_held3 (HostP hb db rb) (first
  | with_reducible exact HostP.drew hP1
  | with_reducible assumption) (first | (go_at_call 55;refine hO1.mono ?_;rintro e w2 ⟨vb,mt,ml,jb,rfl,hW2,hlo2,hb2⟩;have bH2:=BoxN.below (W:=w1.drew) bH1 hb2 bH1.lt;have hP2:HostP hb db rb w2:=⟨bH2.cell 0 rfl,bH2.cell 1 rfl⟩))
 have hz1:w1.drew.heap.size=w1.heap.size:=rfl;have bF2:=BoxN.below (W:=w1.drew) bF1 hb2 bF1.lt;have bR2:=BoxN.below (W:=w1.drew) bR1 hb2 bR1.lt;have hB2:Below B w w2:=hB1.drew.trans (hb2.mono (by have:=hB1.size;omega));have hS3:Spares [hb] w2 (w2.setCell ⟨hb,2,none⟩ (.pointer (some ⟨vb,0,none⟩))):=(Spares.of_below (Below.refl _ _)).set (by simp) _ _;have bH3:=bH2.set 2 (.pointer (some ⟨vb,0,none⟩));have bF3:=hS3.box bF2 (by simp;omega);have bR3:=hS3.box bR2 (by simpa using Ne.symm hnr)
 have hW3:=hW2.spared hS3 (fun b hb'=>by
  obtain⟨fd,fn,hd,-,-⟩:=hW2.d;obtain⟨n3,-,m3⟩:=hd.dm;obtain⟨n4,-,m4⟩:=hd.nm;have hz:=hlo2;simp only [Blk.turns,List.mem_cons,List.not_mem_nil,or_false] at hb';simp only [List.mem_singleton]
  rcases hb' with rfl | rfl | rfl | rfl | rfl | rfl
  ·omega
  ·omega
  ·omega
  ·exact Ne.symm hne
  ·exact BoxN.ne_map' bH2 m3
  ·exact BoxN.ne_map' bH2 m4) (by simp;omega) (fun b x hx=>by simpa using hx.ne bH2 (by decide)) (by simp;omega)
 have hB3:=hB2.setCell (p:=⟨hb,2,none⟩) lo1 (.pointer (some ⟨vb,0,none⟩));obtain⟨fd3,fn3,hD3,-,-⟩:=hW3.d;have hBa:=after hb db _ _ _ _ _ _ _ (-1) (-1) c d _ bH3 hD3.box;have fz:=bH2.frozen 2;have h2:=bH2.cell 2 (v:=vv) rfl;have g0:=bF2.cell 0 (v:=.int .i64 (-1)) rfl;have g1:=bF2.cell 1 (v:=.int .i64 (-1)) rfl;have g2:=bF2.cell 2 (v:=.int .i64 c) rfl;have g3:=bF2.cell 3 (v:=.int .i64 d) rfl
 have nF:w.heap.size≠hb:=by omega
 unfold fallV at hBa;have HW3:=hid_intro hW3;clear hW3 hW2 hD3
 go_wp2_with (first
  | (go_at_call 42;refine hBa.mono ?_;rintro e w4 ⟨rfl,bD4,hg4⟩)
  | (go_at_call 43;refine(told_nil _).mono ?_;rintro e w5 ⟨rfl,hb5⟩))
 go_ret;have kH:=bH3.kept hg4 (by intro e;injection e with e;exact hne e);have kR:=bR3.kept hg4 (by intro e;injection e with e;exact hnd e.symm);have hW4:=(hid_elim HW3).setLF (Spares.of_grown hg4 (by simp)) bD4;have hB4:=hB3.grown hg4 (by have:=hB3.size;omega) (fun q hq=>by cases hq;exact lo2);have hz:=hlo2
 have hSys:Sys B w4 hb rb ⟨⟨vb,mt,ml,jb,db,md,mn⟩,⟨.pointer (some ⟨jb,0,none⟩),.iface 75 (.pointer (some ⟨rb,0,none⟩)),false,.slice none 0 0⟩,now,⟨0,0,[rootE],[]⟩,[]⟩:={
  host:=kH,wh:=hW4,err:=hG.below (hB4.mono b9),b9:=b9,hlow:=lo1,
  low:=fun b hb'=>by
   have:=hB1.size;simp only [Blk.turns,List.mem_cons,List.not_mem_nil,or_false] at hb'
   omega,
  rvb:=⟨_,_,kR⟩,rlow:=lo3,vrv:=rfl,vtk:=rfl,due:=World.ownsRow_nil _ _ _ _ }
 exact⟨rfl,⟨_,_,hSys.below hb5⟩,hB4.trans (hb5.mono (by have:=hB4.size;omega))⟩
end Go.Proofs
