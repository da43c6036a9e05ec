import Derived.Test.YtjbekgjdempbiaaGreatDoorJCntE
import Derived.Test.YtjbekgjdempbiaaGreatDoorJRecP
import Derived.Test.YtjbekgjdempbiaaGreatDoorJAskVT
import Derived.Test.YtjbekgjdempbiaaGreatDoorJRel
import Derived.Test.YtjbekgjdempbiaaGreatDoorJQueA
import Derived.Test.YtjbekgjdempbiaaGreatDoorJVRev
set_option maxRecDepth 100000
set_option maxHeartbeats 8000000
namespace Go.Proofs
open Go.RowKit Go.Sort Go.Lib Go.Shelf Go.Maps
def tmL (tm:Int) (ls:List Yd):Int:=ls.foldl (fun t l=>max t l.tm) tm
def outS (tm:Int) (ls:List Yd) (s:VSt) (i:Nat):Int × VSt:=(tmL tm (ls.take (i-1)),playL (ls.take (i-1)) s)
theorem OkL.get:∀ {ls:List Yd} {s:VSt} {k:Nat} {l:Yd},OkL ls s->ls[k]? = some l->l.Ok (playL (ls.take k) s)
 | [],_,_,_,_,h=>by simp at h
 | a :: ls,s,0,l,h,hl=>by
  obtain rfl:a=l:=by simpa using hl
  exact h.1
 | a :: ls,s,k+1,l,h,hl=>OkL.get (ls:=ls) (s:=Yq a.is s) h.2 (by simpa using hl)
theorem Xn3 {tm:Int} {ls:List Yd} {s:VSt} {k:Nat} {l:Yd} (h:ls[k]? = some l):outS tm ls s (k+1+1)=inS (outS tm ls s (k+1)).1 l (outS tm ls s (k+1)).2 l.recs.length:=by
 have e:ls.take (k+1)=ls.take k ++ [l]:=Xgu h
 have e2:l.recs.length=l.is.length+1:=by simp [Yd.recs]
 unfold outS;rw [e2];simp only [Nat.add_sub_cancel,inS,e,tmL,playL,List.foldl_append,List.foldl_cons,List.foldl_nil,List.take_length]
theorem Xbk {t:List UInt8} (h:Ym t):Ym (bodyL t):=(Jj _).app (Ym.cons (by decide) ((Jj _).app (Ym.cons (by decide) h)))
theorem Xp1 {ls:List Yd} {l:Yd} (h:l∈ls):(bodyL (recTxt l.recs)).length<=(textL ls).length:=by
 unfold textL
 induction ls with
 | nil=>cases h
 | cons a ls ih =>
  rw [List.flatMap_cons,List.length_append]
  rcases List.mem_cons.1 h with rfl | h
  ·have:(recLine l.recs).length=(bodyL (recTxt l.recs)).length+1:=by unfold recLine;rw [Jc,List.length_cons]
   omega
  have:=ih h;omega
theorem Xjf (ls:List Yd):ls.length<=(textL ls).length:=by
 unfold textL
 induction ls with
 | nil=>simp
 | cons a ls ih =>
  rw [List.flatMap_cons,List.length_append,List.length_cons]
  have:(recLine a.recs).length=(bodyL (recTxt a.recs)).length+1:=by unfold recLine;rw [Jc,List.length_cons]
  omega
theorem Xbz {ls:List Yd} (h:ls ≠ []):textL ls ≠ []:=fun e=>by
 have:=Xjf ls;rw [e] at this;exact h (List.eq_nil_of_length_eq_zero (by simpa using this))
theorem Tryz.Xtp (vb mt ml:Nat) (vx:VX) (tm:Int) (s:VSt) (ls:List Yd) (hok:OkL ls s) (hlen:(textL ls).length<4294967281) (w:World) (hV:VF w vb mt ml vx (tm,s)) (h9:9<=w.heap.size) (hG:Ja w) :
  Calls prog 147 #[.string ⟨(textL ls).toArray⟩,.func (.func 100) #[.pointer (some ⟨vb,0,none⟩)] #[]] w fun e w'=>e=.returned (.tuple #[])/\VF w' vb mt ml vx (tmL tm ls,playL ls s)/\Spares [vb,mt,ml] w w':=by
 have hSp:=Xma (textL ls) 10 w hlen hG _ hok.split;rw [List.length_cons,List.length_map] at hSp;have bS:=BoxN.new w 9 (([] :: ls.map (fun l=>bodyL (recTxt l.recs))).map (fun x=>Value.string ⟨x.toArray⟩)).toArray;have hB0:Below w.heap.size w (w.alloc (.cells (([] :: ls.map (fun l=>bodyL (recTxt l.recs))).map (fun x=>Value.string ⟨x.toArray⟩)).toArray 9)):=(Below.refl _ w).alloc (Nat.le_refl _) _
 have hcell0:(([] :: ls.map (fun l=>bodyL (recTxt l.recs))).map (fun x=>Value.string ⟨x.toArray⟩)).toArray[0]? = some (.string ⟨#[]⟩):=by simp
 have hcell:∀(i:Nat) (l:Yd),ls[i]? = some l->(([] :: ls.map (fun l=>bodyL (recTxt l.recs))).map (fun x=>Value.string ⟨x.toArray⟩)).toArray[i+1]? = some (.string ⟨(bodyL (recTxt l.recs)).toArray⟩):=fun i l h=>by simp [h]
 have hle:∀ l∈ls,(bodyL (recTxt l.recs)).length<4294967281:=fun l hl=>Nat.lt_of_le_of_lt (Xp1 hl) hlen
 generalize (([] :: ls.map (fun l=>bodyL (recTxt l.recs))).map (fun x=>Value.string ⟨x.toArray⟩)).toArray=strs at *;have hend:Hid (outS tm ls s (ls.length+1)=(tmL tm ls,playL ls s)):=Xb (by simp [outS])
 have hn32:ls.length<=4294967290:=by have:=Xjf ls;omega
 generalize textL ls=txt at *
 obtain⟨n,hnn⟩:∃ n,ls.length=n:=⟨_,rfl⟩
 rw [hnn] at hSp hend hn32;have Hn:=Xb hnn;have lv:=hV.va.v.lt;have lh:=hV.va.held.lt;have v9:=hV.v9;have m9:=hV.m9;have l9:=hV.l9
 have hgl:∀ {W:World},Spares [vb,mt,ml] w W->Below 9 w W:=fun hS=>hS.below h9 (fun b hb=>by
  simp only [List.mem_cons,List.not_mem_nil,or_false] at hb
  omega)
 have hV0:VF (w.alloc (.cells strs 9)) vb mt ml vx (outS tm ls s 0):=by
  have:outS tm ls s 0=(tm,s):=rfl;rw [this];exact hV.below hB0
 have hz:(w.alloc (.cells strs 9)).heap.size=w.heap.size+1:=by simp
 have hS0:Spares [vb,mt,ml] w (w.alloc (.cells strs 9)):=Spares.of_below hB0
 have nS:w.heap.size ∉ [vb,mt,ml]:=by simp;omega
 clear hnn hlen
 obtain⟨w0,hw0⟩:∃ w0,w.alloc (.cells strs 9)=w0:=⟨_,rfl⟩
 rw [hw0] at hSp bS hV0 hz hS0;clear hw0 hB0;go_enter func147,ntmps147
 go_wp2_with (go_at_call 184;refine hSp.mono ?_;rintro e w1 ⟨rfl,hw1⟩;subst w1)
 go_loopw [15] (fun j wq=>∃ i:Nat,i<=n+1/\j=.int .i64 i/\VF wq vb mt ml vx (outS tm ls s i)/\BoxN wq w.heap.size 9 strs/\Spares [vb,mt,ml] w wq) (fun j _=>n+1-(intOf j).toNat)
 case atStart=>exact⟨0,Nat.zero_le _,rfl,hV0,bS,hS0⟩
 case round =>
  obtain⟨i,hil,rfl,hVq,bSq,hSq⟩:=hrel
  have hT:=fun(x:List UInt8) (hx:x.length<4294967281) (ha:∀ b∈x,b.toNat<128)=>textOf x wr hx ha hVq.va.env (Nat.le_trans h9 hSq.size) (hG.below (hgl hSq))
  by_cases hin:i<n+1
  ·cases i with
   | zero =>
    have c0:=bSq.cell 0 hcell0;have hT0:=hT [] (by decide) (by simp);rw [show wholeB []=false by decide,show txtL [] = [] by rfl] at hT0;clear hT
    go_wp2_with (go_at_call 185;refine hT0.mono ?_;rintro e w2 ⟨rfl,hb2⟩)
    go_roundw
    case rel=>exact⟨1,by omega,rfl,hVq.below hb2,bSq.below hb2 bSq.lt,hSq.trans (Spares.of_below hb2)⟩
    case measure=>simp [intOf]
   | succ k =>
    obtain⟨l,hl⟩:∃ l,ls[k]? = some l:=⟨ls[k]'(by have:=Xa Hn;omega),by simp⟩
    have hlm:=List.mem_of_getElem? hl;have c0:=bSq.cell (k+1) (hcell k l hl)
    have hlk:l.Ok (outS tm ls s (k+1)).2:=by simpa [outS] using hok.get hl
    have hstep:=Xb (Xn3 (tm:=tm) (s:=s) hl);have hbk:=hlk.back;have hasc:Ym (bodyL (recTxt l.recs)):=Xbk (Me _ (fun r hr=>(hbk r hr).c));have hT0:=hT (bodyL (recTxt l.recs)) (hle l hlm) hasc;have htl:=Zx l.recs (fun r hr=>(hbk r hr).ok)
    have hm0:0<l.recs.length:=by simp [Yd.recs]
    have hm1:l.recs.length<=501:=by have:=hlk.2.2.2;simp [Yd.recs];omega
    rw [(Xbe _ (by omega)).1,(Xbe _ (by omega)).2] at hT0
    have hPa:=fun W (hb:Below wr.heap.size wr W)=>Xrn l.recs (fun e=>by rw [e] at hm0;simp at hm0) hbk (by omega) W (hVq.below hb).va.env (by have:=hSq.size;have:=hb.size;omega) (hG.below ((hgl hSq).trans (hb.mono (by have:=hSq.size;omega))))
    have hC:=fun q r hr W=>countL vb mt ml vx (outS tm ls s (k+1)).1 l (outS tm ls s (k+1)).2 q r W hlk hr
    have hstart:outS tm ls s (k+1)=inS (outS tm ls s (k+1)).1 l (outS tm ls s (k+1)).2 0:=rfl;rw [hstart] at hVq;generalize outS tm ls s (k+1)=o1 at *;generalize bodyL (recTxt l.recs)=bod at *;generalize recTxt l.recs=rtx at *;generalize hrecs:l.recs=recs at *
    obtain⟨m,hmm⟩:∃ m,recs.length=m:=⟨_,rfl⟩
    rw [hmm] at hm0 hm1 hPa hstep;have Hm:=Xb hmm;clear hmm hT hle hcell hcell0 hasc hbk htl hlk hl hstart
    go_wp2_with (first
     | (go_at_call 185;refine hT0.mono ?_;rintro e w2 ⟨rfl,hb2⟩)
     | (go_at_call 186;refine(hPa _ hb2).mono ?_;rintro e w3 ⟨v,rfl,hown,hb3⟩;obtain⟨g,cap,rfl,hg1,hg2⟩:=hown.form hm0))
    have hR3:Zi w3 g recs:=Xcz (B:=w2.heap.size) (cap:=cap) (n:=m) (e:=135) hown;have hb4:Below wr.heap.size wr w3:=hb2.trans (hb3.mono hb2.size);have hV3:=hVq.below hb4;have bS3:=bSq.below hb4 bSq.lt;have hS3:=hSq.trans (Spares.of_below hb4)
    have ngb:g ∉ [vb,mt,ml]:=by have:=hVq.va.v.lt;have:=hVq.va.held.lt;have:=hb2.size;simp;omega
    clear hown hb3 hb2 hPa hT0 c0
    go_loopw [33] (fun j wq=>∃ q:Nat,q<=m/\j=.int .i64 q/\VF wq vb mt ml vx (inS o1.1 l o1.2 q)/\Zi wq g recs/\g<wq.heap.size/\BoxN wq w.heap.size 9 strs/\Spares [vb,mt,ml] w wq) (fun j _=>m-(intOf j).toNat)
    case atStart=>exact⟨0,Nat.zero_le _,rfl,hV3,hR3,hg2,bS3,hS3⟩
    case round =>
     clear hVq bSq hSq hV3 hR3 bS3 hS3 hb4;obtain⟨q,hq,rfl,hVq,hRq,hgq,bSq,hSq⟩:=hrel
     by_cases hqm:q<m
     ·obtain⟨r,hr⟩:∃ r,recs[q]? = some r:=⟨recs[q]'(by have:=Xa Hm;omega),by simp [Xa Hm,hqm]⟩
      have hrk:=hRq q r hr;have hB1:Below wr.heap.size wr (wr.alloc (.cells r.cells 135)):=(Below.refl _ _).alloc (Nat.le_refl _) _;have hC1:=hC q r hr _ (hVq.below hB1);have HB1:=Xb hB1;unfold Yf.cells Xi at hrk hC1 hB1;have x0:=hrk 0 _ rfl;have x1:=hrk 1 _ rfl;have x2:=hrk 2 _ rfl;have x3:=hrk 3 _ rfl;have x4:=hrk 4 _ rfl;have x5:=hrk 5 _ rfl;have x6:=hrk 6 _ rfl;have x7:=hrk 7 _ rfl;have x8:=hrk 8 _ rfl;have x9:=hrk 9 _ rfl;simp only [Nat.add_zero] at x0;obtain⟨kind,nk,nn,ak,an,pd,at_,tr,last,pth⟩:=r;simp only at x0 x1 x2 x3 x4 x5 x6 x7 x8 x9 hC1 hB1;clear hrk hC
      go_wp2_with (go_at_call 100;refine hC1.mono ?_;rintro e w4 ⟨rfl,hV4,hS4⟩)
      have hsp:Spares [vb,mt,ml] wr w4:=(Spares.of_below hB1).trans hS4;clear x0 x1 x2 x3 x4 x5 x6 x7 x8 x9 hC1
      go_roundw
      case rel=>exact⟨q+1,by omega,rfl,hV4,hRq.spared hsp hgq ngb,Nat.lt_of_lt_of_le hgq hsp.size,hsp.box bSq nS,hSq.trans hsp⟩
      case measure=>simp [intOf];omega
     obtain rfl:q=m:=by omega
     rw [<- Xa hstep] at hVq;go_wp2
     go_roundw
     case rel=>exact⟨k+1+1,by omega,rfl,hVq,bSq,hSq⟩
     case measure=>simp [intOf];omega
  obtain rfl:i=n+1:=by omega
  rw [Xa hend] at hVq;go_wp2
  go_end0
  exact⟨rfl,hVq,hSq⟩
end Go.Proofs
namespace Go.Proofs
open Go.RowKit Go.Sort Go.Lib Go.Shelf Go.Maps Go.WideMaps
theorem Xfm {bs bs':List Nat} {W W' W'':World} (h:Below W.heap.size W W') (h':Spares bs' W' W'') (hg:∀ b∈bs',b∈bs\/W.heap.size<=b):Spares bs W W'':=
 ⟨h'.os.trans h.os,h'.tape.trans h.tape,h'.output.trans h.output,Nat.le_trans h.size h'.size,fun k hk hn=>(h'.block k (Nat.lt_of_lt_of_le hk h.size) (fun e=>by
  rcases hg k e with e | e
  ·exact hn e
  omega)).trans (h.block k hk)⟩
theorem Xbp {bs:List Nat} {W W' W'':World} {b:Nat} (h:Spares bs W W') (hg:W'.grownBy W'' (some b)) (hb:W.heap.size<=b):Spares bs W W'':=
 ⟨hg.os.trans h.os,hg.tape.trans h.tape,hg.output.trans h.output,Nat.le_trans h.size hg.size,fun k hk hn=>(hg.block k (Nat.lt_of_lt_of_le hk h.size) (fun e=>by injection e with e;omega)).trans (h.block k hk hn)⟩
theorem Tryz.Yn.reJ {W:World} {vb mt ml:Nat} {vx:VX} {tm:Int} {tn ln:Nat} {tks:List Xd} {lks:List Xc} (h:Yn W vb mt ml vx tm tn ln tks lks) (j:Value):Yn (W.setCell ⟨vb,0,none⟩ j) vb mt ml { vx with jn:=j } tm tn ln tks lks:=by
 have hS:Spares [vb] W (W.setCell ⟨vb,0,none⟩ j):=(Spares.of_below (Below.refl _ W)).set (by simp) _ _;have bV:BoxN (W.setCell ⟨vb,0,none⟩ j) vb 126 (Y7 { vx with jn:=j } tm mt ml tn ln):=h.va.v.set 0 j;obtain⟨n1,k1,m1⟩:=h.va.held.mapT;obtain⟨n2,k2,m2⟩:=h.va.held.mapL;have hb6:=hS.below (B:=6) h.va.six (fun b hb=>by rw [List.mem_singleton.1 hb];have:=h.v9;omega);exact⟨⟨bV,⟨⟨n1,k1,hS.map m1 (by simpa using h.nes.1)⟩,⟨n2,k2,hS.map m2 (by simpa using h.nes.2)⟩⟩,h.va.ok,h.va.env.below hb6 (Nat.le_refl _),Nat.le_trans h.va.six hS.size⟩,h.nt,h.nl,h.t0,h.t1,h.okT,h.okL,h.mne,h.v9,h.m9,h.l9⟩
theorem Xkt:∀(ls:List Yd) (tm:Int),tm<=tmL tm ls/\∀ l∈ls,l.tm<=tmL tm ls
 | [],_=>⟨Int.le_refl _,fun _ h=>by cases h⟩
 | a :: ls,tm=>by
  obtain⟨h1,h2⟩:=Xkt ls (max tm a.tm);have e:tmL tm (a :: ls)=tmL (max tm a.tm) ls:=rfl;rw [e];refine⟨by omega,fun l hl=>?_⟩
  rcases List.mem_cons.1 hl with rfl | hl
  ·omega
  exact h2 l hl
theorem Tryz.Xps (db md n b:Nat) (m2 p l f dn:Value) (w:World) (hD:BoxN w db 100 #[.map (some md),m2,p,l,f,dn]) (hown:w.ownsMap prog 9 Ye md n (Zp (some b))) :
  Calls prog 56 #[.pointer (some ⟨db,0,none⟩)] w fun e w'=>e=.returned (.tuple #[])/\∃ b2,w.heap.size<=b2/\w'.ownsMap prog 9 Ye b2 1 (Zp (some b))/\BoxN w' db 100 #[.map (some md),.map (some b2),.slice none 0 0,l,f,.bool false]/\Spares [db] w w':=by
 have hmk:∀ W,(Instr.makeMap 97 none).run prog W=.ok (.map (some W.heap.size)) (W.alloc (.map #[] 0)):=fun W=>run_makeMap _ W
 have d0:=hD.cell 0 (v:=.map (some md)) rfl;have d1:=hD.cell 1 (v:=m2) rfl;have f1:=hD.frozen 1;have lD:=hD.lt;have lM:=hown.lt;go_enter func56,ntmps56;have hne:=hD.ne_map hown;have hown1:=(hown.setCell (a:=⟨db,1,none⟩) hne (.map (some w.heap.size))).alloc (.map #[] 0)
 go_wp2_with (first
  | (at_range;refine wpList_range_own _ rfl _ 97 rfl 9 101 (string_keyed underlying9) underlying97 _ md n _ rfl hown1 ?_;intro w1 hrg hg1 hs1)
  | go_in)
 have bD1:BoxN w1 db 100 #[.map (some md),.map (some w.heap.size),p,l,f,dn]:=((hD.set 1 (.map (some w.heap.size))).alloc (.map #[] 0)).kept hg1 (by simp);have hMn0:=World.ownsMap_made (w.setCell ⟨db,1,none⟩ (.map (some w.heap.size))) prog 9 Ye;have hMn1:=hMn0.kept hg1 (by simp);rw [World.size_setCell] at hMn1;have hS1:Spares [db] w w1:=(((Spares.of_below (Below.refl _ w)).set (by simp) 1 (.map (some w.heap.size))).alloc (.map #[] 0)).trans ⟨hg1.os,hg1.tape,hg1.output,hg1.size,fun k hk _=>hg1.block k hk (by simp)⟩
 have hs1':w1.heap.size=w.heap.size+1+1:=by simpa using hs1
 have HS:=Xb hS1
 have hrr:((w.setCell ⟨db,1,none⟩ (.map (some w.heap.size))).alloc (.map #[] 0)).heap.size=w.heap.size+1:=by simp
 rw [hrr] at hrg ⊢;clear hS1 hg1 hs1 hown1 hown d0 d1 f1 hMn0;refine wp_loop_rounds 2 ?_;rw [rounds_succ]
 go_wp2_with (first
  | (at_next;refine wpList_next_ranges _ rfl _ rfl 9 (string_keyed underlying9) Ye Value.string (fun v:Value=>v) (fun key kl hk=>by obtain⟨x,hx,_⟩:=string_of_keyOf underlying9 hk;exact⟨x,hx⟩) (fun v _ _=>⟨v,rfl⟩) md _ n _ _ _ rfl hrg ?_ ?_)
  | go_in)
 ·intro _ h0
  have h1:=h0 (.string Jw);rw [Xar] at h1;cases h1
 intro x c kl y yp w' cnt' hk hl hv hat hrg2 hlt hgr hsz hen;obtain rfl:=Xae hl;obtain⟨x',hx,hx2,-⟩:=string_of_keyOf underlying9 hk
 obtain rfl:x=x':=by cases hx;rfl
 have hxj:x=⟨#[106,111,117,114,110,97,108]⟩:=by
  have h3:Jw=x.data.toList:=by injection hx2
  apply ByteArray.ext;rw [<- Array.toArray_toList (xs:=x.data),<- h3];rfl
 subst hxj
 have hcb:c=Xb0 b:=by
  have h4:=hat (.lit (.bool true));rw [Xeq] at h4;simp only at h4
  have h5:Ye c=some (.held (Xb0 b),yp):=by rw [h4];exact hv
  exact J1 h5
 subst hcb;have bD2:=bD1.kept hgr (by intro e;injection e with e;omega);have hMn2:=hMn1.kept hgr (by intro e;injection e with e;omega);obtain⟨w3,hrun,hM3,hg3⟩:=Xk3 (o:=none) hMn2 (by omega) b;have bD3:=bD2.kept hg3 (by intro e;injection e with e;omega);have hrg3:=hrg2.kept hg3 (by intro e;injection e with e;omega) (by intro e;injection e with e;omega);have hS3:Spares [db] w w3:=Xbp (Xbp (Xa HS) hgr (by omega)) hg3 (by omega);unfold Xb0 at hrun hen;have e1:=bD2.cell 1 (v:=.map (some w.heap.size)) rfl;clear hk hl hv hat hrg hrg2 hgr hlt hx hx2 hMn1 hMn2 hg3 HS;go_wp2;have k2:=bD3.cell 2 (v:=p) rfl;have k5:=bD3.cell 5 (v:=dn) rfl;have k2f:=bD3.frozen 2;have k5f:=bD3.frozen 5;clear hen hrun e1;rw [rounds_succ]
 go_wp2_with (first
  | (at_next;refine wpList_next_ranges _ rfl _ rfl 9 (string_keyed underlying9) Ye (fun v:Value=>v) (fun v:Value=>v) (fun v _ _=>⟨v,rfl⟩) (fun v _ _=>⟨v,rfl⟩) md _ n _ _ _ rfl hrg3 ?_ ?_)
  | go_in)
 ·intro _ _
  clear hrg3;go_wp2
  go_end0
  have hnn:=bD3.ne_map hM3;exact⟨rfl,_,Nat.le_refl _,(hM3.setCell (a:=⟨db,2,none⟩) hnn _).setCell (a:=⟨db,5,none⟩) hnn _,(bD3.set 2 _).set 5 _,(hS3.set (by simp) _ _).set (by simp) _ _⟩
 intro x c kl y yp w'' cnt'' _ h2 h3;obtain rfl:=Xae h2;exact absurd h3 (by decide)
theorem Tryz.Xmc (c:Int) (h0 : -9223372036854775808<=c) (h1:c<=9223372036854775807) (w:World):Calls prog 97 #[.int .i64 c,.int .i64 1] w fun e w'=>(∃ z:Int,e=.returned (.int .i64 z))/\w'=w:=by
 by_cases hc:c<0
 ·go_enter func97,ntmps97
  go_wp2;go_ret;exact⟨⟨_,rfl⟩,rfl⟩
 go_enter func97,ntmps97;go_wp2;go_ret;exact⟨⟨_,rfl⟩,rfl⟩
theorem Tryz.Xo2 (db md mn b:Nat) (c:List UInt8) (fn:Option (Nat × List UInt8)) (l f:Int) (ke pa:Int) (p0 : -9223372036854775808<=pa) (p1:pa<=9223372036854775807) (w:World) (hD:Xj w db md mn (some (b,c)) fn (.slice none 0 0) l f) :
  Calls prog 54 #[.pointer (some ⟨db,0,none⟩),.int .i64 ke,.int .i64 pa] w fun e w'=>e=.returned (.tuple #[])/\∃ mn',w.heap.size<=mn'/\Xj w' db md mn' (some (b,c)) (some (b,c)) (.slice none 0 0) (-1) (-1)/\Spares [db] w w':=by
 have hP:=fun W=>Xmc pa p0 p1 W
 have hmk:∀ W,(Instr.makeMap 170 none).run prog W=.ok (.map (some W.heap.size)) (W.alloc (.map #[] 0)):=fun W=>run_makeMap _ W
 have d2:=hD.box.cell 2 (v:=.slice none 0 0) rfl;have d3:=hD.box.cell 3 (v:=.int .i64 l) rfl;have d4:=hD.box.cell 4 (v:=.int .i64 f) rfl;have f3:=hD.box.frozen 3;have f4:=hD.box.frozen 4;have lD:=hD.lt;obtain⟨n,hn,hm⟩:=hD.dm
 change w.ownsMap prog 9 Ye md n (Zp (some b)) at hm
 have hU:=fun W (hS:Spares [db] w W) (bD:BoxN W db 100 #[.map (some md),.map (some mn),.slice none 0 0,.int .i64 (-1),.int .i64 (-1),.bool false])=>Xps db md n b _ _ _ _ _ W bD (hS.map hm (by have:=hD.box.ne_map hm;simpa using this))
 have hS1:Spares [db] w (((w.setCell ⟨db,3,none⟩ (.int .i64 (-1))).setCell ⟨db,4,none⟩ (.int .i64 (-1))).alloc (.map #[] 0)):=(((Spares.of_below (Below.refl _ w)).set (by simp) _ _).set (by simp) _ _).alloc (.map #[] 0);have bD1:BoxN (((w.setCell ⟨db,3,none⟩ (.int .i64 (-1))).setCell ⟨db,4,none⟩ (.int .i64 (-1))).alloc (.map #[] 0)) db 100 #[.map (some md),.map (some mn),.slice none 0 0,.int .i64 (-1),.int .i64 (-1),.bool false]:=((hD.box.set 3 _).set 4 _).alloc (.map #[] 0);go_enter func54,ntmps54
 go_wp2_with (go_at_call 97;refine(hP _).mono ?_;rintro e w1 ⟨⟨z,rfl⟩,rfl⟩)
 refine wp_loop_rounds 1 ?_;rw [rounds_succ]
 go_wp2_with (go_at_call 56;refine(hU _ hS1 bD1).mono ?_;rintro e w2 ⟨rfl,mn',hge,hM2,bD2,hS2⟩)
 go_end0
 have hS3:=hS1.trans hS2;have hz1:=hS1.size;have hdb:=hD.box.ne_map hm;have bS:=hS3.box (hD.sd _ rfl) (by have:=(hD.sd _ rfl).ne hD.box (by decide);simpa using this);exact⟨rfl,mn',Nat.le_trans hz1 hge,⟨bD2,⟨n,hn,hS3.map hm (by simpa using hdb)⟩,⟨1,by omega,hM2⟩,fun q hq=>by cases hq;exact bS,fun q hq=>by cases hq;exact bS,by omega⟩,hS3⟩
theorem Tryz.Xop (hb db rb md mn b:Nat) (vv:Value) (c:List UInt8) (fn:Option (Nat × List UInt8)) (l f:Int) (ke pa:Int) (p0 : -9223372036854775808<=pa) (p1:pa<=9223372036854775807) (w:World) (hH:BoxN w hb 78 #[.pointer (some ⟨db,0,none⟩),.pointer (some ⟨rb,0,none⟩),vv]) (hD:Xj w db md mn (some (b,c)) fn (.slice none 0 0) l f) :
  Calls prog 32 #[.pointer (some ⟨hb,0,none⟩),.int .i64 ke,.int .i64 pa] w fun e w'=>e=.returned (.tuple #[])/\BoxN w' hb 78 #[.pointer (some ⟨db,0,none⟩),.pointer (some ⟨rb,0,none⟩),.pointer none]/\∃ mn',w.heap.size<=mn'/\Xj w' db md mn' (some (b,c)) (some (b,c)) (.slice none 0 0) (-1) (-1)/\Spares [hb,db] w w':=by
 have hne:=hH.ne hD.box (by decide);have h0:=hH.cell 0 (v:=.pointer (some ⟨db,0,none⟩)) rfl;have h2:=hH.cell 2 (v:=vv) rfl;have f2:=hH.frozen 2;obtain⟨n,hn,hm⟩:=hD.dm;obtain⟨n',hn',hm'⟩:=hD.nm;have hS1:Spares [hb] w (w.setCell ⟨hb,2,none⟩ (.pointer none)):=(Spares.of_below (Below.refl _ w)).set (by simp) _ _;have bH1:=hH.set 2 (.pointer none);have hD1:=hD.spared hS1 (by simpa using Ne.symm hne) (by simpa using hH.ne_map hm) (by simpa using hH.ne_map hm') (fun q hq=>by have:=(hD.sd q hq).ne hH (by decide);simpa using this) (fun q hq=>by have:=(hD.sn q hq).ne hH (by decide);simpa using this);have hC:=Xo2 db md mn b c fn l f ke pa p0 p1 _ hD1;go_enter func32,ntmps32
 go_wp2_with (go_at_call 54;refine hC.mono ?_;rintro e w2 ⟨rfl,mn',hge,hD2,hS2⟩)
 go_end0
 exact⟨rfl,hS2.box bH1 (by simpa using hne),mn',by simpa using hge,hD2,(hS1.mono (by simp)).trans (hS2.mono (by simp))⟩
end Go.Proofs
namespace Go.Proofs
open Go.RowKit Go.Sort Go.Lib Go.Shelf Go.Maps
attribute [local go_sem] Oper.semAt_some
end Go.Proofs
namespace Go.Proofs
open Go.RowKit Go.Sort Go.Lib Go.Shelf Go.Maps
section
variable {B hb rb:Nat} {k:Blk} {vx:VX} {tm:Int} {tn ln:Nat} {tks:List Xd} {lks:List Xc} {c:List UInt8} {w:World}
end
end Go.Proofs
