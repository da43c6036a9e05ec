import Derived.Test.YtjbekgjdempbiaaGreatDoorJVKeep
import Derived.Test.YtjbekgjdempbiaaGreatDoorJParse
import Derived.Test.YtjbekgjdempbiaaGreatDoorJRefG
import Derived.Laws.RangeAny
set_option maxRecDepth 100000
set_option maxHeartbeats 8000000
namespace Go.Proofs
open Go.RowKit Go.Sort Go.Lib Go.Shelf Go.Maps
theorem Tryz.Whole.lts {W:World} {k:Blk} {vx:VX} {tm:Int} {s:VSt} {c:List UInt8} {l f:Int} (hW:Whole W k vx tm s c l f):∀ b∈k.turns,b<W.heap.size:=fun b hb=>by
 obtain⟨fd,fn,hd,-,-⟩:=hW.d;have h1:=hW.v.va.v.lt;obtain⟨h2,h2'⟩:=hW.v.va.held.lt;obtain⟨h3,h4,h5⟩:=hd.lt;simp only [Blk.turns,List.mem_cons,List.not_mem_nil,or_false] at hb
 rcases hb with rfl | rfl | rfl | rfl | rfl | rfl <;> assumption
theorem Tryz.keep1 (k:Blk) (vx:VX) (tm:Int) (s:VSt) (c:List UInt8) (l f:Int) (i:Item) (w:World) (hW:Whole w k vx tm s c l f) (hl:l<0) (hl1 : -999999990≤l) (hf:f<0) (hf1 : -999999990≤f) (hc:c.length≤900000000000) (hF:i.Fits s) :
  Calls prog 66 #[.pointer (some ⟨k.vb,0,none⟩),.slice (some ⟨w.heap.size,0,none⟩) 1 1] (w.alloc (.cells i.rec_.cells 135)) fun e w'=>e=.returned .nilIface∧Whole w' k vx tm (i.app s) (c++keepLine tm [i]) (l-2) (f-2)∧Spares k.turns w w':=by
 have hB:Below w.heap.size w (w.alloc (.cells i.rec_.cells 135)):=(Below.refl _ _).alloc (Nat.le_refl _) _;have bN:=BoxN.new w 135 i.rec_.cells;have hlt:=hW.lts
 have h:=vKeep k vx tm s c l f [i] w.heap.size 1 _ (hW.below hB) hl hl1 hf hf1 hc (fun a r hr j v hv=>by
  cases a with
  | succ a=>simp at hr
  | zero =>
   obtain rfl:i.rec_=r:=by simpa using hr
   have:=bN.cell j hv
   simpa using this) (by simp) (fun hm=>by have:=hlt _ hm;omega) (by simp) (by simp) ⟨hF,trivial⟩
 refine h.mono ?_;rintro e w' ⟨rfl,h1,h2⟩;exact⟨rfl,h1,(Spares.of_below hB).trans h2⟩
theorem putLea_new {t:LeaE} {l:List LeaE} (h:∀ x∈l,x.n<t.n):putLea t l=l ++ [t]:=by
 unfold putLea;rw [if_neg];intro hx;obtain⟨x,hx,e⟩:=List.any_eq_true.1 hx;have:=h x hx
 have:x.n=t.n:=by simpa using e
 omega
theorem Tryz.VaultAt.lenL {W:World} {vb mt ml:Nat} {vx:VX} {tm tn ln:Int} {tks:List TokE} {lks:List LeaE} (h:VaultAt W vb mt ml vx tm tn ln tks lks) (ty:TypeId):(Builtin.len_ #[121] ty #[.map (some ml)]).run prog W=.ok (.int .i64 lks.length) W:=by
 obtain⟨n,_,hm⟩:=h.held.mapL;have:=hm.len underlying121 ty;rw [nmType.size_mapD _ h.ok.ksL.1] at this
 simpa using this
def newT (n m:Nat):TokE:=⟨n,1,m,18446744073709551615,0,false⟩
end Go.Proofs
namespace Go.Proofs
open Go.RowKit Go.Sort Go.Lib Go.Shelf
theorem ret_bool {a b:Bool} (h:a=b):Ending.returned (.bool a)=.returned (.bool b):=by rw [h]
def nameR (r:Int):Bool:=decide ((97≤r∧r≤122)∨(48≤r∧r≤57)∨r=45)
theorem Tryz.inName (r:Int) (w:World):Calls prog 141 #[.int .i32 r] w fun e w'=>e=.returned (.bool (nameR r))∧w'=w:=by
 have hr:Hid (nameR r=decide ((97≤r∧r≤122)∨(48≤r∧r≤57)∨r=45)):=hid_intro rfl;generalize nameR r=b at *;go_enter func141,ntmps141;go_wp2
 all_goals
  go_ret;refine⟨?_,rfl⟩;rw [hid_elim hr];refine ret_bool ?_;rw [Bool.eq_iff_iff];simp
  try omega
theorem Tryz.valid (s:List UInt8) (w:World) (hs:s.length≤1000000) :
  Calls prog 92 #[.string ⟨s.toArray⟩] w fun e w'=>e=.returned (.bool (pathI s))∧Below w.heap.size w w':=by
 have hI:=fun r W=>inName r W
 by_cases h24:24<s.length
 ·have hr:Hid (pathI s=false):=hid_intro (by simp [pathI];omega)
  go_enter func92,ntmps92;go_wp2;go_ret;exact⟨by rw [hid_elim hr];rfl,Below.refl _ _⟩
 ·go_enter func92,ntmps92
  go_wp2
  go_loopw [3] (fun pv wr=>∃(k:Nat) (b:Bool) (z:Int),k≤s.length∧wr=w.iter ⟨s.toArray⟩ k∧pv=.int .i32 z∧Hid ((z=47↔b=false)∧(s.take k).foldl pstep (some false)=some b)) (fun _ wr=>s.length-wr.iterPos w.heap.size)
  case atStart=>exact⟨0,false,47,Nat.zero_le _,rfl,rfl,hid_intro ⟨by simp,rfl⟩⟩
  case round =>
   obtain⟨k,b,z,hk,rfl,rfl,hst⟩:=hrel
   by_cases hkl:k<s.length
   ·obtain⟨c,hc⟩:∃ c,s[k]? = some c:=⟨s[k],by simp [hkl]⟩
    have hck:((⟨s.toArray⟩:ByteArray)[k]'(by simpa [ByteArray.size] using hkl))=c:=by
     have h1:s[k]'hkl=c:=by simpa [hkl] using hc
     rw [← h1];rfl
    have HP:=hid_intro (fun o=>pstep_take (o:=o) hc)
    have hks:k<(⟨s.toArray⟩:ByteArray).size:=by simpa [ByteArray.size] using hkl
    by_cases h128:c.toNat<128
    ·have hnx:=fun ty=>run_next_ascii (P:=prog) w ⟨s.toArray⟩ k ty hks (by rw [hck];exact h128)
     simp only [hck] at hnx
     obtain⟨r,hr⟩:∃ r:Int,(c.toNat:Int)=r:=⟨_,rfl⟩
     rw [hr] at hnx
     have hR:=fun W=>hI r W
     have Hr:=hid_intro hr;clear hr hI
     by_cases h47:r=47
     ·subst h47
      by_cases hz:z=47
      ·subst hz
       have hres:Hid (pathI s=false):=hid_intro (by
        obtain⟨e1,e2⟩:=hid_elim hst;have hb:b=false:=e1.1 rfl;refine pathI_cut (k:=k+1) ?_;rw [hid_elim HP _ e2,pstep_bar (by have:=hid_elim Hr;omega),hb]
        rfl)
       clear hst
       go_wp2_with (go_at_call 141;fail)
       go_ret;exact⟨by rw [hid_elim hres];rfl,(Below.refl _ w).alloc (Nat.le_refl _) _⟩
      ·have hz':(z==47)=false:=by simpa using hz
       have hst':Hid ((47:Int)=47↔false=false):=hid_intro (by simp)
       have hnew:Hid ((s.take (k+1)).foldl pstep (some false)=some false):=hid_intro (by
        obtain⟨e1,e2⟩:=hid_elim hst
        have hb:b=true:=by cases b;exact absurd (e1.2 rfl) hz;rfl
        rw [hid_elim HP _ e2,pstep_bar (by have:=hid_elim Hr;omega),hb]
        rfl)
       clear hst hz
       go_wp2_with (go_at_call 141;fail)
       go_roundw
       case rel=>exact⟨k+1,false,47,by omega,rfl,rfl,hid_intro ⟨by simp,hid_elim hnew⟩⟩
       case measure=>simp;omega
     ·have h47':(r==47)=false:=by simpa using h47
      obtain⟨nb,hnb⟩:∃ nb,nameR r=nb:=⟨_,rfl⟩
      rw [hnb] at hR;have Hnb:=hid_intro hnb;have H47:=hid_intro h47;clear hnb h47;cases nb
      ·have hres:Hid (pathI s=false):=hid_intro (by
        obtain⟨e1,e2⟩:=hid_elim hst;refine pathI_cut (k:=k+1) ?_;rw [hid_elim HP _ e2];have h1:=hid_elim Hnb;have h2:=hid_elim H47;have h3:=hid_elim Hr;simp only [nameR,decide_eq_false_iff_not] at h1
        exact pstep_bad (by omega))
       by_cases hz:z=47
       ·subst hz
        clear hst
        go_wp2_with (go_at_call 141;refine(hR _).mono ?_;rintro e w1 ⟨rfl,rfl⟩)
        go_ret;exact⟨by rw [hid_elim hres];rfl,(Below.refl _ w).alloc (Nat.le_refl _) _⟩
       ·have hz':(z==47)=false:=by simpa using hz
        clear hst hz
        go_wp2_with (go_at_call 141;refine(hR _).mono ?_;rintro e w1 ⟨rfl,rfl⟩)
        go_ret;exact⟨by rw [hid_elim hres];rfl,(Below.refl _ w).alloc (Nat.le_refl _) _⟩
      ·have hnew:Hid ((r=47↔true=false)∧(s.take (k+1)).foldl pstep (some false)=some true):=hid_intro (by
        obtain⟨e1,e2⟩:=hid_elim hst;have h1:=hid_elim Hnb;have h2:=hid_elim H47;have h3:=hid_elim Hr;simp only [nameR,decide_eq_true_eq] at h1
        exact⟨by simp [h2],by rw [hid_elim HP _ e2];exact pstep_good (by omega)⟩)
       by_cases hz:z=47
       ·subst hz
        clear hst
        go_wp2_with (go_at_call 141;refine(hR _).mono ?_;rintro e w1 ⟨rfl,rfl⟩)
        go_roundw
        case rel=>exact⟨k+1,true,r,by omega,rfl,rfl,hnew⟩
        case measure=>simp;omega
       ·have hz':(z==47)=false:=by simpa using hz
        clear hst hz
        go_wp2_with (go_at_call 141;refine(hR _).mono ?_;rintro e w1 ⟨rfl,rfl⟩)
        go_roundw
        case rel=>exact⟨k+1,true,r,by omega,rfl,rfl,hnew⟩
        case measure=>simp;omega
    ·have hnx:=fun ty=>run_next_any (P:=prog) w ⟨s.toArray⟩ k ty hks
     obtain⟨hd,-⟩:=decode_high ⟨s.toArray⟩ k hks (by rw [hck];omega)
     obtain⟨r,hr⟩:∃ r:Int,((Utf8.decode ⟨s.toArray⟩ k).1:Int)=r:=⟨_,rfl⟩
     rw [hr] at hnx
     have hr128:128≤r:=by omega
     have hR:=fun W=>hI r W
     have hnb:nameR r=false:=by simp only [nameR,decide_eq_false_iff_not];omega
     rw [hnb] at hR
     have h47':(r==47)=false:=by simp;omega
     have hres:Hid (pathI s=false):=hid_intro (by
      obtain⟨e1,e2⟩:=hid_elim hst;refine pathI_cut (k:=k+1) ?_;rw [hid_elim HP _ e2]
      exact pstep_bad (by omega))
     generalize (Utf8.decode ⟨s.toArray⟩ k).2=wd at *
     have h47p:¬ r=47:=by omega
     clear hr hI hd hnb hr128
     by_cases hz:z=47
     ·subst hz
      clear hst
      go_wp2_with (go_at_call 141;refine(hR _).mono ?_;rintro e w1 ⟨rfl,rfl⟩)
      go_ret;exact⟨by rw [hid_elim hres];rfl,(Below.refl _ w).alloc (Nat.le_refl _) _⟩
     ·have hz':(z==47)=false:=by simpa using hz
      clear hst hz
      go_wp2_with (go_at_call 141;refine(hR _).mono ?_;rintro e w1 ⟨rfl,rfl⟩)
      go_ret;exact⟨by rw [hid_elim hres];rfl,(Below.refl _ w).alloc (Nat.le_refl _) _⟩
   ·obtain rfl:k=s.length:=by omega
    have hnx:=fun ty=>run_next_end (P:=prog) w ⟨s.toArray⟩ s.length ty (by simp [ByteArray.size])
    have hres:Hid (pathI s=(z != 47)):=hid_intro (by
     obtain⟨e1,e2⟩:=hid_elim hst;rw [List.take_length] at e2
     have h24':s.length≤24:=by omega
     cases b
     ·rw [e1.2 rfl];simp [pathI,e2]
     ·have hz:z≠47:=fun e=>by have:=e1.1 e;cases this
      simp [pathI,e2,h24',hz])
    clear hst;go_wp2;go_ret;exact⟨by rw [hid_elim hres];rfl,(Below.refl _ w).alloc (Nat.le_refl _) _⟩
end Go.Proofs
namespace Go.Proofs
open Go.RowKit Go.Sort Go.Lib Go.Shelf Go.Maps
def mayE (lv pv:Bool) (ttl most:Int) (nl:Nat) (tm:Int):Int:=
 if lv=false then 1 else if pv=false then 2 else if ttl=0∨most<ttl then 3 else if 14≤nl then 4 else if tm=18446744073709551615 then 3 else 0
def Tryz.errV (k:Int):Value:=if k=0 then .nilIface else .iface 33 (.int .i64 k)
theorem Tryz.errV_nz {k:Int} (h:k≠0):errV k=.iface 33 (.int .i64 k):=if_neg h
theorem Tryz.mayIssue (vb mt ml:Nat) (vx:VX) (tm tn ln:Int) (tks:List TokE) (lks:List LeaE) (w:World) (hV:VaultAt w vb mt ml vx tm tn ln tks lks) (x:Int × Int) (lv:Bool) (pth:List UInt8) (hpl:pth.length≤1000000) (ttl most:Int)
  (hF:∀ W,Below w.heap.size w W→Calls prog 83 #[.pointer (some ⟨vb,0,none⟩),nmV x] W fun e w'=>e=.returned (.bool lv)∧Below W.heap.size W w') :
  Calls prog 64 #[.pointer (some ⟨vb,0,none⟩),nmV x,.string ⟨pth.toArray⟩,.int .u64 ttl,.int .u64 most] w fun e w'=>e=.returned (errV (mayE lv (pathI pth) ttl most lks.length tm))∧Below w.heap.size w w':=by
 have hb0:Below w.heap.size w (w.alloc (.cells #[.int .i64 x.1,.int .u64 x.2] 114)):=(Below.refl _ w).alloc (Nat.le_refl _) _;have hF1:=hF _ hb0
 have hVal:=fun W=>valid pth W hpl
 have hlen:=fun W (hb:Below w.heap.size w W)=>(hV.below hb).lenL
 have hcell:=fun W (hb:Below w.heap.size w W)=>(hV.below hb).v.cell 4 (v:=.map (some ml)) rfl
 have htime:=fun W (hb:Below w.heap.size w W)=>(hV.below hb).v.cell 2 (v:=.int .u64 tm) rfl
 have hr:Hid (mayE lv (pathI pth) ttl most lks.length tm=if lv=false then 1 else if pathI pth=false then 2 else if ttl=0∨most<ttl then 3 else if 14≤lks.length then 4 else if tm=18446744073709551615 then 3 else 0):=hid_intro rfl;generalize mayE lv (pathI pth) ttl most lks.length tm=r at *;generalize pathI pth=pv at *;unfold nmV at hF1 ⊢;clear hF;cases lv
 ·obtain rfl:r=1:=by rw [hid_elim hr];rfl
  rw [errV_nz (by decide)];clear hr;go_enter func64,ntmps64
  go_wp2_with (go_at_call 83;refine hF1.mono ?_;rintro e w1 ⟨rfl,hb1⟩)
  go_ret;exact⟨rfl,hb0.trans (hb1.mono (by simp))⟩
 ·cases pv
  ·obtain rfl:r=2:=by rw [hid_elim hr];rfl
   rw [errV_nz (by decide)];clear hr;go_enter func64,ntmps64
   go_wp2_with (first
    | (go_at_call 83;refine hF1.mono ?_;rintro e w1 ⟨rfl,hb1⟩)
    | (go_at_call 92;refine(hVal _).mono ?_;rintro e w2 ⟨rfl,hb2⟩))
   go_ret;exact⟨rfl,(hb0.trans (hb1.mono (by simp))).trans (hb2.mono (by have:=hb1.size;simp at this;omega))⟩
  ·by_cases h3:ttl=0∨most<ttl
   ·obtain rfl:r=3:=by rw [hid_elim hr,if_neg (by simp),if_neg (by simp),if_pos h3]
    rw [errV_nz (by decide)];clear hr
    by_cases h0:ttl=0
    ·subst h0
     clear h3;go_enter func64,ntmps64
     go_wp2_with (first
      | (go_at_call 83;refine hF1.mono ?_;rintro e w1 ⟨rfl,hb1⟩)
      | (go_at_call 92;refine(hVal _).mono ?_;rintro e w2 ⟨rfl,hb2⟩))
     go_ret;exact⟨rfl,(hb0.trans (hb1.mono (by simp))).trans (hb2.mono (by have:=hb1.size;simp at this;omega))⟩
    ·have h0':(ttl==0)=false:=by simpa using h0
     have h3':most<ttl:=h3.resolve_left h0;clear h3 h0;go_enter func64,ntmps64
     go_wp2_with (first
      | (go_at_call 83;refine hF1.mono ?_;rintro e w1 ⟨rfl,hb1⟩)
      | (go_at_call 92;refine(hVal _).mono ?_;rintro e w2 ⟨rfl,hb2⟩))
     go_ret;exact⟨rfl,(hb0.trans (hb1.mono (by simp))).trans (hb2.mono (by have:=hb1.size;simp at this;omega))⟩
   ·have h0':(ttl==0)=false:=by simp;omega
    have h3':¬ most<ttl:=by omega
    by_cases h4:14≤lks.length
    ·obtain rfl:r=4:=by rw [hid_elim hr,if_neg (by simp),if_neg (by simp),if_neg h3,if_pos h4]
     rw [errV_nz (by decide)];clear hr h3;go_enter func64,ntmps64
     go_wp2_with (first
      | (go_at_call 83;refine hF1.mono ?_;rintro e w1 ⟨rfl,hb1⟩)
      | (go_at_call 92;refine(hVal _).mono ?_;rintro e w2 ⟨rfl,hb2⟩;have hb9:=(hb0.trans (hb1.mono (by simp))).trans (hb2.mono (by have:=hb1.size;simp at this;omega));have hl9:=hlen _ hb9;have c9:=hcell _ hb9))
     go_ret;exact⟨rfl,hb9⟩
    ·by_cases h5:tm=18446744073709551615
     ·obtain rfl:r=3:=by rw [hid_elim hr,if_neg (by simp),if_neg (by simp),if_neg h3,if_neg h4,if_pos h5]
      rw [errV_nz (by decide)];subst h5;clear hr h3;go_enter func64,ntmps64
      go_wp2_with (first
       | (go_at_call 83;refine hF1.mono ?_;rintro e w1 ⟨rfl,hb1⟩)
       | (go_at_call 92;refine(hVal _).mono ?_;rintro e w2 ⟨rfl,hb2⟩;have hb9:=(hb0.trans (hb1.mono (by simp))).trans (hb2.mono (by have:=hb1.size;simp at this;omega));have hl9:=hlen _ hb9;have c9:=hcell _ hb9;have t9:=htime _ hb9))
      go_ret;exact⟨rfl,hb9⟩
     ·obtain rfl:r=0:=by rw [hid_elim hr,if_neg (by simp),if_neg (by simp),if_neg h3,if_neg h4,if_neg h5]
      have h5':(tm==18446744073709551615)=false:=by simpa using h5
      rw [show errV 0=.nilIface from rfl];clear hr h3 h5;go_enter func64,ntmps64
      go_wp2_with (first
       | (go_at_call 83;refine hF1.mono ?_;rintro e w1 ⟨rfl,hb1⟩)
       | (go_at_call 92;refine(hVal _).mono ?_;rintro e w2 ⟨rfl,hb2⟩;have hb9:=(hb0.trans (hb1.mono (by simp))).trans (hb2.mono (by have:=hb1.size;simp at this;omega));have hl9:=hlen _ hb9;have c9:=hcell _ hb9;have t9:=htime _ hb9))
      go_ret;exact⟨rfl,hb9⟩
theorem Tryz.vIssue_err (vb mt ml:Nat) (vx:VX) (tm tn ln:Int) (tks:List TokE) (lks:List LeaE) (w:World) (hV:VaultAt w vb mt ml vx tm tn ln tks lks) (id pth:List UInt8) (hid:id.length≤1000000) (ttl most k:Int) (hk:k≠0)
  (hF:∀ W,Below w.heap.size w W→Calls prog 64 #[.pointer (some ⟨vb,0,none⟩),nmV (parseN id),.string ⟨pth.toArray⟩,.int .u64 ttl,.int .u64 most] W fun e w'=>e=.returned (errV k)∧Below W.heap.size W w') :
  Calls prog 41 #[.pointer (some ⟨vb,0,none⟩),.string ⟨id.toArray⟩,.string ⟨pth.toArray⟩,.int .u64 ttl,.int .u64 most] w fun e w'=>e=.returned (.tuple #[.string ⟨#[]⟩,.iface 33 (.int .i64 k)])∧Below w.heap.size w w':=by
 have hP:=parse ⟨id.toArray⟩ (by simpa [ByteArray.size] using hid) w hV.env hV.six;simp only at hP;rw [errV_nz hk] at hF;generalize parseN id=x at *;unfold nmV at hP hF;clear hk;go_enter func41,ntmps41
 go_wp2_with (first
  | (go_at_call 63;refine hP.mono ?_;rintro e w1 ⟨rfl,hb1⟩;have hF1:=hF _ (hb1.alloc hb1.size (.cells #[.int .i64 x.1,.int .u64 x.2] 114)))
  | (go_at_call 64;refine hF1.mono ?_;rintro e w2 ⟨rfl,hb2⟩))
 exact bodyPost_ret (v:=.tuple #[.string ⟨#[]⟩,.iface 33 (.int .i64 k)]) (by simp [results,results41,go_sem]) rfl ⟨rfl,(hb1.alloc hb1.size _).trans (hb2.mono (by have:=hb1.size;simp;omega))⟩
def newL (n m:Nat) (at_ last:Int) (pth:List UInt8):LeaE:=⟨n,1,m,at_,0,false,pth,last⟩
abbrev Tryz.IsP (vb ab:Nat) (m tm:Int) (W:World):Prop:=
 W.cell? ⟨vb,2,none⟩=some (.int .u64 tm)∧W.cell? ⟨ab,0,none⟩=some (.int .i64 1)∧W.cell? ⟨ab,1,none⟩=some (.int .u64 m)
theorem Tryz.IsP.below {vb ab:Nat} {m tm:Int} {W W':World} (h:IsP vb ab m tm W) (hb:Below W.heap.size W W'):IsP vb ab m tm W':=⟨cell_later hb h.1,cell_later hb h.2.1,cell_later hb h.2.2⟩
theorem plusI_range (a b:Int) (ha:0≤a) (ha1:a≤18446744073709551615) (hb:0≤b) (hb1:b≤18446744073709551615):0≤plusI a b∧plusI a b≤18446744073709551615:=by
 unfold plusI
 split <;> omega
theorem Tryz.vIssue_ok (k:Blk) (vx:VX) (tm:Int) (s:VSt) (c:List UInt8) (l f:Int) (w:World) (hW:Whole w k vx tm s c l f) (hl:l<0) (hl1 : -999999990≤l) (hf:f<0) (hf1 : -999999990≤f) (hc:c.length≤900000000000) (id pth:List UInt8) (hid:id.length≤1000000) (ttl most:Int) (ht0:0≤ttl) (ht1:ttl≤18446744073709551615) (hq0:0≤most) (hq1:most≤18446744073709551615) (hp24:pth.length≤24) (hpa:PathA pth) (m:Nat) (hm64:m<u64lim) (hm:parseN id=(1,(m:Int)))
  (hF:∀ W,Below w.heap.size w W→Calls prog 64 #[.pointer (some ⟨k.vb,0,none⟩),nmV (parseN id),.string ⟨pth.toArray⟩,.int .u64 ttl,.int .u64 most] W fun e w'=>e=.returned .nilIface∧Below W.heap.size W w') (h14:s.lks.length<14) (hln:s.ln<9223372036854775807) :
  Calls prog 41 #[.pointer (some ⟨k.vb,0,none⟩),.string ⟨id.toArray⟩,.string ⟨pth.toArray⟩,.int .u64 ttl,.int .u64 most] w fun e w'=>e=.returned (.tuple #[.string ⟨(nmStr 2 (s.ln+1)).toArray⟩,.nilIface])∧Whole w' k vx tm ⟨s.tn,s.ln+1,s.tks,s.lks ++ [newL (s.ln+1) m (plusI tm ttl) (plusI tm most) pth]⟩ (c++keepLine tm [.lea (newL (s.ln+1) m (plusI tm ttl) (plusI tm most) pth)]) (l-2) (f-2)∧Spares k.turns w w':=by
 have hA1:=fun W=>later tm ttl hW.v.t0 hW.v.t1 ht0 ht1 W
 have hA2:=fun W=>later tm most hW.v.t0 hW.v.t1 hq0 hq1 W
 have hr1:=plusI_range tm ttl hW.v.t0 hW.v.t1 ht0 ht1;have hr2:=plusI_range tm most hW.v.t0 hW.v.t1 hq0 hq1;generalize plusI tm ttl=at0 at *;generalize plusI tm most=la0 at *;have hP:=parse ⟨id.toArray⟩ (by simpa [ByteArray.size] using hid) w hW.v.va.env hW.v.va.six;simp only at hP
 have htime:=fun W (hb:Below w.heap.size w W)=>(hW.v.va.below hb).v.cell 2 (v:=.int .u64 tm) rfl
 have hcn:=fun W (hb:Below w.heap.size w W)=>(hW.v.va.below hb).v.cell 6 (v:=.int .u64 (s.ln:Int)) rfl
 have hfit:(Item.lea (newL (s.ln+1) m at0 la0 pth)).Fits s:=⟨⟨hr1.1,hr1.2,show (0:Int)≤0 by decide,⟨show (0:Int)≤1000000000 by decide,.inl rfl⟩,hr2.1,hr2.2,hp24,hpa⟩,.inr (fun x hx=>by have:=hW.v.nl x hx;show x.n<s.ln+1;omega),by omega,show s.ln+1<u64lim by unfold u64lim;omega,hm64⟩
 have happ:(Item.lea (newL (s.ln+1) m at0 la0 pth)).app s=⟨s.tn,s.ln+1,s.tks,s.lks ++ [newL (s.ln+1) m at0 la0 pth]⟩:=by
  show VSt.mk s.tn (max s.ln (s.ln+1)) s.tks (putLea (newL (s.ln+1) m at0 la0 pth) s.lks)=_
  rw [putLea_new (fun x hx=>by have:=hW.v.nl x hx;show x.n<s.ln+1;omega),show max s.ln (s.ln+1)=s.ln+1 by omega]
 have hK:=fun W (hb:Below w.heap.size w W)=>keep1 k vx tm s c l f (.lea (newL (s.ln+1) m at0 la0 pth)) W (hW.below hb) hl hl1 hf hf1 hc hfit
 rw [happ] at hK
 have hER:=fun W b (h0:BoxN W b 131 #[.int .i64 1,.int .u64 (m:Int),.int .u64 at0,.int .i64 0,.bool false,.string ⟨pth.toArray⟩,.int .u64 la0])=>leaRecord b 2 ((s.ln+1:Nat):Int) 1 m at0 0 false pth la0 W (h0.cell 0 rfl) (h0.cell 1 rfl) (h0.cell 2 rfl) (h0.cell 3 rfl) (h0.cell 4 rfl) (h0.cell 5 rfl) (h0.cell 6 rfl)
 have hNS:=fun W hE h6=>nameString 2 (s.ln+1) (by omega) W hE h6
 obtain⟨z,hz⟩:∃ z:Int,(s.ln:Int)=z:=⟨_,rfl⟩
 have hz2:((s.ln+1:Nat):Int)=z+1:=by omega
 have hz0:0≤z:=by omega
 have hz1:z<9223372036854775807:=by omega
 simp only [hz] at hcn;rw [hm] at hP hF;unfold nmV at hP hF;simp only at hP hF
 change ∀ W,Below w.heap.size w W→Calls prog 66 _ (W.alloc (.cells #[.int .i64 1,.int .i64 2,.int .u64 ((s.ln+1:Nat):Int),.int .i64 1,.int .u64 (m:Int),.bool false,.int .u64 at0,.int .i64 0,.int .u64 la0,.string ⟨pth.toArray⟩] 135)) _ at hK
 unfold recCells at hER;rw [hz2] at hK hER;simp only [hz2] at hNS
 obtain⟨str,hstr⟩:∃ str,nmStr 2 (s.ln+1)=str:=⟨_,rfl⟩
 rw [hstr] at hNS;have Hstr:=hid_intro hstr
 obtain⟨kl,hkl⟩:∃ kl,keepLine tm [.lea (newL (s.ln+1) m at0 la0 pth)]=kl:=⟨_,rfl⟩
 rw [hkl] at hK;have Hkl:=hid_intro hkl
 obtain⟨s',hs'⟩:∃ s':VSt,(⟨s.tn,s.ln+1,s.tks,s.lks ++ [newL (s.ln+1) m at0 la0 pth]⟩:VSt)=s':=⟨_,rfl⟩
 rw [hs'] at hK;have Hs':=hid_intro hs'
 have hfresh:∀ W,Below w.heap.size w W→W.heap.size∉k.turns:=fun W hb hm=>by
  have:=hW.lts _ hm;have:=hb.size;omega
 have lV:=hW.v.va.v.lt;clear hstr hkl hs' happ hfit hz hz2 hm hr1 hr2;go_enter func41,ntmps41
 go_wp2_with (first
  | (go_at_call 63;refine hP.mono ?_;rintro e w1 ⟨rfl,hb1⟩;have hF1:=hF _ (hb1.alloc hb1.size (.cells #[.int .i64 1,.int .u64 (m:Int)] 114)))
  | (go_at_call 64;refine hF1.mono ?_;rintro e w2 ⟨rfl,hb2⟩;have hb3:=(hb1.alloc hb1.size (.cells #[.int .i64 1,.int .u64 (m:Int)] 114)).trans (hb2.mono (by have:=hb1.size;simp;omega));have c4:=hcn _ hb3;have c5:=htime _ hb3;have bA:=(BoxN.new w1 114 #[.int .i64 1,.int .u64 (m:Int)]).below hb2 (by simp);have a0:=bA.cell 0 (v:=.int .i64 1) rfl;have a1:=bA.cell 1 (v:=.int .u64 (m:Int)) rfl;have lA:=bA.lt))
 have hz3:=hb3.size;have hP3:IsP k.vb w1.heap.size m tm (w2.alloc (.cells #[.int .i64 2,.int .u64 (z+1)] 114)).drew:=IsP.below (W:=w2) ⟨c5,a0,a1⟩ (((Below.refl _ w2).alloc (Nat.le_refl _) _).drew)
 have hP4:∀ o,IsP k.vb w1.heap.size m tm ((w2.alloc (.cells #[.int .i64 2,.int .u64 (z+1)] 114)).alloc o).drew:=fun o=>IsP.below (W:=w2) ⟨c5,a0,a1⟩ (((Below.refl _ w2).alloc (Nat.le_refl _) _).alloc (by simp) _).drew
 clear c4 c5 a0 a1
 go_region_held3 (IsP k.vb w1.heap.size m tm) (first
  | with_reducible exact hP3
  | with_reducible exact hP4 _
  | with_reducible assumption) (first
  | (go_at_call_of 65 (Value.int .u64 ttl);refine(hA1 _).mono ?_;rintro e w3 ⟨rfl,rfl⟩)
  | (go_at_call_of 65 (Value.int .u64 most);refine(hA2 _).mono ?_;rintro e w4 ⟨rfl,rfl⟩))
 all_goals
  have bL:=BoxN.new (w2.alloc (.cells #[.int .i64 2,.int .u64 (z+1)] 114)) 131 #[.int .i64 1,.int .u64 (m:Int),.int .u64 at0,.int .i64 0,.bool false,.string ⟨pth.toArray⟩,.int .u64 la0];have bN:=(BoxN.new w2 114 #[.int .i64 2,.int .u64 (z+1)]).alloc (.cells #[.int .i64 1,.int .u64 (m:Int),.int .u64 at0,.int .i64 0,.bool false,.string ⟨pth.toArray⟩,.int .u64 la0] 131);rw [World.size_alloc] at bL;have hb4:Below w.heap.size w ((w2.alloc (.cells #[.int .i64 2,.int .u64 (z+1)] 114)).alloc (.cells #[.int .i64 1,.int .u64 (m:Int),.int .u64 at0,.int .i64 0,.bool false,.string ⟨pth.toArray⟩,.int .u64 la0] 131)).drew:=((hb3.alloc hb3.size _).alloc (by simp;omega) _).drew;have bL':BoxN ((w2.alloc (.cells #[.int .i64 2,.int .u64 (z+1)] 114)).alloc (.cells #[.int .i64 1,.int .u64 (m:Int),.int .u64 at0,.int .i64 0,.bool false,.string ⟨pth.toArray⟩,.int .u64 la0] 131)).drew _ _ _:=bL;have bN':BoxN ((w2.alloc (.cells #[.int .i64 2,.int .u64 (z+1)] 114)).alloc (.cells #[.int .i64 1,.int .u64 (m:Int),.int .u64 at0,.int .i64 0,.bool false,.string ⟨pth.toArray⟩,.int .u64 la0] 131)).drew _ _ _:=bN;clear bL bN hP3 hP4
  obtain⟨W4,hW4⟩:∃ W4,((w2.alloc (.cells #[.int .i64 2,.int .u64 (z+1)] 114)).alloc (.cells #[.int .i64 1,.int .u64 (m:Int),.int .u64 at0,.int .i64 0,.bool false,.string ⟨pth.toArray⟩,.int .u64 la0] 131)).drew=W4:=⟨_,rfl⟩
  rw [hW4] at hb4 bL' bN' ⊢;clear hW4;have n0:=bN'.cell 0 (v:=.int .i64 2) rfl;have n1:=bN'.cell 1 (v:=.int .u64 (z+1)) rfl
  go_wp2_with (first
   | (go_at_call 67;refine(hER _ _ bL').mono ?_;rintro e w5 ⟨rfl,hb5⟩;have hb6:Below w.heap.size w w5:=hb4.trans (hb5.mono hb4.size);have bN5:=bN'.below hb5 bN'.lt;have hK6:=hK w5 hb6)
   | (go_at_call 66;refine hK6.mono ?_;rintro e w7 ⟨rfl,hW7,hS7⟩;have bN7:=hS7.box bN5 (hfresh w2 hb3);have n7:=bN7.cell 0 (v:=.int .i64 2) rfl;have n8:=bN7.cell 1 (v:=.int .u64 (z+1)) rfl)
   | (go_at_call 68;refine(hNS _ hW7.v.va.env hW7.v.va.six).mono ?_;rintro e w8 ⟨rfl,hb8⟩))
  exact bodyPost_ret (v:=.tuple #[.string ⟨str.toArray⟩,.nilIface]) (by simp [results,results41,go_sem]) rfl ⟨by rw [hid_elim Hstr],by rw [hid_elim Hkl,hid_elim Hs'];exact hW7.below hb8,((Spares.of_below hb6).trans hS7).trans (Spares.of_below hb8)⟩
end Go.Proofs
