import Derived.Test.YtjbekgjdempbiaaGreatDoorJSq
import Derived.Test.YtjbekgjdempbiaaGreatDoorJJrnA
import Derived.Test.YtjbekgjdempbiaaGreatDoorJStr
import Derived.Test.YtjbekgjdempbiaaGreatDoorJLay2
import Derived.Lib.Join
import Derived.Test.YtjbekgjdempbiaaGreatDoorJDiskC
import Derived.Test.YtjbekgjdempbiaaGreatDoorJPutL
set_option maxRecDepth 100000
set_option maxHeartbeats 8000000
namespace Go.Proofs
open Go.RowKit Go.Sort Go.Lib Go.Shelf
structure Yf.Ok (r:Yf):Prop where
 k0 : -9223372036854775808<=r.kind
 k1:r.kind<=9223372036854775807
 n1:r.nn<18446744073709551616
 a1:r.an<18446744073709551616
 t0:0<=r.at_
 t1:r.at_<=18446744073709551615
 r0 : -9223372036854775808<=r.tr
 r1:r.tr<=9223372036854775807
 l0:0<=r.last
 l1:r.last<=18446744073709551615
 p1:r.pth.length<=1000
def Ji (r:Yf):List (List UInt8):=[Lib.itoa r.kind,nmStr r.nk r.nn,nmStr r.ak r.an,Lib.formatBool r.pd,Lib.decDigits r.at_.toNat,Lib.itoa r.tr,Lib.decDigits r.last.toNat,r.pth]
def recStr (r:Yf):List UInt8:=Lib.join (Ji r) [32]
theorem Xkh (n:Int) (h0 : -9223372036854775808<=n) (h1:n<=9223372036854775807):(Lib.itoa n).length<=21:=by
 unfold Lib.itoa
 split
 ·have:=Ya n.natAbs (by omega)
  simp;omega
 have:=Ya n.toNat (by omega);omega
theorem Xan (k:Int) (u:Nat) (hu:u<18446744073709551616):(nmStr k u).length<=21:=by
 have:=Ya u hu;unfold nmStr
 split
 ·simp;omega
 split
 ·simp;omega
 simp
theorem Xbg {r:Yf} (h:r.Ok):(recStr r).length<=1200:=by
 have e1:=Xkh _ h.k0 h.k1;have e2:=Xan r.nk r.nn h.n1;have e3:=Xan r.ak r.an h.a1
 have e4:(Lib.formatBool r.pd).length<=5:=by cases r.pd <;> decide
 have e5:=Ya r.at_.toNat (by have:=h.t0;have:=h.t1;omega);have e6:=Xkh _ h.r0 h.r1;have e7:=Ya r.last.toNat (by have:=h.l0;have:=h.l1;omega);have e8:=h.p1;unfold recStr Ji;rw [Lib.join_length];simp [Lib.lens];omega
theorem Tryz.Xvd:Builder.Extra prog Xbt where
 sizeBuilder:=by kernel_rfl
 liesBuilder:=by kernel_rfl
 t5:=by kernel_rfl
 a5:=fun _=>by kernel_rfl
 z5:=fun _=>by kernel_rfl
 v5:=fun _=>by kernel_rfl
 infoByte:=by kernel_rfl
 cellsByte:=by kernel_rfl
 sizeByte:=by kernel_rfl
 neB5:=by decide
theorem Tryz.join (bk o c:Nat) (xs:List ByteArray) (sep:ByteArray) (w:World) (hcells:∀(j:Nat) x,xs[j]? = some x->w.cell? ⟨bk,o+j,none⟩=some (.string x)) (hbk:bk<w.heap.size) (hN:xs.length<=140737488355328) (hcap:xs.length<=c) (hlen:(Lib.join (xs.map (·.data.toList)) sep.data.toList).length<=140737488355328) :
  Calls prog 179 #[.slice (some ⟨bk,o,none⟩) xs.length c,.string sep] w fun e w'=>e=.returned (.string ⟨(Lib.join (xs.map (·.data.toList)) sep.data.toList).toArray⟩)/\Below w.heap.size w w':=
 Any.strings_Join Xrf Xvd bk o c xs sep w hcells hbk hN hcap hlen
theorem Tryz.itoa (n:Int) (h0 : -9223372036854775808<=n) (h1:n<=9223372036854775807) (w:World) (hE:Env w) :
  Calls prog 205 #[.int .i64 n] w fun e w'=>e=.returned (.string ⟨(Lib.itoa n).toArray⟩)/\Below w.heap.size w w':=
 (Any.strconv_Itoa Xr3 n h0 h1 w hE.tab).mono fun _ _ ⟨h1,k,os,h2⟩=>⟨h1,Xp.below ⟨k,os,h2⟩⟩
theorem Tryz.Xnl (b:Bool) (w:World):Calls prog 206 #[.bool b] w fun e w'=>e=.returned (.string ⟨(Lib.formatBool b).toArray⟩)/\Below w.heap.size w w':=
 (Any.strconv_FormatBool Xvs b w).mono fun _ _ ⟨h1,h2⟩=>⟨h1,by rw [h2];exact Below.refl _ _⟩
abbrev Tryz.Vv (w0:World) (rb:Nat) (c0 c1 c2 c3 c4 c5 c6 c7 c8 c9:Value) (W:World):Prop:=Uh W rb c0 c1 c2 c3 c4 c5 c6 c7 c8 c9/\Env W/\6<=W.heap.size/\Below w0.heap.size w0 W
section
variable {w0 W W':World} {rb:Nat} {c0 c1 c2 c3 c4 c5 c6 c7 c8 c9:Value}
theorem Tryz.Vv.below (h:Vv w0 rb c0 c1 c2 c3 c4 c5 c6 c7 c8 c9 W) (hb:Below W.heap.size W W'):Vv w0 rb c0 c1 c2 c3 c4 c5 c6 c7 c8 c9 W':=⟨h.1.below hb,h.2.1.below hb h.2.2.1,Nat.le_trans h.2.2.1 hb.size,h.2.2.2.trans (hb.mono h.2.2.2.size)⟩
theorem Tryz.Vv.drew (h:Vv w0 rb c0 c1 c2 c3 c4 c5 c6 c7 c8 c9 W):Vv w0 rb c0 c1 c2 c3 c4 c5 c6 c7 c8 c9 W.drew:=h.below (Xp.below (Xp.refl W).drew)
theorem Tryz.Vv.alloc (h:Vv w0 rb c0 c1 c2 c3 c4 c5 c6 c7 c8 c9 W) (o:Obj):Vv w0 rb c0 c1 c2 c3 c4 c5 c6 c7 c8 c9 (W.alloc o):=h.below ((Below.refl _ _).alloc (Nat.le_refl _) _)
end
theorem Xke (W:World) (t:TypeId) (a b c d e f g h:ByteArray):∀(j:Nat) x,[a,b,c,d,e,f,g,h][j]? = some x->(W.alloc (.cells #[.string a,.string b,.string c,.string d,.string e,.string f,.string g,.string h] t)).cell? ⟨W.heap.size,0+j,none⟩=some (.string x):=by
 intro j x hj;have bN:=BoxN.new W t #[.string a,.string b,.string c,.string d,.string e,.string f,.string g,.string h]
 match j,hj with
 | 0,hj=>simp at hj;subst hj;exact bN.cell 0 rfl
 | 1,hj=>simp at hj;subst hj;exact bN.cell 1 rfl
 | 2,hj=>simp at hj;subst hj;exact bN.cell 2 rfl
 | 3,hj=>simp at hj;subst hj;exact bN.cell 3 rfl
 | 4,hj=>simp at hj;subst hj;exact bN.cell 4 rfl
 | 5,hj=>simp at hj;subst hj;exact bN.cell 5 rfl
 | 6,hj=>simp at hj;subst hj;exact bN.cell 6 rfl
 | 7,hj=>simp at hj;subst hj;exact bN.cell 7 rfl
 | (k+8),hj=>simp at hj
theorem Tryz.Xgx (r:Yf) (hr:r.Ok) (w:World) (hE:Env w) (h6:6<=w.heap.size) :
  Calls prog 178 #[.agg r.cells] w fun e w'=>e=.returned (.string ⟨(recStr r).toArray⟩)/\Below w.heap.size w w':=by
 have hlen:=Xbg hr;have hr':=hr;obtain⟨kind,nk,nn,ak,an,pd,at_,tr,last,pth⟩:=r;obtain⟨k0,k1,n1,a1,t0,t1,r0,r1,l0,l1,p1⟩:=hr;simp only at k0 k1 n1 a1 t0 t1 r0 r1 l0 l1 p1
 obtain⟨ta,rfl⟩:∃ ta:Nat,at_=(ta:Int):=⟨at_.toNat,by omega⟩
 obtain⟨tl,rfl⟩:∃ tl:Nat,last=(tl:Int):=⟨last.toNat,by omega⟩
 have hI1:=fun W hE=>itoa kind k0 k1 W hE
 have hI2:=fun W hE=>itoa tr r0 r1 W hE
 have hN1:=fun W hE h6=>Zf nk nn n1 W hE h6
 have hN2:=fun W hE h6=>Zf ak an a1 W hE h6
 have hB1:=fun W=>Xnl pd W
 have hU1:=fun W hE=>Xcc ta (by omega) W hE
 have hU2:=fun W hE=>Xcc tl (by omega) W hE
 unfold recStr Ji at hlen ⊢;simp only [Int.toNat_natCast] at hlen ⊢;generalize Lib.itoa kind=s0 at *;generalize nmStr nk nn=s1 at *;generalize nmStr ak an=s2 at *;generalize Lib.formatBool pd=s3 at *;generalize Lib.decDigits ta=s4 at *;generalize Lib.itoa tr=s5 at *;generalize Lib.decDigits tl=s6 at *
 have hJ:=fun W=>join W.heap.size 0 8 [⟨s0.toArray⟩,⟨s1.toArray⟩,⟨s2.toArray⟩,⟨s3.toArray⟩,⟨s4.toArray⟩,⟨s5.toArray⟩,⟨s6.toArray⟩,⟨pth.toArray⟩] ⟨#[32]⟩ _ (Xke W 9 _ _ _ _ _ _ _ _) (by simp) (by simp) (by simp) (by simp;omega)
 simp only [List.map_cons,List.map_nil,List.length_cons,List.length_nil,Nat.reduceAdd] at hJ;generalize Lib.join [s0,s1,s2,s3,s4,s5,s6,pth] [32]=res at *;unfold Yf.cells Xi;simp only
 have bq:=(BoxN.new w 135 #[.int .i64 kind,.int .i64 nk,.int .u64 nn,.int .i64 ak,.int .u64 an,.bool pd,.int .u64 ta,.int .i64 tr,.int .u64 tl,.string ⟨pth.toArray⟩])
 have hb0:Below w.heap.size w (w.alloc (.cells #[.int .i64 kind,.int .i64 nk,.int .u64 nn,.int .i64 ak,.int .u64 an,.bool pd,.int .u64 ta,.int .i64 tr,.int .u64 tl,.string ⟨pth.toArray⟩] 135)):=(Below.refl _ _).alloc (Nat.le_refl _) _;have hS0:Vv w w.heap.size _ _ _ _ _ _ _ _ _ _ _:=Vv.drew ⟨bq.Xc5,hE.below hb0 h6,by simp;omega,hb0⟩;clear k0 k1 n1 a1 t0 t1 r0 r1 l0 l1 p1 hr' hlen;go_enter func178,ntmps178
 go_wp2_with fail
 go_region_held3 (Vv w w.heap.size (.int .i64 kind) (.int .i64 nk) (.int .u64 nn) (.int .i64 ak) (.int .u64 an) (.bool pd) (.int .u64 ta) (.int .i64 tr) (.int .u64 tl) (.string ⟨pth.toArray⟩)) (first
  | with_reducible exact hS0
  | with_reducible exact Vv.below (by assumption) (by assumption)
  | with_reducible assumption
  | with_reducible exact Vv.alloc (by assumption) _) (first
  | (go_at_call_of 205 (Value.int .i64 kind);refine(hI1 _ (show Vv w w.heap.size (.int .i64 kind) (.int .i64 nk) (.int .u64 nn) (.int .i64 ak) (.int .u64 an) (.bool pd) (.int .u64 ta) (.int .i64 tr) (.int .u64 tl) (.string ⟨pth.toArray⟩) _ from by assumption).2.1).mono ?_;rintro e w1 ⟨rfl,hbS1⟩)
  | (go_at_call_of 68 (Value.int .u64 (nn:Int));have hQ:=(show Vv w w.heap.size (.int .i64 kind) (.int .i64 nk) (.int .u64 nn) (.int .i64 ak) (.int .u64 an) (.bool pd) (.int .u64 ta) (.int .i64 tr) (.int .u64 tl) (.string ⟨pth.toArray⟩) _ from by assumption);refine(hN1 _ hQ.2.1 hQ.2.2.1).mono ?_;clear hQ;rintro e w2 ⟨rfl,hbS2⟩)
  | (go_at_call_of 68 (Value.int .u64 (an:Int));have hQ:=(show Vv w w.heap.size (.int .i64 kind) (.int .i64 nk) (.int .u64 nn) (.int .i64 ak) (.int .u64 an) (.bool pd) (.int .u64 ta) (.int .i64 tr) (.int .u64 tl) (.string ⟨pth.toArray⟩) _ from by assumption);refine(hN2 _ hQ.2.1 hQ.2.2.1).mono ?_;clear hQ;rintro e w3 ⟨rfl,hbS3⟩)
  | (go_at_call 206;refine(hB1 _).mono ?_;rintro e w4 ⟨rfl,hbS4⟩)
  | (go_at_call_of 122 (Value.int .u64 (ta:Int));refine(hU1 _ (show Vv w w.heap.size (.int .i64 kind) (.int .i64 nk) (.int .u64 nn) (.int .i64 ak) (.int .u64 an) (.bool pd) (.int .u64 ta) (.int .i64 tr) (.int .u64 tl) (.string ⟨pth.toArray⟩) _ from by assumption).2.1).mono ?_;rintro e w5 ⟨rfl,hbS5⟩)
  | (go_at_call_of 205 (Value.int .i64 tr);refine(hI2 _ (show Vv w w.heap.size (.int .i64 kind) (.int .i64 nk) (.int .u64 nn) (.int .i64 ak) (.int .u64 an) (.bool pd) (.int .u64 ta) (.int .i64 tr) (.int .u64 tl) (.string ⟨pth.toArray⟩) _ from by assumption).2.1).mono ?_;rintro e w6 ⟨rfl,hbS6⟩)
  | (go_at_call_of 122 (Value.int .u64 (tl:Int));refine(hU2 _ (show Vv w w.heap.size (.int .i64 kind) (.int .i64 nk) (.int .u64 nn) (.int .i64 ak) (.int .u64 an) (.bool pd) (.int .u64 ta) (.int .i64 tr) (.int .u64 tl) (.string ⟨pth.toArray⟩) _ from by assumption).2.1).mono ?_;rintro e w7 ⟨rfl,hbS7⟩)
  | (go_at_call 179;refine(hJ _).mono ?_;rintro e w8 ⟨rfl,hbS8⟩))
 all_goals
  go_wp2
  rename_i hI
  go_ret;exact⟨rfl,hI.2.2.2⟩
def Zi (W:World) (g:Nat) (rs:List Yf):Prop:=∀ i r,rs[i]? = some r->∀ j v,r.cells[j]? = some v->W.cell? ⟨g,i*10+j,none⟩=some v
theorem Zi.below {W W':World} {g B:Nat} {rs:List Yf} (h:Zi W g rs) (hb:Below B W W') (hg:g<B):Zi W' g rs:=fun i r hr j v hv=>(hb.cell (p:=⟨g,i*10+j,none⟩) hg).trans (h i r hr j v hv)
def Zu (rs:List Yf):List (List UInt8):=rs.map recStr
def recTxt (rs:List Yf):List UInt8:=Lib.join (Zu rs) [59]
def Xof (s:List UInt8):Value:=.string ⟨s.toArray⟩
def txs (rs:List Yf) (k:Nat):List Value:=(rs.take k).map (fun r=>Xof (recStr r))++List.replicate (rs.length-k) (.string ⟨#[]⟩)
theorem Xs6 (rs:List Yf) (k:Nat) (hk:k<=rs.length):(txs rs k).length=rs.length:=by simp [txs];omega
theorem Xsx {rs:List Yf} {k:Nat} {r:Yf} (h:rs[k]? = some r):(txs rs k).set k (Xof (recStr r))=txs rs (k+1):=by
 have hk:k<rs.length:=(List.getElem?_eq_some_iff.1 h).1;unfold txs;rw [List.take_add_one,h,List.set_append,if_neg (by simp;omega)]
 have e1:k-((rs.take k).map (fun r=>Xof (recStr r))).length=0:=by simp;omega
 obtain⟨m,hm⟩:∃ m,rs.length-k=m+1:=⟨rs.length-k-1,by omega⟩
 rw [e1,hm,List.replicate_succ,List.set_cons_zero,show rs.length-(k+1)=m by omega];simp
theorem Xt1 (rs:List Yf):txs rs rs.length=rs.map (fun r=>Xof (recStr r)):=by simp [txs]
theorem Zx (rs:List Yf) (h:∀ r∈rs,r.Ok):(recTxt rs).length<=1201*rs.length:=by
 unfold recTxt Zu
 cases rs with
 | nil=>simp [Lib.join]
 | cons r rs =>
  rw [List.map_cons,Lib.join_length]
  have:∀ l:List Yf,(∀ r∈l,r.Ok)->Lib.lens (l.map recStr)<=1200*l.length:=fun l=>by
   induction l with
   | nil=>intro _;simp [Lib.lens]
   | cons x l ih =>
    intro hx;have h1:=Xbg (hx x (by simp));have h2:=ih (fun y hy=>hx y (List.mem_cons_of_mem _ hy));simp only [Lib.lens,List.map_cons,List.sum_cons,List.length_cons] at h2 ⊢;omega
  have h3:=this (r :: rs) h;rw [List.map_cons] at h3;simp only [List.length_cons,List.length_map,List.length_nil] at h3 ⊢;omega
theorem Xh9:∀ l:List (List UInt8),(l.map (fun s=>(⟨s.toArray⟩:ByteArray))).map (·.data.toList)=l
 | []=>rfl
 | x :: l=>by rw [List.map_cons,List.map_cons,Xh9 l]
theorem Tryz.Xbo:(prog.info? 9).map (fun i=>(i.zero,i.size,i.bytes))=some (some (.string ⟨#[]⟩),1,16):=by kernel_rfl
theorem Tryz.Xtt (g cap:Nat) (rs:List Yf) (w:World) (hR:Zi w g rs) (hg:g<w.heap.size) (hok:∀ r∈rs,r.Ok) (hn:rs.length<=1000) (hE:Env w) (h6:6<=w.heap.size) :
  Calls prog 145 #[.slice (some ⟨g,0,none⟩) rs.length cap] w fun e w'=>e=.returned (.string ⟨(recTxt rs).toArray⟩)/\Below w.heap.size w w':=by
 have hlen:=Zx rs hok
 have hSt:=fun(r:Yf) hr W hE h6=>Xgx r hr W hE h6
 obtain⟨n,hnn⟩:∃ n,rs.length=n:=⟨_,rfl⟩
 rw [hnn] at hn hlen ⊢;have Hn:=Xb hnn;clear hnn;obtain⟨i0,hi,hz0,hz1,hz2⟩:=info_parts Xbo;have hmk:=run_makeSlice (P:=prog) w 40 9 i0 _ underlying40 hi hz0 .i64 .i64 n n (by omega) (Int.le_refl _) (by rw [hz1];omega) (by rw [hz2];omega) (by omega);rw [hz1] at hmk;simp only [Int.toNat_natCast,Nat.mul_one] at hmk
 have hmc:madeCells (Value.string ⟨#[]⟩).cells n=(txs rs 0).toArray:=by
  rw [<- Xa Hn];apply Array.ext
  ·rw [size_madeCells];simp [txs]
  intro j h1 h2;simp [txs,madeCells,Value.cells];rw [Nat.mod_one];rfl
 rw [hmc] at hmk;have bT:=BoxN.new w 9 (txs rs 0).toArray;have hb0:Below w.heap.size w (w.alloc (.cells (txs rs 0).toArray 9)):=(Below.refl _ _).alloc (Nat.le_refl _) _;clear hmc;generalize w.alloc (.cells (txs rs 0).toArray 9)=w0 at *;go_enter func145,ntmps145;go_wp2
 go_loopw [11] (fun i wr=>∃ k:Nat,k<=n/\i=.int .i64 k/\BoxN wr w.heap.size 9 (txs rs k).toArray/\Below w.heap.size w wr) (fun i _=>n-(intOf i).toNat)
 case atStart=>exact⟨0,Nat.zero_le _,rfl,bT,hb0⟩
 case round =>
  obtain⟨k,hk,rfl,bk,hbk⟩:=hrel
  by_cases hkn:k<n
  ·obtain⟨r,hr⟩:∃ r,rs[k]? = some r:=⟨rs[k]'(by have:=Xa Hn;omega),by simp [Xa Hn,hkn]⟩
   have hrk:=(hR.below hbk hg) k r hr;have hS1:=hSt r (hok r (List.mem_of_getElem? hr));have hset:=Xb (Xsx hr)
   have hlt:k<(txs rs k).length:=by rw [Xs6 _ _ (by have:=Xa Hn;omega)];have:=Xa Hn;omega
   obtain⟨old,hold⟩:∃ v,(txs rs k)[k]? = some v:=⟨(txs rs k)[k],by simp [hlt]⟩
   have c0:=bk.cell k (v:=old) (by simpa using hold);have f0:=bk.frozen k;generalize recStr r=st at *;obtain⟨kind,nk,nn,ak,an,pd,at_,tr,last,pth⟩:=r;unfold Yf.cells Xi at hrk hS1;simp only at hrk hS1;have x0:=hrk 0 _ rfl;have x1:=hrk 1 _ rfl;have x2:=hrk 2 _ rfl;have x3:=hrk 3 _ rfl;have x4:=hrk 4 _ rfl;have x5:=hrk 5 _ rfl;have x6:=hrk 6 _ rfl;have x7:=hrk 7 _ rfl;have x8:=hrk 8 _ rfl;have x9:=hrk 9 _ rfl;simp only [Nat.add_zero] at x0;clear hrk hSt hR hlt hmk;have hbA:=hbk.alloc hbk.size (.cells #[.int .i64 kind,.int .i64 nk,.int .u64 nn,.int .i64 ak,.int .u64 an,.bool pd,.int .u64 at_,.int .i64 tr,.int .u64 last,.string ⟨pth.toArray⟩] 135);have bA:=bk.alloc (.cells #[.int .i64 kind,.int .i64 nk,.int .u64 nn,.int .i64 ak,.int .u64 an,.bool pd,.int .u64 at_,.int .i64 tr,.int .u64 last,.string ⟨pth.toArray⟩] 135);have hEA:=hE.below hbA h6
   have h6A:6<=(wr.alloc (.cells #[.int .i64 kind,.int .i64 nk,.int .u64 nn,.int .i64 ak,.int .u64 an,.bool pd,.int .u64 at_,.int .i64 tr,.int .u64 last,.string ⟨pth.toArray⟩] 135)).heap.size:=by have:=hbA.size;omega
   go_wp2_with (go_at_call 178;refine(hS1 _ hEA h6A).mono ?_;rintro e w2 ⟨rfl,hb2⟩;have b2:=bA.below hb2 bA.lt;have c2:=b2.cell k (v:=old) (by simpa using hold);have f2:=b2.frozen k)
   have hb3:=(hbA.trans (hb2.mono hbA.size)).setCell (p:=⟨w.heap.size,k,none⟩) (Nat.le_refl _) (.string ⟨st.toArray⟩)
   have b3:BoxN (w2.setCell ⟨w.heap.size,k,none⟩ (.string ⟨st.toArray⟩)) w.heap.size 9 (txs rs (k+1)).toArray:=by
    have:=b2.set k (.string ⟨st.toArray⟩);rw [<- show (txs rs k).set k (Xof st)=txs rs (k+1) from Xa hset]
    simpa [Xof] using this
   have HB:=Xb (And.intro b3 hb3);clear b3 hb3 c2 f2 b2 hb2 hbA bA hEA h6A bk hbk c0 f0;generalize (w2.setCell ⟨w.heap.size,k,none⟩ (.string ⟨st.toArray⟩))=w3 at *
   go_roundw
   case rel=>exact⟨k+1,by omega,rfl,(Xa HB).1,(Xa HB).2⟩
   case measure=>simp [intOf];omega
  obtain rfl:k=n:=by omega
  have hJ:=join w.heap.size 0 k ((Zu rs).map (fun s=>⟨s.toArray⟩)) ⟨#[59]⟩ wr (fun j x hx=>by
   have hx':(txs rs k)[j]? = some (.string x):=by
    rw [<- Xa Hn,Xt1];simp [Zu] at hx ⊢;obtain⟨a,h1,h2⟩:=hx;exact⟨a,h1,by rw [<- h2];rfl⟩
   have:=bk.cell j (v:=.string x) (by simpa using hx')
   rwa [Nat.zero_add]) bk.lt (by have:=Xa Hn;simp [Zu];omega) (by have:=Xa Hn;simp [Zu];omega) (by
   have e:=Xh9 (Zu rs);rw [e]
   show (recTxt rs).length<=_
   omega)
  have e:=Xh9 (Zu rs)
  have e2:((Zu rs).map (fun s=>(⟨s.toArray⟩:ByteArray))).length=k:=by rw [<- Xa Hn];simp [Zu]
  rw [e,e2] at hJ
  change Calls _ _ _ _ (fun e w'=>e=.returned (.string ⟨(recTxt rs).toArray⟩)/\_) at hJ
  obtain⟨res,hres⟩:∃ res,recTxt rs=res:=⟨_,rfl⟩
  rw [hres] at hJ;have Hres:=Xb hres;clear hres hlen;clear e e2 hR hSt hmk hok
  go_wp2_with (go_at_call 179;refine hJ.mono ?_;rintro e w2 ⟨rfl,hb2⟩)
  go_ret;exact⟨by rw [Xa Hres];rfl,hbk.trans (hb2.mono hbk.size)⟩
end Go.Proofs
namespace Go.Proofs
open Go.RowKit Go.Sort Go.Lib Go.Shelf Go.Maps
theorem Tryz.Xlm (db:Nat) (w:World):Sem.run prog (method 517 74 (.pointer (some ⟨db,0,none⟩)) "Append") w=.ok (305,.pointer (some ⟨db,0,none⟩)) w:=by kernel_rfl
theorem Tryz.Mr (db:Nat) (w:World):Sem.run prog (method 517 74 (.pointer (some ⟨db,0,none⟩)) "Sync") w=.ok (309,.pointer (some ⟨db,0,none⟩)) w:=by kernel_rfl
theorem Tryz.Xnr (line:List UInt8):∃(cp:World->Nat) (mk:World->World),∀ W,(convert 9 267 (.string ⟨line.toArray⟩)).run prog W=.ok (.slice (some ⟨W.heap.size,0,none⟩) line.length (cp W)) (mk W)/\Below W.heap.size W (mk W)/\W.heap.size<(mk W).heap.size/\BytesAt (mk W) W.heap.size line:=by
 refine⟨fun W=>grownCap W (⟨line.toArray⟩:ByteArray).size 0 5,fun W=>W.drew.alloc (.cells (bytesRow ⟨line.toArray⟩ (grownCap W (⟨line.toArray⟩:ByteArray).size 0 5)) 5 ((bytesRow ⟨line.toArray⟩ (grownCap W (⟨line.toArray⟩:ByteArray).size 0 5)).size,(bytesRow ⟨line.toArray⟩ (grownCap W (⟨line.toArray⟩:ByteArray).size 0 5)).size+1)),fun W=>⟨?_,?_,?_,?_⟩⟩
 ·have:=run_bytes_of_string (P:=prog) W 9 267 5 ⟨line.toArray⟩ underlying9 underlying267 underlying5
  simpa [ByteArray.size] using this
 ·exact((Below.refl _ W).drew).alloc (Nat.le_refl _) _
 ·simp
 intro j hj
 obtain⟨c,hcc⟩:∃ c,grownCap W (⟨line.toArray⟩:ByteArray).size 0 5=c:=⟨_,rfl⟩
 simp only [hcc];have h:(W.drew.alloc (.cells (bytesRow ⟨line.toArray⟩ c) 5 ((bytesRow ⟨line.toArray⟩ c).size,(bytesRow ⟨line.toArray⟩ c).size+1))).heap[W.heap.size]? = some (.cells (bytesRow ⟨line.toArray⟩ c) 5 ((bytesRow ⟨line.toArray⟩ c).size,(bytesRow ⟨line.toArray⟩ c).size+1)):=World.alloc_heap_new W.drew _
 have hc:(bytesRow ⟨line.toArray⟩ c)[j]? = some (.int .u8 (line[j].toNat:Int)):=by
  have:=bytesRow_at ⟨line.toArray⟩ c j (by simpa using hj)
  simpa using this
 have hsz:j<(bytesRow ⟨line.toArray⟩ c).size:=(Array.getElem?_eq_some_iff.1 hc).1
 show (W.drew.alloc (.cells (bytesRow ⟨line.toArray⟩ c) 5 ((bytesRow ⟨line.toArray⟩ c).size,(bytesRow ⟨line.toArray⟩ c).size+1))).cell? ⟨W.heap.size,j,none⟩=_/\(W.drew.alloc (.cells (bytesRow ⟨line.toArray⟩ c) 5 ((bytesRow ⟨line.toArray⟩ c).size,(bytesRow ⟨line.toArray⟩ c).size+1))).frozen? ⟨W.heap.size,j,none⟩=false
 constructor
 ·unfold World.cell?
  rw [h];exact hc
 unfold World.frozen?;rw [h];simp;omega
abbrev JP (jb:Nat) (d:Value) (W:World):Prop:=W.cell? ⟨jb,0,none⟩=some d/\W.cell? ⟨jb,1,none⟩=some (.int .u64 0)
def Tryz.Yg (db:Nat):Value:=.iface 74 (.pointer (some ⟨db,0,none⟩))
theorem Tryz.Xs2 (jb db md mn:Nat) (er:Value) (fd fn:Option (Nat × List UInt8)) (l f:Int) (line:List UInt8) (w:World) (hJ:BoxN w jb 212 #[Yg db,.int .u64 0,er]) (hD:Xj w db md mn fd fn (.slice none 0 0) l f) (hl:l<0) (hl1 : -999999990<=l) (hf:f<0) (hf1 : -999999990<=f)
  (hld:(U6 fd).length+line.length<=1000000000000) (hln:(U6 fn).length+line.length<=1000000000000) :
  Calls prog 163 #[.pointer (some ⟨jb,0,none⟩),.string ⟨line.toArray⟩] w fun e w'=>e=.returned .nilIface/\∃ b b',w.heap.size<=b/\w.heap.size<=b'/\Xj w' db md mn (some (b,U6 fd++line)) (some (b',U6 fn++line)) (.slice none 0 0) (l-2) (f-2)/\Spares [db,md,mn] w w':=by
 have j0:=hJ.cell 0 (v:=Yg db) rfl;have j1:=hJ.cell 1 (v:=.int .u64 0) rfl;unfold Yg at j0;have lJ:=hJ.lt
 have hm:=fun W=>Xlm db W
 have hm2:=fun W=>Mr db W
 have hF:=fun W=>Xch W
 obtain⟨cp,mk,hcv⟩:=Xnr line
 have hcr:=fun W=>(hcv W).1
 have HCV:=Xb hcv;clear hcv;go_enter func163,ntmps163
 go_wp2_with fail
 have hB0:Below w.heap.size w (mk w.drew):=(Below.refl _ w).drew.trans (Xa HCV w.drew).2.1;have hD0:=hD.below hB0;have lD:=hD.lt;have hAp:=Xso db md mn w.heap.size (cp w.drew) fd fn l f line (mk w.drew) hD0 hl (by omega) hf (by omega) hln (Xa HCV w.drew).2.2.2 (Xa HCV w.drew).2.2.1 (by omega) (by omega) (by omega) (fun q hq=>by have:=(hD.sd q hq).lt;omega);have hz0:w.heap.size<(mk w.drew).heap.size:=(Xa HCV w.drew).2.2.1
 obtain⟨n,hn⟩:∃ n,line.length=n:=⟨_,rfl⟩
 rw [hn] at hAp hcr;have Hn:=Xb hn;have Hld:=Xb hld;clear hn hld hln
 have hjn:jb ∉ [db,mn,w.heap.size]:=by
  obtain⟨nm,hnm,hMm⟩:=hD.nm;have h1:=hJ.ne hD.box (by decide);have h2:=BoxN.Xw hJ hMm;simp;exact⟨h1,Ne.symm h2,by omega⟩
 have hP0:JP jb (.iface 74 (.pointer (some ⟨db,0,none⟩))) w.drew:=⟨j0,j1⟩
 have hP1:JP jb (.iface 74 (.pointer (some ⟨db,0,none⟩))) (mk w.drew):=⟨cell_later hB0 j0,cell_later hB0 j1⟩
 refine wp_region_held_drew (S:=JP jb (.iface 74 (.pointer (some ⟨db,0,none⟩)))) (by kernel_rfl) hP0 (fun hS0=>?_);refine wpAnyH_take (i:=0) (oi:={ dst:=some 6,op:=Go.Op.move (Go.Operand.tmp 0),type:=117,pos:="journal.go:98",after:=#[],guard:=none }) (v:=?v0) rfl (by kernel_rfl) (by kernel_rfl) (by kernel_rfl) (fun _ _ _ h=>h) (Or.inl ⟨by rfl,?y0⟩) hS0 ?_
 case y0=>(rintro w ⟨q0,q1⟩;go_simp;try with_reducible rfl)
 try simp only [Act.put,List.setIfInBounds_toArray,List.set_cons_zero,List.set_cons_succ]
 refine wpAnyH_take (i:=1) (oi:={ dst:=some 7,op:=Go.Op.nilCheck (Go.Operand.tmp 6),type:=0,pos:="journal.go:98",after:=#[{ on:=0,ground:=Go.Ground.data }],guard:=none }) (v:=?v1) rfl (by kernel_rfl) (by kernel_rfl) (by kernel_rfl) (fun _ _ _ h=>h) (Or.inl ⟨by rfl,?y1⟩) hS0 ?_
 case y1=>(rintro w ⟨q0,q1⟩;go_simp;try with_reducible rfl)
 try simp only [Act.put,List.setIfInBounds_toArray,List.set_cons_zero,List.set_cons_succ]
 refine wpAnyH_take (i:=2) (oi:={ dst:=some 8,op:=Go.Op.fieldAddr 212 (Go.Operand.tmp 7) 0,type:=0,pos:="journal.go:98",after:=#[{ on:=1,ground:=Go.Ground.data }],guard:=none }) (v:=?v2) rfl (by kernel_rfl) (by kernel_rfl) (by kernel_rfl) (fun _ _ _ h=>h) (Or.inl ⟨by rfl,?y2⟩) hS0 ?_
 case y2=>(rintro w ⟨q0,q1⟩;go_simp;try with_reducible rfl)
 try simp only [Act.put,List.setIfInBounds_toArray,List.set_cons_zero,List.set_cons_succ]
 refine wpAnyH_take (i:=3) (oi:={ dst:=some 9,op:=Go.Op.load 175 (Go.Operand.tmp 8),type:=175,pos:="journal.go:98",after:=#[{ on:=2,ground:=Go.Ground.data }],guard:=none }) (v:=?v3) rfl (by kernel_rfl) (by kernel_rfl) (by kernel_rfl) (fun _ _ _ h=>h) (Or.inl ⟨by rfl,?y3⟩) hS0 ?_
 case y3=>(rintro w ⟨q0,q1⟩;go_simp;try with_reducible rfl)
 try simp only [Act.put,List.setIfInBounds_toArray,List.set_cons_zero,List.set_cons_succ]
 refine wpAnyH_take (i:=4) (oi:={ dst:=some 10,op:=Go.Op.move (Go.Operand.tmp 0),type:=117,pos:="journal.go:98",after:=#[],guard:=none }) (v:=?v4) rfl (by kernel_rfl) (by kernel_rfl) (by kernel_rfl) (fun _ _ _ h=>h) (Or.inl ⟨by rfl,?y4⟩) hS0 ?_
 case y4=>(rintro w ⟨q0,q1⟩;go_simp;try with_reducible rfl)
 try simp only [Act.put,List.setIfInBounds_toArray,List.set_cons_zero,List.set_cons_succ]
 refine wpAnyH_take (i:=5) (oi:={ dst:=some 11,op:=Go.Op.nilCheck (Go.Operand.tmp 10),type:=0,pos:="journal.go:98",after:=#[{ on:=4,ground:=Go.Ground.data }],guard:=none }) (v:=?v5) rfl (by kernel_rfl) (by kernel_rfl) (by kernel_rfl) (fun _ _ _ h=>h) (Or.inl ⟨by rfl,?y5⟩) hS0 ?_
 case y5=>(rintro w ⟨q0,q1⟩;go_simp;try with_reducible rfl)
 try simp only [Act.put,List.setIfInBounds_toArray,List.set_cons_zero,List.set_cons_succ]
 refine wpAnyH_take (i:=6) (oi:={ dst:=some 12,op:=Go.Op.fieldAddr 212 (Go.Operand.tmp 11) 1,type:=0,pos:="journal.go:98",after:=#[{ on:=5,ground:=Go.Ground.data }],guard:=none }) (v:=?v6) rfl (by kernel_rfl) (by kernel_rfl) (by kernel_rfl) (fun _ _ _ h=>h) (Or.inl ⟨by rfl,?y6⟩) hS0 ?_
 case y6=>(rintro w ⟨q0,q1⟩;go_simp;try with_reducible rfl)
 try simp only [Act.put,List.setIfInBounds_toArray,List.set_cons_zero,List.set_cons_succ]
 refine wpAnyH_take (i:=7) (oi:={ dst:=some 13,op:=Go.Op.load 31 (Go.Operand.tmp 12),type:=31,pos:="journal.go:98",after:=#[{ on:=6,ground:=Go.Ground.data }],guard:=none }) (v:=?v7) rfl (by kernel_rfl) (by kernel_rfl) (by kernel_rfl) (fun _ _ _ h=>h) (Or.inl ⟨by rfl,?y7⟩) hS0 ?_
 case y7=>(rintro w ⟨q0,q1⟩;go_simp;try with_reducible rfl)
 try simp only [Act.put,List.setIfInBounds_toArray,List.set_cons_zero,List.set_cons_succ]
 refine wpAnyH_take (i:=9) (oi:={ dst:=some 15,op:=Go.Op.move (Go.Operand.tmp 1),type:=9,pos:="journal.go:98",after:=#[],guard:=none }) (v:=?v9) rfl (by kernel_rfl) (by kernel_rfl) (by kernel_rfl) (fun _ _ _ h=>h) (Or.inl ⟨by rfl,?y9⟩) hS0 ?_
 case y9=>(rintro w ⟨q0,q1⟩;go_simp;try with_reducible rfl)
 try simp only [Act.put,List.setIfInBounds_toArray,List.set_cons_zero,List.set_cons_succ]
 refine wpAnyH_take (i:=11) (oi:={ dst:=some 17,op:=Go.Op.nilCheck (Go.Operand.tmp 9),type:=175,pos:="journal.go:98",after:=#[{ on:=3,ground:=Go.Ground.data }],guard:=none }) (v:=?v11) rfl (by kernel_rfl) (by kernel_rfl) (by kernel_rfl) (fun _ _ _ h=>h) (Or.inl ⟨by rfl,?y11⟩) hS0 ?_
 case y11=>(rintro w ⟨q0,q1⟩;go_simp;try with_reducible rfl)
 try simp only [Act.put,List.setIfInBounds_toArray,List.set_cons_zero,List.set_cons_succ]
 refine wpAnyH_take (i:=12) (oi:={ dst:=some 18,op:=Go.Op.move (Go.Operand.tmp 9),type:=175,pos:="journal.go:98",after:=#[{ on:=3,ground:=Go.Ground.data },{ on:=11,ground:=Go.Ground.data }],guard:=none }) (v:=?v12) rfl (by kernel_rfl) (by kernel_rfl) (by kernel_rfl) (fun _ _ _ h=>h) (Or.inl ⟨by rfl,?y12⟩) hS0 ?_
 case y12=>(rintro w ⟨q0,q1⟩;go_simp;try with_reducible rfl)
 try simp only [Act.put,List.setIfInBounds_toArray,List.set_cons_zero,List.set_cons_succ]
 refine wpAnyH_ready (rs:=[8,10]) (by kernel_rfl) (by simp) ?_;refine AllReadyH.cons rfl (fun K hK=>?_) (AllReadyH.cons rfl (fun K hK=>?_) AllReadyH.nil)
 focus
  go_simp;refine(hF _).mono ?_;rintro e w1 ⟨rfl,rfl⟩;refine hK.out _ _ hP0 (fun hS1=>?_);clear hK K;refine Xh 10 rfl fun K hK=>?_;go_simp
 rotate_left
 focus
  go_simp;refine hK.out _ _ hP1 (fun hS1=>?_);clear hK K;refine Xh 8 rfl fun K hK=>?_;go_simp;refine(hF _).mono ?_;rintro e w1 ⟨rfl,rfl⟩
 rotate_left
 all_goals
  refine hK.out _ _ hP1 (fun hS2=>?_);clear hK K;refine Xh 13 rfl fun K hK=>?_;go_simp;refine hAp.mono ?_;rintro e w2 ⟨rfl,b',g,cap,hb',hg,hD2,hR2,hS2⟩
  have hP2:JP jb (.iface 74 (.pointer (some ⟨db,0,none⟩))) w2:=⟨(cell_of_block (hS2.block jb (by omega) hjn) 0).1.trans hP1.1,(cell_of_block (hS2.block jb (by omega) hjn) 1).1.trans hP1.2⟩
  refine hK.out _ _ hP2 (fun hS3=>?_);clear hK K;refine wpAnyH_take (i:=14) (oi:={ dst:=some 5,op:=Go.Op.assign (Go.Operand.tmp 19),type:=81,pos:="journal.go:98",after:=#[{ on:=13,ground:=Go.Ground.data },{ on:=13,ground:=Go.Ground.chain },{ on:=0,ground:=Go.Ground.phase },{ on:=1,ground:=Go.Ground.phase },{ on:=2,ground:=Go.Ground.phase },{ on:=3,ground:=Go.Ground.phase },{ on:=4,ground:=Go.Ground.phase },{ on:=5,ground:=Go.Ground.phase },{ on:=6,ground:=Go.Ground.phase },{ on:=7,ground:=Go.Ground.phase },{ on:=8,ground:=Go.Ground.phase },{ on:=9,ground:=Go.Ground.phase },{ on:=10,ground:=Go.Ground.phase },{ on:=11,ground:=Go.Ground.phase },{ on:=12,ground:=Go.Ground.phase },{ on:=13,ground:=Go.Ground.phase }],guard:=none }) (v:=?v14) rfl (by kernel_rfl) (by kernel_rfl) (by kernel_rfl) (fun _ _ _ h=>h) (Or.inl ⟨by rfl,?y14⟩) hS3 ?_
  case y14=>(rintro w ⟨q0,q1⟩;go_simp;try with_reducible rfl)
  try simp only [Act.put,List.setIfInBounds_toArray,List.set_cons_zero,List.set_cons_succ]
  refine wpAnyH_done (by kernel_rfl) ?_ _
  have hS3:Spares [db,mn] w w2:=⟨hS2.os.trans hB0.os,hS2.tape.trans hB0.tape,hS2.output.trans hB0.output,Nat.le_trans hB0.size hS2.size,fun k hk hnk=>(hS2.block k (by omega) (by simp at hnk ⊢;omega)).trans (hB0.block k hk)⟩
  obtain⟨nm,hnm,hMm⟩:=hD.nm;have bJ2:=hS3.box hJ (by have h1:=hJ.ne hD.box (by decide);have h2:=BoxN.Xw hJ hMm;simp;exact⟨h1,Ne.symm h2⟩);have j02:=bJ2.cell 0 (v:=Yg db) rfl;unfold Yg at j02;have hSy:=dSync db md mn g cap _ fd _ (l-1) (f-1) line w2 hD2 (by omega) (by omega) (by omega) (by omega) (Xa Hld) hR2 (by omega);have hz3:=hS3.size;have HS3:=Xb hS3;clear hS2 hMm hAp hcr j0 j1 hS3 hB0 hP0 hP1 hP2
  go_wp2_with (go_at_call 309;refine hSy.mono ?_;rintro e w3 ⟨rfl,b,hb,hD3,hS4⟩)
  go_ret;refine⟨rfl,b,b',by omega,by omega,?_,((Xa HS3).mono (by simp)).trans (hS4.mono (by simp))⟩;rw [show l-2=l-1-1 by omega,show f-2=f-1-1 by omega];exact hD3
def Ym (s:List UInt8):Prop:=∀ b∈s,b.toNat<128
def Uk (s:List UInt8):Prop:=(10:UInt8)∉s/\(32:UInt8)∉s/\(59:UInt8)∉s
def Xpp (s:List UInt8):Prop:=Ym s/\Uk s
theorem Ym.app {a b:List UInt8} (ha:Ym a) (hb:Ym b):Ym (a++b):=fun x hx=>by
 rcases List.mem_append.1 hx with h | h
 ·exact ha x h
 exact hb x h
theorem Ym.cons {c:UInt8} {a:List UInt8} (hc:c.toNat<128) (ha:Ym a):Ym (c :: a):=fun x hx=>by
 rcases List.mem_cons.1 hx with rfl | h
 ·exact hc
 exact ha x h
theorem Zn:Ym []:=fun _ h=>by cases h
theorem Jj (u:Nat):Ym (Lib.decDigits u):=by
 induction u using Nat.strongRecOn with
 | ind u ih =>
  by_cases h:u<10
  ·rw [Lib.decDigits_one h]
   exact Ym.cons (by simp;omega) Zn
  rw [Lib.decDigits,dif_neg h];exact(ih (u / 10) (by omega)).app (Ym.cons (by simp;omega) Zn)
theorem Xel (n:Int):Ym (Lib.itoa n):=by
 unfold Lib.itoa
 split
 ·exact Ym.cons (by decide) (Jj _)
 exact Jj _
theorem Xis (k:Int) (u:Nat):Ym (nmStr k u):=by
 unfold nmStr
 split
 ·exact Ym.cons (by decide) (Jj _)
 split
 ·exact Ym.cons (by decide) (Jj _)
 exact Zn
theorem Xlh (b:Bool):Ym (Lib.formatBool b):=by
 cases b <;> exact fun x hx=>by revert x;decide
theorem Xe7:∀(l:List (List UInt8)) (sep:List UInt8),(∀ x∈l,Ym x)->Ym sep->Ym (Lib.join l sep)
 | [],_,_,_=>by rw [Lib.join_nil];exact Zn
 | x :: l,sep,h,hs=>by
  rw [Lib.join_cons];refine(h x (by simp)).app ?_;unfold Lib.joinTail;intro b hb;obtain⟨y,hy,hby⟩:=List.mem_flatten.1 hb;obtain⟨z,hz,rfl⟩:=List.mem_map.1 hy;exact(hs.app (h z (List.mem_cons_of_mem _ hz))) b hby
theorem Xn7 (r:Yf) (h:Ym r.pth):Ym (recStr r):=by
 refine Xe7 _ _ (fun x hx=>?_) (Ym.cons (by decide) Zn);simp only [Ji,List.mem_cons,List.not_mem_nil,or_false] at hx
 rcases hx with rfl | rfl | rfl | rfl | rfl | rfl | rfl | rfl
 ·exact Xel _
 ·exact Xis _ _
 ·exact Xis _ _
 ·exact Xlh _
 ·exact Jj _
 ·exact Xel _
 ·exact Jj _
 exact h
theorem Me (rs:List Yf) (h:∀ r∈rs,Ym r.pth):Ym (recTxt rs):=by
 refine Xe7 _ _ (fun x hx=>?_) (Ym.cons (by decide) Zn);obtain⟨r,hr,rfl⟩:=List.mem_map.1 hx;exact Xn7 r (h r hr)
def recLine (rs:List Yf):List UInt8:=lineL (recTxt rs)
theorem Xdj (rs:List Yf) (h:∀ r∈rs,r.Ok) (hn:rs.length<=1000):(recLine rs).length<=1201*rs.length+43:=by
 have h1:=Zx rs h;have h2:=Xgg (recTxt rs) (by omega);unfold recLine;omega
theorem Tryz.jAdd (jb db md mn g cap:Nat) (rs:List Yf) (fd fn:Option (Nat × List UInt8)) (l f:Int) (w:World) (hJ:BoxN w jb 212 #[Yg db,.int .u64 0,.nilIface]) (hD:Xj w db md mn fd fn (.slice none 0 0) l f) (hl:l<0) (hl1 : -999999990<=l) (hf:f<0) (hf1 : -999999990<=f)
  (hld:(U6 fd).length<=900000000000) (hln:(U6 fn).length<=900000000000) (hR:Zi w g rs) (hg:g<w.heap.size) (hok:∀ r∈rs,r.Ok) (hasc:∀ r∈rs,Ym r.pth) (hn:rs.length<=1000) (hE:Env w) (h6:6<=w.heap.size) :
  Calls prog 120 #[.pointer (some ⟨jb,0,none⟩),.slice (some ⟨g,0,none⟩) rs.length cap] w fun e w'=>e=.returned .nilIface/\∃ b b',w.heap.size<=b/\w.heap.size<=b'/\Xj w' db md mn (some (b,U6 fd++recLine rs)) (some (b',U6 fn++recLine rs)) (.slice none 0 0) (l-2) (f-2)/\Spares [db,md,mn] w w':=by
 have hT:=Xtt g cap rs w hR hg hok hn hE h6;have hlen:=Zx rs hok;have hll:=Xdj rs hok hn
 have hLn:=fun W (hb:Below w.heap.size w W)=>Xvp (recTxt rs) W (hE.below hb h6) (Nat.le_trans h6 hb.size) (by omega) (Me rs hasc)
 have hA:=fun W (hb:Below w.heap.size w W)=>Xs2 jb db md mn .nilIface fd fn l f (recLine rs) W (hJ.below hb hJ.lt) (hD.below hb) hl hl1 hf hf1 (by omega) (by omega)
 change ∀ W,Below w.heap.size w W->Calls prog 144 _ W (fun e w'=>e=.returned (.string ⟨(recLine rs).toArray⟩)/\_) at hLn
 have hjn0:jb ∉ [db,md,mn]:=by
  obtain⟨n1,-,hM1⟩:=hD.nm;obtain⟨n2,-,hM2⟩:=hD.dm;have h1:=hJ.ne hD.box (by decide);have h2:=BoxN.Xw hJ hM1;have h3:=BoxN.Xw hJ hM2;simp;exact⟨h1,Ne.symm h3,Ne.symm h2⟩
 have c0:=hJ.cell 2 (v:=.nilIface) rfl;have lJ:=hJ.lt;generalize rs.length=n at *;generalize recLine rs=line at *;generalize recTxt rs=txt at *;go_enter func120,ntmps120
 go_wp2_with (first
  | (go_at_call 145;refine hT.mono ?_;rintro e w1 ⟨rfl,hb1⟩)
  | (go_at_call 144;refine(hLn _ hb1).mono ?_;rintro e w2 ⟨rfl,hb2⟩;have hb3:=hb1.trans (hb2.mono hb1.size))
  | (go_at_call 163;refine(hA _ hb3).mono ?_;rintro e w4 ⟨rfl,b,b',hb,hb',hD4,hS4⟩;have hz4:=hb3.size;have hjn:jb ∉ [db,md,mn]:=hjn0;have bJ4:=hS4.box (hJ.below hb3 hJ.lt) hjn;have c4:=bJ4.cell 2 (v:=.nilIface) rfl;have f4:=bJ4.frozen 2))
 have hjn':=hjn;simp at hjn';have hS5:Spares [jb] w4 (w4.setCell ⟨jb,2,none⟩ .nilIface):=(Spares.of_below (Below.refl _ w4)).set (by simp) _ _;have hD5:=hD4.spared hS5 (by simp;omega) (by simp;omega) (by simp;omega) (fun q hq=>by cases hq;simp;omega) (fun q hq=>by cases hq;simp;omega);have bJ5:=bJ4.set 2 .nilIface
 have hS6:Spares [db,md,mn] w (w4.setCell ⟨jb,2,none⟩ .nilIface):=by
  have h1:Spares [db,md,mn] w w4:=(Spares.of_below hb3).trans hS4;refine⟨h1.os,h1.tape,h1.output,by simpa using h1.size,fun k hk hnk=>?_⟩
  by_cases e:k=jb
  ·subst e
   exact(show _=some (Obj.cells #[Yg db,.int .u64 0,.nilIface] 212 (0,0)) from bJ5).trans (show w.heap[k]? = some (Obj.cells #[Yg db,.int .u64 0,.nilIface] 212 (0,0)) from hJ).symm
  rw [Yt _ _ _ _ _ e];exact h1.block k hk hnk
 go_ret;exact⟨rfl,b,b',by omega,by omega,hD5,hS6⟩
def NmA (k:Int) (u:Nat):Prop:=k=1\/k=2\/(k=0/\u=0)
structure Xdo (t:Xd):Prop where
 a0:0<=t.at_
 a1:t.at_<=18446744073709551615
 r0:0<=t.tr
 r1:t.tr<=1000000000/\NmA t.ak t.au
structure Xc8 (t:Xc):Prop where
 a0:0<=t.at_
 a1:t.at_<=18446744073709551615
 r0:0<=t.tr
 r1:t.tr<=1000000000/\NmA t.ak t.au
 l0:0<=t.last
 l1:t.last<=18446744073709551615
 p1:t.pth.length<=24
 pa:Xpp t.pth
structure Tryz.Yn (W:World) (vb mt ml:Nat) (vx:VX) (tm:Int) (tn ln:Nat) (tks:List Xd) (lks:List Xc):Prop where
 va:Tryz.Xq W vb mt ml vx tm tn ln tks lks
 nt:∀ t∈tks,t.n<=tn
 nl:∀ l∈lks,l.n<=ln
 t0:0<=tm
 t1:tm<=18446744073709551615
 okT:∀ t∈tks,Xdo t
 okL:∀ l∈lks,Xc8 l
 mne:mt≠ml
 v9:9<=vb
 m9:9<=mt
 l9:9<=ml
section
variable {W W':World} {vb mt ml:Nat} {vx:VX} {tm:Int} {tn ln:Nat} {tks:List Xd} {lks:List Xc}
theorem Tryz.Yn.below (h:Yn W vb mt ml vx tm tn ln tks lks) (hb:Below W.heap.size W W'):Yn W' vb mt ml vx tm tn ln tks lks:={ h with va:=h.va.below hb }
theorem Tryz.Yn.nine (h:Yn W vb mt ml vx tm tn ln tks lks):9<=W.heap.size:=Nat.le_trans h.v9 (Nat.le_of_lt h.va.v.lt)
theorem Tryz.Yn.nes (h:Yn W vb mt ml vx tm tn ln tks lks):mt≠vb/\ml≠vb:=by
 obtain⟨n1,-,m1⟩:=h.va.held.mapT;obtain⟨n2,-,m2⟩:=h.va.held.mapL;exact⟨BoxN.Xw h.va.v m1,BoxN.Xw h.va.v m2⟩
theorem Tryz.Yn.spared (h:Yn W vb mt ml vx tm tn ln tks lks) {bs:List Nat} (hS:Spares bs W W') (h1:vb∉bs) (h2:mt∉bs) (h3:ml∉bs) (h6:∀ b∈bs,6<=b):Yn W' vb mt ml vx tm tn ln tks lks:=by
 obtain⟨n1,k1,m1⟩:=h.va.held.mapT;obtain⟨n2,k2,m2⟩:=h.va.held.mapL;have hb6:=hS.below (B:=6) h.va.six h6;exact { h with va:=⟨hS.box h.va.v h1,⟨⟨n1,k1,hS.map m1 h2⟩,⟨n2,k2,hS.map m2 h3⟩⟩,h.va.ok,h.va.env.below hb6 (Nat.le_refl _),Nat.le_trans h.va.six hS.size⟩ }
end
def Tryz.Xqc:Int:=1
def Tryz.Xpy:Int:=2
def Tryz.Xuk (vx:VX) (tm:Int) (mt ml:Nat) (tn ln z:Int):Array Value:=Y7 vx tm mt ml (max tn z) ln
def Tryz.Xuo (vx:VX) (tm:Int) (mt ml:Nat) (tn ln z:Int):Array Value:=Y7 vx tm mt ml tn (max ln z)
theorem Tryz.Xvv (vb mt ml:Nat) (vx:VX) (tm tn ln z:Int) (w:World) (hV:BoxN w vb 126 (Y7 vx tm mt ml tn ln)) :
  Calls prog 149 #[.pointer (some ⟨vb,0,none⟩),.agg #[.int .i64 Xqc,.int .u64 z]] w fun e w'=>e=.returned (.tuple #[])/\BoxN w' vb 126 (Xuk vx tm mt ml tn ln z)/\Spares [vb] w w':=by
 have c5:=hV.cell 5 (v:=.int .u64 tn) rfl;have f5:=hV.frozen 5;have lV:=hV.lt;unfold Xqc;go_enter func149,ntmps149;go_wp2
 go_region
 go_wp2
 go_end0
 refine⟨rfl,?_,(((Spares.of_below (Below.refl _ w)).set (by simp) _ _).alloc _).drew⟩;exact BoxN.alloc (hV.set 5 (.int .u64 (max tn z))) _
theorem Tryz.Xve (vb mt ml:Nat) (vx:VX) (tm tn ln z:Int) (w:World) (hV:BoxN w vb 126 (Y7 vx tm mt ml tn ln)) :
  Calls prog 149 #[.pointer (some ⟨vb,0,none⟩),.agg #[.int .i64 Xpy,.int .u64 z]] w fun e w'=>e=.returned (.tuple #[])/\BoxN w' vb 126 (Xuo vx tm mt ml tn ln z)/\Spares [vb] w w':=by
 have c5:=hV.cell 6 (v:=.int .u64 ln) rfl;have f5:=hV.frozen 6;have lV:=hV.lt;unfold Xpy;go_enter func149,ntmps149;go_wp2
 go_region
 go_wp2
 go_end0
 refine⟨rfl,?_,(((Spares.of_below (Below.refl _ w)).set (by simp) _ _).alloc _).drew⟩;exact BoxN.alloc (hV.set 6 (.int .u64 (max ln z))) _
theorem Y8 {H:Type} {P:Program} {k:TypeId} {R:Value->Option (DataW H × List MemPlace)} {D:DataW H} {W W':World} {b n:Nat} (h:W.ownsMap P k R b n D) (hb:Below W.heap.size W W'):W'.ownsMap P k R b n D:=
 h.kept (row:=none) ⟨hb.os,hb.tape,hb.output,hb.size,fun k hk _=>hb.block k hk⟩ (by simp)
abbrev Xer (vb rb fo mp:Nat) (c0 c1 c2 c3 c4 c5 c6 c7 c8 c9:Value) (W:World):Prop:=W.cell? ⟨vb,fo,none⟩=some (.map (some mp))/\Uh W rb c0 c1 c2 c3 c4 c5 c6 c7 c8 c9
theorem Xer.below {vb rb fo mp:Nat} {c0 c1 c2 c3 c4 c5 c6 c7 c8 c9:Value} {W W':World} (h:Xer vb rb fo mp c0 c1 c2 c3 c4 c5 c6 c7 c8 c9 W) (hb:Below W.heap.size W W'):Xer vb rb fo mp c0 c1 c2 c3 c4 c5 c6 c7 c8 c9 W':=⟨cell_later hb h.1,h.2.below hb⟩
theorem Tryz.Xsm (vb mt ml:Nat) (vx:VX) (tm:Int) (tn ln:Nat) (tks:List Xd) (lks:List Xc) (w:World) (hV:Yn w vb mt ml vx tm tn ln tks lks) (kind last:Int) (pth:List UInt8) (t:Xd) (hok:Xdo t) (hf:Xab t tks) (hl:tks.length<500) (h1:t.n<Xo) (h2:t.au<Xo) :
  Calls prog 148 #[.pointer (some ⟨vb,0,none⟩),.agg (Xi kind 1 t.n t.ak t.au t.pd t.at_ t.tr last pth)] w fun e w'=>e=.returned (.tuple #[])/\Yn w' vb mt ml vx tm (max tn t.n) ln (Yh t tks) lks/\Spares [vb,mt] w w':=by
 have hOf:=fun W=>Xst kind 1 t.n t.ak t.au t.pd t.at_ t.tr last pth W
 have hSt:=fun W (hH:Mk W mt ml tks lks)=>storeT hH hV.va.ok hf hl h1 h2
 unfold nmV Xd.cells at hSt;unfold Xi at hOf ⊢;have bR0:=BoxN.new w 135 #[.int .i64 kind,.int .i64 1,.int .u64 t.n,.int .i64 t.ak,.int .u64 t.au,.bool t.pd,.int .u64 t.at_,.int .i64 t.tr,.int .u64 last,.string ⟨pth.toArray⟩];have hB0:Below w.heap.size w (w.alloc (.cells #[.int .i64 kind,.int .i64 1,.int .u64 t.n,.int .i64 t.ak,.int .u64 t.au,.bool t.pd,.int .u64 t.at_,.int .i64 t.tr,.int .u64 last,.string ⟨pth.toArray⟩] 135)):=(Below.refl _ w).alloc (Nat.le_refl _) _;have hV0:=hV.below hB0;have hU:=Xvv vb mt ml vx tm tn ln t.n _ hV0.va.v;unfold Xqc Xuk at hU;have lV:=hV.va.v.lt;have lH:=hV.va.held.lt;have hne:=hV.nes;go_enter func148,ntmps148
 go_wp2_with (go_at_call 149;refine hU.mono ?_;rintro e w1 ⟨rfl,bV1,hS1⟩;have bR1:=hS1.box bR0 (by simp;omega);have y1:=bR1.cell 1 (v:=.int .i64 1) rfl)
 have hz1:=hS1.size
 have hH1:Mk w1 mt ml tks lks:=by
  obtain⟨⟨n1,k1,m1⟩,⟨n2,k2,m2⟩⟩:=hV0.va.held;exact⟨⟨n1,k1,hS1.map m1 (by simpa using hne.1)⟩,⟨n2,k2,hS1.map m2 (by simpa using hne.2)⟩⟩
 have hP1:Xer vb w.heap.size 3 mt (.int .i64 kind) (.int .i64 1) (.int .u64 t.n) (.int .i64 t.ak) (.int .u64 t.au) (.bool t.pd) (.int .u64 t.at_) (.int .i64 t.tr) (.int .u64 last) (.string ⟨pth.toArray⟩) w1.drew:=⟨bV1.cell 3 rfl,bR1.Xc5⟩
 have Hz1:=Xb hz1;clear hz1 hU y1
 go_region_held3 (Xer vb w.heap.size 3 mt (.int .i64 kind) (.int .i64 1) (.int .u64 t.n) (.int .i64 t.ak) (.int .u64 t.au) (.bool t.pd) (.int .u64 t.at_) (.int .i64 t.tr) (.int .u64 last) (.string ⟨pth.toArray⟩)) (first
  | with_reducible exact hP1
  | with_reducible exact hP2
  | with_reducible exact hP4
  | with_reducible assumption) (first
  | (go_at_call 187;refine(hOf _).mono ?_;rintro e w2 ⟨rfl,hb2⟩;have hP2:=Xer.below hP1 hb2;have hB2:Below w1.heap.size w1 w2:=(Below.refl _ w1).drew.trans hb2;obtain⟨w4,hrun,hM4,hg4⟩:=hSt w2 (hH1.keeps (KeepsT.below (bad:=fun _=>false) hB2));have bV4:=(bV1.below hB2 bV1.lt).kept hg4 (by intro e;injection e with e;exact hne.1 e.symm);have bR4:=(bR1.below hB2 bR1.lt).kept hg4 (by intro e;injection e with e;omega);have hP4:Xer vb w.heap.size 3 mt (.int .i64 kind) (.int .i64 1) (.int .u64 t.n) (.int .i64 t.ak) (.int .u64 t.au) (.bool t.pd) (.int .u64 t.at_) (.int .i64 t.tr) (.int .u64 last) (.string ⟨pth.toArray⟩) w4:=⟨bV4.cell 3 rfl,bR4.Xc5⟩))
 all_goals
  have hsp:Spares [vb,mt] w w4:=(((Spares.of_below hB0).trans (hS1.mono (by simp))).trans (Spares.of_below hB2)).trans (Spares.X6 hg4 (by simp))
  have hF:Hid (Yn w4 vb mt ml vx tm (max tn t.n) ln (Yh t tks) lks):=Xb (by
   have hb6:=hsp.below (B:=6) hV.va.six (fun b hb=>by
    have h9:=hV.v9;have h9':=hV.m9
    rcases List.mem_cons.1 hb with rfl | hb
    ·omega
    rw [List.mem_singleton.1 hb];omega)
   have hm:((max tn t.n:Nat):Int)=max (tn:Int) t.n:=by omega
   obtain⟨n2,k2,m2⟩:=hH1.mapL;have m4:=(Y8 m2 hB2).kept hg4 (by intro e;injection e with e;exact hV.mne e.symm);refine⟨⟨?_,⟨hM4,⟨n2,k2,m4⟩⟩,hV.va.ok.putT hf hl h1 h2,hV.va.env.below hb6 (Nat.le_refl _),Nat.le_trans hV.va.six hsp.size⟩,fun x hx=>?_,hV.nl,hV.t0,hV.t1,fun x hx=>?_,hV.okL,hV.mne,hV.v9,hV.m9,hV.l9⟩
   ·rw [hm];exact bV4
   ·rcases Zh hV.va.ok.incT hx with rfl | hx
    ·omega
    have:=hV.nt x hx;omega
   rcases Zh hV.va.ok.incT hx with rfl | hx
   ·exact hok
   exact hV.okT x hx)
  clear hrun hM4 hg4 hP4 hP2 hP1 bV4 bR4 bV1 bR1 hSt hOf;go_wp2
  go_end0
  exact⟨rfl,Xa hF,hsp⟩
theorem Tryz.Xsv (vb mt ml:Nat) (vx:VX) (tm:Int) (tn ln:Nat) (tks:List Xd) (lks:List Xc) (w:World) (hV:Yn w vb mt ml vx tm tn ln tks lks) (kind:Int) (t:Xc) (hok:Xc8 t) (hf:Xaj t lks) (hl:lks.length<500) (h1:t.n<Xo) (h2:t.au<Xo) :
  Calls prog 148 #[.pointer (some ⟨vb,0,none⟩),.agg (Xi kind 2 t.n t.ak t.au t.pd t.at_ t.tr t.last t.pth)] w fun e w'=>e=.returned (.tuple #[])/\Yn w' vb mt ml vx tm tn (max ln t.n) tks (Yc t lks)/\Spares [vb,ml] w w':=by
 have hOf:=fun W=>Xt3 kind 2 t.n t.ak t.au t.pd t.at_ t.tr t.last t.pth W
 have hSt:=fun W (hH:Mk W mt ml tks lks)=>Xvy hH hV.va.ok hf hl h1 h2
 unfold nmV Xc.cells at hSt;unfold Xi at hOf ⊢;have bR0:=BoxN.new w 135 #[.int .i64 kind,.int .i64 2,.int .u64 t.n,.int .i64 t.ak,.int .u64 t.au,.bool t.pd,.int .u64 t.at_,.int .i64 t.tr,.int .u64 t.last,.string ⟨t.pth.toArray⟩];have hB0:Below w.heap.size w (w.alloc (.cells #[.int .i64 kind,.int .i64 2,.int .u64 t.n,.int .i64 t.ak,.int .u64 t.au,.bool t.pd,.int .u64 t.at_,.int .i64 t.tr,.int .u64 t.last,.string ⟨t.pth.toArray⟩] 135)):=(Below.refl _ w).alloc (Nat.le_refl _) _;have hV0:=hV.below hB0;have hU:=Xve vb mt ml vx tm tn ln t.n _ hV0.va.v;unfold Xpy Xuo at hU;have lV:=hV.va.v.lt;have lH:=hV.va.held.lt;have hne:=hV.nes;go_enter func148,ntmps148
 go_wp2_with (go_at_call 149;refine hU.mono ?_;rintro e w1 ⟨rfl,bV1,hS1⟩;have bR1:=hS1.box bR0 (by simp;omega);have y1:=bR1.cell 1 (v:=.int .i64 2) rfl)
 have hz1:=hS1.size
 have hH1:Mk w1 mt ml tks lks:=by
  obtain⟨⟨n1,k1,m1⟩,⟨n2,k2,m2⟩⟩:=hV0.va.held;exact⟨⟨n1,k1,hS1.map m1 (by simpa using hne.1)⟩,⟨n2,k2,hS1.map m2 (by simpa using hne.2)⟩⟩
 have hP1:Xer vb w.heap.size 4 ml (.int .i64 kind) (.int .i64 2) (.int .u64 t.n) (.int .i64 t.ak) (.int .u64 t.au) (.bool t.pd) (.int .u64 t.at_) (.int .i64 t.tr) (.int .u64 t.last) (.string ⟨t.pth.toArray⟩) w1.drew:=⟨bV1.cell 4 rfl,bR1.Xc5⟩
 have Hz1:=Xb hz1;clear hz1 hU y1
 go_region_held3 (Xer vb w.heap.size 4 ml (.int .i64 kind) (.int .i64 2) (.int .u64 t.n) (.int .i64 t.ak) (.int .u64 t.au) (.bool t.pd) (.int .u64 t.at_) (.int .i64 t.tr) (.int .u64 t.last) (.string ⟨t.pth.toArray⟩)) (first
  | with_reducible exact hP1
  | with_reducible exact hP2
  | with_reducible exact hP4
  | with_reducible assumption) (first
  | (go_at_call 188;refine(hOf _).mono ?_;rintro e w2 ⟨rfl,hb2⟩;have hP2:=Xer.below hP1 hb2;have hB2:Below w1.heap.size w1 w2:=(Below.refl _ w1).drew.trans hb2;obtain⟨w4,hrun,hM4,hg4⟩:=hSt w2 (hH1.keeps (KeepsT.below (bad:=fun _=>false) hB2));have bV4:=(bV1.below hB2 bV1.lt).kept hg4 (by intro e;injection e with e;exact hne.2 e.symm);have bR4:=(bR1.below hB2 bR1.lt).kept hg4 (by intro e;injection e with e;omega);have hP4:Xer vb w.heap.size 4 ml (.int .i64 kind) (.int .i64 2) (.int .u64 t.n) (.int .i64 t.ak) (.int .u64 t.au) (.bool t.pd) (.int .u64 t.at_) (.int .i64 t.tr) (.int .u64 t.last) (.string ⟨t.pth.toArray⟩) w4:=⟨bV4.cell 4 rfl,bR4.Xc5⟩))
 all_goals
  have hsp:Spares [vb,ml] w w4:=(((Spares.of_below hB0).trans (hS1.mono (by simp))).trans (Spares.of_below hB2)).trans (Spares.X6 hg4 (by simp))
  have hF:Hid (Yn w4 vb mt ml vx tm tn (max ln t.n) tks (Yc t lks)):=Xb (by
   have hb6:=hsp.below (B:=6) hV.va.six (fun b hb=>by
    have h9:=hV.v9;have h9':=hV.l9
    rcases List.mem_cons.1 hb with rfl | hb
    ·omega
    rw [List.mem_singleton.1 hb];omega)
   have hm:((max ln t.n:Nat):Int)=max (ln:Int) t.n:=by omega
   obtain⟨n2,k2,m2⟩:=hH1.mapT;have m4:=(Y8 m2 hB2).kept hg4 (by intro e;injection e with e;exact hV.mne e);refine⟨⟨?_,⟨⟨n2,k2,m4⟩,hM4⟩,hV.va.ok.putL hf hl h1 h2,hV.va.env.below hb6 (Nat.le_refl _),Nat.le_trans hV.va.six hsp.size⟩,hV.nt,fun x hx=>?_,hV.t0,hV.t1,hV.okT,fun x hx=>?_,hV.mne,hV.v9,hV.m9,hV.l9⟩
   ·rw [hm];exact bV4
   ·rcases Jd hV.va.ok.incL hx with rfl | hx
    ·omega
    have:=hV.nl x hx;omega
   rcases Jd hV.va.ok.incL hx with rfl | hx
   ·exact hok
   exact hV.okL x hx)
  clear hrun hM4 hg4 hP4 hP2 hP1 bV4 bR4 bV1 bR1 hSt hOf;go_wp2
  go_end0
  exact⟨rfl,Xa hF,hsp⟩
theorem Tryz.Xgf (vb mt ml:Nat) (vx:VX) (tm:Int) (tn ln:Nat) (tks:List Xd) (lks:List Xc) (w:World) (hV:Yn w vb mt ml vx tm tn ln tks lks) (last:Int) (pth:List UInt8) (t:Xd) (hok:Xdo t) (hf:Xab t tks) (hl:tks.length<500) (h1:t.n<Xo) (h2:t.au<Xo) :
  Calls prog 100 #[.pointer (some ⟨vb,0,none⟩),.agg (Xi 1 1 t.n t.ak t.au t.pd t.at_ t.tr last pth)] w fun e w'=>e=.returned (.tuple #[])/\Yn w' vb mt ml vx tm (max tn t.n) ln (Yh t tks) lks/\Spares [vb,mt] w w':=by
 have hB0:Below w.heap.size w (w.alloc (.cells (Xi 1 1 t.n t.ak t.au t.pd t.at_ t.tr last pth) 135)):=(Below.refl _ w).alloc (Nat.le_refl _) _;have hP:=Xsm vb mt ml vx tm tn ln tks lks _ (hV.below hB0) 1 last pth t hok hf hl h1 h2;unfold Xi at hP hB0 ⊢;go_enter func100,ntmps100
 go_wp2_with (go_at_call 148;refine hP.mono ?_;rintro e w1 ⟨rfl,hV1,hS1⟩)
 go_end0
 exact⟨rfl,hV1,(Spares.of_below hB0).trans hS1⟩
theorem Tryz.Xha (vb mt ml:Nat) (vx:VX) (tm:Int) (tn ln:Nat) (tks:List Xd) (lks:List Xc) (w:World) (hV:Yn w vb mt ml vx tm tn ln tks lks) (t:Xc) (hok:Xc8 t) (hf:Xaj t lks) (hl:lks.length<500) (h1:t.n<Xo) (h2:t.au<Xo) :
  Calls prog 100 #[.pointer (some ⟨vb,0,none⟩),.agg (Xi 1 2 t.n t.ak t.au t.pd t.at_ t.tr t.last t.pth)] w fun e w'=>e=.returned (.tuple #[])/\Yn w' vb mt ml vx tm tn (max ln t.n) tks (Yc t lks)/\Spares [vb,ml] w w':=by
 have hB0:Below w.heap.size w (w.alloc (.cells (Xi 1 2 t.n t.ak t.au t.pd t.at_ t.tr t.last t.pth) 135)):=(Below.refl _ w).alloc (Nat.le_refl _) _;have hP:=Xsv vb mt ml vx tm tn ln tks lks _ (hV.below hB0) 1 t hok hf hl h1 h2;unfold Xi at hP hB0 ⊢;go_enter func100,ntmps100
 go_wp2_with (go_at_call 148;refine hP.mono ?_;rintro e w1 ⟨rfl,hV1,hS1⟩)
 go_end0
 exact⟨rfl,hV1,(Spares.of_below hB0).trans hS1⟩
end Go.Proofs
