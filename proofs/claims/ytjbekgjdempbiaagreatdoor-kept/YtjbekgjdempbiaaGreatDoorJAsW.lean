import Derived.Test.YtjbekgjdempbiaaGreatDoorJSq
import Derived.Test.YtjbekgjdempbiaaGreatDoorJCodeE
import Derived.Test.YtjbekgjdempbiaaGreatDoorJPutL
import Derived.Test.YtjbekgjdempbiaaGreatDoorProg
import Derived.Test.YtjbekgjdempbiaaGreatDoorJMapOps
import Derived.WalkKit
import Derived.LaidEql
import Derived.Stop.Asserts
import Derived.RowKitTokens
set_option maxRecDepth 100000
set_option maxHeartbeats 8000000
namespace Go.Proofs
open Go.RowKit Go.Sort Go.Lib Go.Shelf Go.Maps
theorem Tryz.Xmq (vb mt ml:Nat) (vx:VX) (tm tn ln:Int) (tks:List Xd) (lks:List Xc) (w:World) (hV:Xq w vb mt ml vx tm tn ln tks lks) (id pth:List UInt8) (hid:id.length<=1000000) (ttl most k:Int) (hk:k≠0)
  (hF:∀ W,Below w.heap.size w W->Calls prog 64 #[.pointer (some ⟨vb,0,none⟩),nmV (parseN id),.string ⟨pth.toArray⟩,.int .u64 ttl,.int .u64 most] W fun e w'=>e=.returned (Jf k)/\Below W.heap.size W w') :
  Calls prog 41 #[.pointer (some ⟨vb,0,none⟩),.string ⟨id.toArray⟩,.string ⟨pth.toArray⟩,.int .u64 ttl,.int .u64 most] w fun e w'=>e=.returned (.tuple #[.string ⟨#[]⟩,.iface 33 (.int .i64 k)])/\Below w.heap.size w w':=by
 have hP:=parse ⟨id.toArray⟩ (by simpa [ByteArray.size] using hid) w hV.env hV.six;simp only at hP;rw [Vf hk] at hF;generalize parseN id=x at *;unfold nmV at hP hF;clear hk;go_enter func41,ntmps41
 go_wp2_with (first
  | (go_at_call 63;refine hP.mono ?_;rintro e w1 ⟨rfl,hb1⟩;have hF1:=hF _ (hb1.alloc hb1.size (.cells #[.int .i64 x.1,.int .u64 x.2] 114)))
  | (go_at_call 64;refine hF1.mono ?_;rintro e w2 ⟨rfl,hb2⟩))
 exact bodyPost_ret (v:=.tuple #[.string ⟨#[]⟩,.iface 33 (.int .i64 k)]) (by simp [results,results41,go_sem]) rfl ⟨rfl,(hb1.alloc hb1.size _).trans (hb2.mono (by have:=hb1.size;simp;omega))⟩
def Xb4 (n m:Nat) (at_ last:Int) (pth:List UInt8):Xc:=⟨n,1,m,at_,0,false,pth,last⟩
abbrev Tryz.IsP (vb ab:Nat) (m tm:Int) (W:World):Prop:=
 W.cell? ⟨vb,2,none⟩=some (.int .u64 tm)/\W.cell? ⟨ab,0,none⟩=some (.int .i64 1)/\W.cell? ⟨ab,1,none⟩=some (.int .u64 m)
theorem Tryz.IsP.below {vb ab:Nat} {m tm:Int} {W W':World} (h:IsP vb ab m tm W) (hb:Below W.heap.size W W'):IsP vb ab m tm W':=⟨cell_later hb h.1,cell_later hb h.2.1,cell_later hb h.2.2⟩
theorem Zv (a b:Int) (ha:0<=a) (ha1:a<=18446744073709551615) (hb:0<=b) (hb1:b<=18446744073709551615):0<=plusI a b/\plusI a b<=18446744073709551615:=by
 unfold plusI
 split <;> omega
theorem Tryz.Xn9 (k:Blk) (vx:VX) (tm:Int) (s:VSt) (c:List UInt8) (l f:Int) (w:World) (hW:Whole w k vx tm s c l f) (hl:l<0) (hl1 : -999999990<=l) (hf:f<0) (hf1 : -999999990<=f) (hc:c.length<=900000000000) (id pth:List UInt8) (hid:id.length<=1000000) (ttl most:Int) (ht0:0<=ttl) (ht1:ttl<=18446744073709551615) (hq0:0<=most) (hq1:most<=18446744073709551615) (hp24:pth.length<=24) (hpa:Xpp pth) (m:Nat) (hm64:m<Xo) (hm:parseN id=(1,(m:Int)))
  (hF:∀ W,Below w.heap.size w W->Calls prog 64 #[.pointer (some ⟨k.vb,0,none⟩),nmV (parseN id),.string ⟨pth.toArray⟩,.int .u64 ttl,.int .u64 most] W fun e w'=>e=.returned .nilIface/\Below W.heap.size W w') (h14:s.lks.length<14) (hln:s.ln<9223372036854775807) :
  Calls prog 41 #[.pointer (some ⟨k.vb,0,none⟩),.string ⟨id.toArray⟩,.string ⟨pth.toArray⟩,.int .u64 ttl,.int .u64 most] w fun e w'=>e=.returned (.tuple #[.string ⟨(nmStr 2 (s.ln+1)).toArray⟩,.nilIface])/\Whole w' k vx tm ⟨s.tn,s.ln+1,s.tks,s.lks ++ [Xb4 (s.ln+1) m (plusI tm ttl) (plusI tm most) pth]⟩ (c++keepLine tm [.lea (Xb4 (s.ln+1) m (plusI tm ttl) (plusI tm most) pth)]) (l-2) (f-2)/\Spares k.turns w w':=by
 have hA1:=fun W=>later tm ttl hW.v.t0 hW.v.t1 ht0 ht1 W
 have hA2:=fun W=>later tm most hW.v.t0 hW.v.t1 hq0 hq1 W
 have hr1:=Zv tm ttl hW.v.t0 hW.v.t1 ht0 ht1;have hr2:=Zv tm most hW.v.t0 hW.v.t1 hq0 hq1;generalize plusI tm ttl=at0 at *;generalize plusI tm most=la0 at *;have hP:=parse ⟨id.toArray⟩ (by simpa [ByteArray.size] using hid) w hW.v.va.env hW.v.va.six;simp only at hP
 have htime:=fun W (hb:Below w.heap.size w W)=>(hW.v.va.below hb).v.cell 2 (v:=.int .u64 tm) rfl
 have hcn:=fun W (hb:Below w.heap.size w W)=>(hW.v.va.below hb).v.cell 6 (v:=.int .u64 (s.ln:Int)) rfl
 have hfit:(Item.lea (Xb4 (s.ln+1) m at0 la0 pth)).Fits s:=⟨⟨hr1.1,hr1.2,show (0:Int)<=0 by decide,⟨show (0:Int)<=1000000000 by decide,.inl rfl⟩,hr2.1,hr2.2,hp24,hpa⟩,.inr (fun x hx=>by have:=hW.v.nl x hx;show x.n<s.ln+1;omega),by omega,show s.ln+1<Xo by unfold Xo;omega,hm64⟩
 have happ:(Item.lea (Xb4 (s.ln+1) m at0 la0 pth)).app s=⟨s.tn,s.ln+1,s.tks,s.lks ++ [Xb4 (s.ln+1) m at0 la0 pth]⟩:=by
  show VSt.mk s.tn (max s.ln (s.ln+1)) s.tks (Yc (Xb4 (s.ln+1) m at0 la0 pth) s.lks)=_
  rw [Xk6 (fun x hx=>by have:=hW.v.nl x hx;show x.n<s.ln+1;omega),show max s.ln (s.ln+1)=s.ln+1 by omega]
 have hK:=fun W (hb:Below w.heap.size w W)=>Xmy k vx tm s c l f (.lea (Xb4 (s.ln+1) m at0 la0 pth)) W (hW.below hb) hl hl1 hf hf1 hc hfit
 rw [happ] at hK
 have hER:=fun W b (h0:BoxN W b 131 #[.int .i64 1,.int .u64 (m:Int),.int .u64 at0,.int .i64 0,.bool false,.string ⟨pth.toArray⟩,.int .u64 la0])=>Un b 2 ((s.ln+1:Nat):Int) 1 m at0 0 false pth la0 W (h0.cell 0 rfl) (h0.cell 1 rfl) (h0.cell 2 rfl) (h0.cell 3 rfl) (h0.cell 4 rfl) (h0.cell 5 rfl) (h0.cell 6 rfl)
 have hNS:=fun W hE h6=>Zf 2 (s.ln+1) (by omega) W hE h6
 obtain⟨z,hz⟩:∃ z:Int,(s.ln:Int)=z:=⟨_,rfl⟩
 have hz2:((s.ln+1:Nat):Int)=z+1:=by omega
 have hz0:0<=z:=by omega
 have hz1:z<9223372036854775807:=by omega
 simp only [hz] at hcn;rw [hm] at hP hF;unfold nmV at hP hF;simp only at hP hF
 change ∀ W,Below w.heap.size w W->Calls prog 66 _ (W.alloc (.cells #[.int .i64 1,.int .i64 2,.int .u64 ((s.ln+1:Nat):Int),.int .i64 1,.int .u64 (m:Int),.bool false,.int .u64 at0,.int .i64 0,.int .u64 la0,.string ⟨pth.toArray⟩] 135)) _ at hK
 unfold Xi at hER;rw [hz2] at hK hER;simp only [hz2] at hNS
 obtain⟨str,hstr⟩:∃ str,nmStr 2 (s.ln+1)=str:=⟨_,rfl⟩
 rw [hstr] at hNS;have Hstr:=Xb hstr
 obtain⟨kl,hkl⟩:∃ kl,keepLine tm [.lea (Xb4 (s.ln+1) m at0 la0 pth)]=kl:=⟨_,rfl⟩
 rw [hkl] at hK;have Hkl:=Xb hkl
 obtain⟨s',hs'⟩:∃ s':VSt,(⟨s.tn,s.ln+1,s.tks,s.lks ++ [Xb4 (s.ln+1) m at0 la0 pth]⟩:VSt)=s':=⟨_,rfl⟩
 rw [hs'] at hK;have Hs':=Xb hs'
 have hfresh:∀ W,Below w.heap.size w W->W.heap.size∉k.turns:=fun W hb hm=>by
  have:=hW.lts _ hm;have:=hb.size;omega
 have lV:=hW.v.va.v.lt;clear hstr hkl hs' happ hfit hz hz2 hm hr1 hr2;go_enter func41,ntmps41
 go_wp2_with (first
  | (go_at_call 63;refine hP.mono ?_;rintro e w1 ⟨rfl,hb1⟩;have hF1:=hF _ (hb1.alloc hb1.size (.cells #[.int .i64 1,.int .u64 (m:Int)] 114)))
  | (go_at_call 64;refine hF1.mono ?_;rintro e w2 ⟨rfl,hb2⟩;have hb3:=(hb1.alloc hb1.size (.cells #[.int .i64 1,.int .u64 (m:Int)] 114)).trans (hb2.mono (by have:=hb1.size;simp;omega));have c4:=hcn _ hb3;have c5:=htime _ hb3;have bA:=(BoxN.new w1 114 #[.int .i64 1,.int .u64 (m:Int)]).below hb2 (by simp);have a0:=bA.cell 0 (v:=.int .i64 1) rfl;have a1:=bA.cell 1 (v:=.int .u64 (m:Int)) rfl;have lA:=bA.lt))
 have hz3:=hb3.size;have hP3:IsP k.vb w1.heap.size m tm (w2.alloc (.cells #[.int .i64 2,.int .u64 (z+1)] 114)).drew:=IsP.below (W:=w2) ⟨c5,a0,a1⟩ (((Below.refl _ w2).alloc (Nat.le_refl _) _).drew)
 have hP4:∀ o,IsP k.vb w1.heap.size m tm ((w2.alloc (.cells #[.int .i64 2,.int .u64 (z+1)] 114)).alloc o).drew:=fun o=>IsP.below (W:=w2) ⟨c5,a0,a1⟩ (((Below.refl _ w2).alloc (Nat.le_refl _) _).alloc (by simp) _).drew
 clear c4 c5 a0 a1
 go_region_held3 (IsP k.vb w1.heap.size m tm) (first
  | with_reducible exact hP3
  | with_reducible exact hP4 _
  | with_reducible assumption) (first
  | (go_at_call_of 65 (Value.int .u64 ttl);refine(hA1 _).mono ?_;rintro e w3 ⟨rfl,rfl⟩)
  | (go_at_call_of 65 (Value.int .u64 most);refine(hA2 _).mono ?_;rintro e w4 ⟨rfl,rfl⟩))
 all_goals
  have bL:=BoxN.new (w2.alloc (.cells #[.int .i64 2,.int .u64 (z+1)] 114)) 131 #[.int .i64 1,.int .u64 (m:Int),.int .u64 at0,.int .i64 0,.bool false,.string ⟨pth.toArray⟩,.int .u64 la0];have bN:=(BoxN.new w2 114 #[.int .i64 2,.int .u64 (z+1)]).alloc (.cells #[.int .i64 1,.int .u64 (m:Int),.int .u64 at0,.int .i64 0,.bool false,.string ⟨pth.toArray⟩,.int .u64 la0] 131);rw [World.size_alloc] at bL;have hb4:Below w.heap.size w ((w2.alloc (.cells #[.int .i64 2,.int .u64 (z+1)] 114)).alloc (.cells #[.int .i64 1,.int .u64 (m:Int),.int .u64 at0,.int .i64 0,.bool false,.string ⟨pth.toArray⟩,.int .u64 la0] 131)).drew:=((hb3.alloc hb3.size _).alloc (by simp;omega) _).drew;have bL':BoxN ((w2.alloc (.cells #[.int .i64 2,.int .u64 (z+1)] 114)).alloc (.cells #[.int .i64 1,.int .u64 (m:Int),.int .u64 at0,.int .i64 0,.bool false,.string ⟨pth.toArray⟩,.int .u64 la0] 131)).drew _ _ _:=bL;have bN':BoxN ((w2.alloc (.cells #[.int .i64 2,.int .u64 (z+1)] 114)).alloc (.cells #[.int .i64 1,.int .u64 (m:Int),.int .u64 at0,.int .i64 0,.bool false,.string ⟨pth.toArray⟩,.int .u64 la0] 131)).drew _ _ _:=bN;clear bL bN hP3 hP4
  obtain⟨W4,hW4⟩:∃ W4,((w2.alloc (.cells #[.int .i64 2,.int .u64 (z+1)] 114)).alloc (.cells #[.int .i64 1,.int .u64 (m:Int),.int .u64 at0,.int .i64 0,.bool false,.string ⟨pth.toArray⟩,.int .u64 la0] 131)).drew=W4:=⟨_,rfl⟩
  rw [hW4] at hb4 bL' bN' ⊢;clear hW4;have n0:=bN'.cell 0 (v:=.int .i64 2) rfl;have n1:=bN'.cell 1 (v:=.int .u64 (z+1)) rfl
  go_wp2_with (first
   | (go_at_call 67;refine(hER _ _ bL').mono ?_;rintro e w5 ⟨rfl,hb5⟩;have hb6:Below w.heap.size w w5:=hb4.trans (hb5.mono hb4.size);have bN5:=bN'.below hb5 bN'.lt;have hK6:=hK w5 hb6)
   | (go_at_call 66;refine hK6.mono ?_;rintro e w7 ⟨rfl,hW7,hS7⟩;have bN7:=hS7.box bN5 (hfresh w2 hb3);have n7:=bN7.cell 0 (v:=.int .i64 2) rfl;have n8:=bN7.cell 1 (v:=.int .u64 (z+1)) rfl)
   | (go_at_call 68;refine(hNS _ hW7.v.va.env hW7.v.va.six).mono ?_;rintro e w8 ⟨rfl,hb8⟩))
  exact bodyPost_ret (v:=.tuple #[.string ⟨str.toArray⟩,.nilIface]) (by simp [results,results41,go_sem]) rfl ⟨by rw [Xa Hstr],by rw [Xa Hkl,Xa Hs'];exact hW7.below hb8,((Spares.of_below hb6).trans hS7).trans (Spares.of_below hb8)⟩
structure Tryz.LvP (vb lb:Nat) (tm ak au at_ tr:Int) (pd:Bool) (pth:List UInt8) (la:Int) (W:World):Prop where
 t:W.cell? ⟨vb,2,none⟩=some (.int .u64 tm)
 c0:W.cell? ⟨lb,0,none⟩=some (.int .i64 ak)
 c1:W.cell? ⟨lb,1,none⟩=some (.int .u64 au)
 c2:W.cell? ⟨lb,2,none⟩=some (.int .u64 at_)
 c3:W.cell? ⟨lb,3,none⟩=some (.int .i64 tr)
 c4:W.cell? ⟨lb,4,none⟩=some (.bool pd)
 c5:W.cell? ⟨lb,5,none⟩=some (.string ⟨pth.toArray⟩)
 c6:W.cell? ⟨lb,6,none⟩=some (.int .u64 la)
theorem Tryz.LvP.drew {vb lb:Nat} {tm ak au at_ tr:Int} {pd:Bool} {pth:List UInt8} {la:Int} {W:World} (h:LvP vb lb tm ak au at_ tr pd pth la W):LvP vb lb tm ak au at_ tr pd pth la W.drew:=⟨h.t,h.c0,h.c1,h.c2,h.c3,h.c4,h.c5,h.c6⟩
theorem Tryz.Xa2 (vb ml:Nat) (x:Int × Int) (tm ak au at_ tr:Int) (pd:Bool) (pth:List UInt8) (la:Int) (b:Bool) (w:World) (hvb:vb<w.heap.size) (hP:∀ W,Below w.heap.size w W->W.cell? ⟨vb,4,none⟩=some (.map (some ml))/\W.cell? ⟨vb,2,none⟩=some (.int .u64 tm)/\(Instr.lookup 121 (.map (some ml)) (nmV x) true).run prog W=.ok (.tuple #[.agg #[.int .i64 ak,.int .u64 au,.int .u64 at_,.int .i64 tr,.bool pd,.string ⟨pth.toArray⟩,.int .u64 la],.bool b]) W) :
  Calls prog 71 #[.pointer (some ⟨vb,0,none⟩),nmV x] w fun e w'=>e=.returned (.tuple #[.agg #[.int .i64 ak,.int .u64 au,.int .u64 at_,.int .i64 tr,.bool pd,.string ⟨pth.toArray⟩,.int .u64 la],.bool (b&&(!pd&&decide (tm<at_)))])/\Below w.heap.size w w':=by
 have hB0:Below w.heap.size w ((w.alloc (.cells #[.int .i64 x.1,.int .u64 x.2] 114)).alloc (.cells #[.int .i64 0,.int .u64 0,.int .u64 0,.int .i64 0,.bool false,.string ⟨#[]⟩,.int .u64 0] 131)):=((Below.refl _ w).alloc (Nat.le_refl _) _).alloc (by simp) _;have bN:=(BoxN.new w 114 #[.int .i64 x.1,.int .u64 x.2]).alloc (.cells #[.int .i64 0,.int .u64 0,.int .u64 0,.int .i64 0,.bool false,.string ⟨#[]⟩,.int .u64 0] 131);have bR:=BoxN.new (w.alloc (.cells #[.int .i64 x.1,.int .u64 x.2] 114)) 131 #[.int .i64 0,.int .u64 0,.int .u64 0,.int .i64 0,.bool false,.string ⟨#[]⟩,.int .u64 0];rw [World.size_alloc] at bR
 have hS:∀ W,Below (w.heap.size+2) ((w.alloc (.cells #[.int .i64 x.1,.int .u64 x.2] 114)).alloc (.cells #[.int .i64 0,.int .u64 0,.int .u64 0,.int .i64 0,.bool false,.string ⟨#[]⟩,.int .u64 0] 131)) W->LkP vb 4 ml w.heap.size 121 x.1 x.2 (.tuple #[.agg #[.int .i64 ak,.int .u64 au,.int .u64 at_,.int .i64 tr,.bool pd,.string ⟨pth.toArray⟩,.int .u64 la],.bool b]) W:=fun W hb=>by
  have bN':=bN.below hb (by omega);obtain⟨h1,h2,h3⟩:=hP W (hB0.trans (hb.mono (by omega)));exact⟨h1,bN'.cell 0 rfl,bN'.cell 1 rfl,h3⟩
 have hs0:((w.alloc (.cells #[.int .i64 x.1,.int .u64 x.2] 114)).alloc (.cells #[.int .i64 0,.int .u64 0,.int .u64 0,.int .i64 0,.bool false,.string ⟨#[]⟩,.int .u64 0] 131)).heap.size=w.heap.size+2:=by simp
 unfold nmV;go_enter func71,ntmps71
 go_wp2_with fail
 generalize ((w.alloc (.cells #[.int .i64 x.1,.int .u64 x.2] 114)).alloc (.cells #[.int .i64 0,.int .u64 0,.int .u64 0,.int .i64 0,.bool false,.string ⟨#[]⟩,.int .u64 0] 131))=W1 at *;have hb1:Below (w.heap.size+2) W1 W1.drew:=(Below.refl _ _).drew;refine wp_region_held_drew (S:=LkP vb 4 ml w.heap.size 121 x.1 x.2 (.tuple #[.agg #[.int .i64 ak,.int .u64 au,.int .u64 at_,.int .i64 tr,.bool pd,.string ⟨pth.toArray⟩,.int .u64 la],.bool b])) (by kernel_rfl) (hS _ hb1) (fun hS0=>?_);refine Xt 0 ?v0 rfl ?y0 hS0 ?_
 case y0=>(rintro w ⟨q0,q1,q2,q3⟩;go_simp;try with_reducible rfl)
 refine Xt 1 ?v1 rfl ?y1 hS0 ?_
 case y1=>(rintro w ⟨q0,q1,q2,q3⟩;go_simp;try with_reducible rfl)
 refine Xt 2 ?v2 rfl ?y2 hS0 ?_
 case y2=>(rintro w ⟨q0,q1,q2,q3⟩;go_simp;try with_reducible rfl)
 refine Xt 3 ?v3 rfl ?y3 hS0 ?_
 case y3=>(rintro w ⟨q0,q1,q2,q3⟩;go_simp;try with_reducible rfl)
 refine Xt 4 ?v4 rfl ?y4 hS0 ?_
 case y4=>(rintro w ⟨q0,q1,q2,q3⟩;go_simp;try with_reducible rfl)
 refine Xt 5 ?v5 rfl ?y5 hS0 ?_
 case y5=>(rintro w ⟨q0,q1,q2,q3⟩;go_simp;try with_reducible rfl)
 refine Xt 6 ?v6 rfl ?y6 hS0 ?_
 case y6=>(rintro w ⟨q0,q1,q2,q3⟩;go_simp;try with_reducible rfl)
 refine Xt 7 ?v7 rfl ?y7 hS0 ?_
 case y7=>(rintro w ⟨q0,q1,q2,q3⟩;go_simp;try with_reducible rfl)
 refine Xt 8 ?v8 rfl ?y8 hS0 ?_
 case y8=>(rintro w ⟨q0,q1,q2,q3⟩;go_simp;try with_reducible rfl)
 refine Xh 9 rfl fun K hK=>?_;go_simp;refine hK.out _ _ (hS _ (hb1.alloc (by simp [hs0]) _)) (fun hS1=>?_);clear hK K;refine Xh 10 rfl fun K hK=>?_;go_simp;have hb2:Below (w.heap.size+2) W1 (W1.alloc (.cells #[.int .i64 ak,.int .u64 au,.int .u64 at_,.int .i64 tr,.bool pd,.string ⟨pth.toArray⟩,.int .u64 la] 131)).drew:=((Below.refl _ _).alloc (by omega) _).drew
 have bT:BoxN (W1.alloc (.cells #[.int .i64 ak,.int .u64 au,.int .u64 at_,.int .i64 tr,.bool pd,.string ⟨pth.toArray⟩,.int .u64 la] 131)).drew (w.heap.size+2) 131 #[.int .i64 ak,.int .u64 au,.int .u64 at_,.int .i64 tr,.bool pd,.string ⟨pth.toArray⟩,.int .u64 la]:=by
  have h:=BoxN.new W1 131 #[.int .i64 ak,.int .u64 au,.int .u64 at_,.int .i64 tr,.bool pd,.string ⟨pth.toArray⟩,.int .u64 la];rw [hs0] at h;exact h
 refine hK.out _ _ (hS _ hb2) (fun hS2=>?_);clear hK K;refine Xh 11 rfl fun K hK=>?_;go_simp;refine hK.out _ _ hS2 (fun _=>?_);clear hK K;refine wpAnyH_done (by kernel_rfl) ?_ _;have hBf:Below w.heap.size w (W1.alloc (.cells #[.int .i64 ak,.int .u64 au,.int .u64 at_,.int .i64 tr,.bool pd,.string ⟨pth.toArray⟩,.int .u64 la] 131)).drew:=hB0.trans (hb2.mono (by omega));have bR2:=bR.below hb2 (by omega);obtain⟨-,ct,-⟩:=hP _ hBf;clear hS hP hS0 hS1 hS2 hb1 hb2 hB0 bN bR hs0;generalize (W1.alloc (.cells #[.int .i64 ak,.int .u64 au,.int .u64 at_,.int .i64 tr,.bool pd,.string ⟨pth.toArray⟩,.int .u64 la] 131)).drew=W2 at *
 have hP2:LvP vb (w.heap.size+2) tm ak au at_ tr pd pth la W2:=⟨ct,bT.cell 0 rfl,bT.cell 1 rfl,bT.cell 2 rfl,bT.cell 3 rfl,bT.cell 4 rfl,bT.cell 5 rfl,bT.cell 6 rfl⟩
 have hP2d:LvP vb (w.heap.size+2) tm ak au at_ tr pd pth la W2.drew:=⟨ct,bT.cell 0 rfl,bT.cell 1 rfl,bT.cell 2 rfl,bT.cell 3 rfl,bT.cell 4 rfl,bT.cell 5 rfl,bT.cell 6 rfl⟩
 have hL:=Jy (w.heap.size+2) pd at_ tm W2.drew (bT.cell 4 rfl) (bT.cell 2 rfl)
 go_wp2_with fail
 refine wp_region_held_drew (S:=LvP vb (w.heap.size+2) tm ak au at_ tr pd pth la) (by kernel_rfl) hP2d (fun hS0=>?_);have z0:=bR2.cell 0 (v:=.int .i64 0) rfl;have z1:=bR2.cell 1 (v:=.int .u64 0) rfl;have z2:=bR2.cell 2 (v:=.int .u64 0) rfl;have z3:=bR2.cell 3 (v:=.int .i64 0) rfl;have z4:=bR2.cell 4 (v:=.bool false) rfl;have z5:=bR2.cell 5 (v:=.string ⟨#[]⟩) rfl;have z6:=bR2.cell 6 (v:=.int .u64 0) rfl;have f0:=bR2.frozen 0;have f1:=bR2.frozen 1;have f2:=bR2.frozen 2;have f3:=bR2.frozen 3;have f4:=bR2.frozen 4;have f5:=bR2.frozen 5;have f6:=bR2.frozen 6;have lvb:vb<w.heap.size:=hvb;have e0:BoxN (W2.setCell ⟨w.heap.size+1,0,none⟩ (.int .i64 ak)) (w.heap.size+1) 131 #[.int .i64 ak,.int .u64 0,.int .u64 0,.int .i64 0,.bool false,.string ⟨#[]⟩,.int .u64 0]:=bR2.set 0 (.int .i64 ak);have e1:BoxN ((W2.setCell ⟨w.heap.size+1,0,none⟩ (.int .i64 ak)).setCell ⟨w.heap.size+1,1,none⟩ (.int .u64 au)) (w.heap.size+1) 131 #[.int .i64 ak,.int .u64 au,.int .u64 0,.int .i64 0,.bool false,.string ⟨#[]⟩,.int .u64 0]:=e0.set 1 (.int .u64 au);have e2:BoxN (((W2.setCell ⟨w.heap.size+1,0,none⟩ (.int .i64 ak)).setCell ⟨w.heap.size+1,1,none⟩ (.int .u64 au)).setCell ⟨w.heap.size+1,2,none⟩ (.int .u64 at_)) (w.heap.size+1) 131 #[.int .i64 ak,.int .u64 au,.int .u64 at_,.int .i64 0,.bool false,.string ⟨#[]⟩,.int .u64 0]:=e1.set 2 (.int .u64 at_);have e3:BoxN ((((W2.setCell ⟨w.heap.size+1,0,none⟩ (.int .i64 ak)).setCell ⟨w.heap.size+1,1,none⟩ (.int .u64 au)).setCell ⟨w.heap.size+1,2,none⟩ (.int .u64 at_)).setCell ⟨w.heap.size+1,3,none⟩ (.int .i64 tr)) (w.heap.size+1) 131 #[.int .i64 ak,.int .u64 au,.int .u64 at_,.int .i64 tr,.bool false,.string ⟨#[]⟩,.int .u64 0]:=e2.set 3 (.int .i64 tr);have e4:BoxN (((((W2.setCell ⟨w.heap.size+1,0,none⟩ (.int .i64 ak)).setCell ⟨w.heap.size+1,1,none⟩ (.int .u64 au)).setCell ⟨w.heap.size+1,2,none⟩ (.int .u64 at_)).setCell ⟨w.heap.size+1,3,none⟩ (.int .i64 tr)).setCell ⟨w.heap.size+1,4,none⟩ (.bool pd)) (w.heap.size+1) 131 #[.int .i64 ak,.int .u64 au,.int .u64 at_,.int .i64 tr,.bool pd,.string ⟨#[]⟩,.int .u64 0]:=e3.set 4 (.bool pd);have e5:BoxN ((((((W2.setCell ⟨w.heap.size+1,0,none⟩ (.int .i64 ak)).setCell ⟨w.heap.size+1,1,none⟩ (.int .u64 au)).setCell ⟨w.heap.size+1,2,none⟩ (.int .u64 at_)).setCell ⟨w.heap.size+1,3,none⟩ (.int .i64 tr)).setCell ⟨w.heap.size+1,4,none⟩ (.bool pd)).setCell ⟨w.heap.size+1,5,none⟩ (.string ⟨pth.toArray⟩)) (w.heap.size+1) 131 #[.int .i64 ak,.int .u64 au,.int .u64 at_,.int .i64 tr,.bool pd,.string ⟨pth.toArray⟩,.int .u64 0]:=e4.set 5 (.string ⟨pth.toArray⟩);have bR3:BoxN (((((((W2.setCell ⟨w.heap.size+1,0,none⟩ (.int .i64 ak)).setCell ⟨w.heap.size+1,1,none⟩ (.int .u64 au)).setCell ⟨w.heap.size+1,2,none⟩ (.int .u64 at_)).setCell ⟨w.heap.size+1,3,none⟩ (.int .i64 tr)).setCell ⟨w.heap.size+1,4,none⟩ (.bool pd)).setCell ⟨w.heap.size+1,5,none⟩ (.string ⟨pth.toArray⟩)).setCell ⟨w.heap.size+1,6,none⟩ (.int .u64 la)) (w.heap.size+1) 131 #[.int .i64 ak,.int .u64 au,.int .u64 at_,.int .i64 tr,.bool pd,.string ⟨pth.toArray⟩,.int .u64 la]:=e5.set 6 (.int .u64 la);clear e0 e1 e2 e3 e4 e5;have hB3:Below (w.heap.size+1) W2 (((((((W2.setCell ⟨w.heap.size+1,0,none⟩ (.int .i64 ak)).setCell ⟨w.heap.size+1,1,none⟩ (.int .u64 au)).setCell ⟨w.heap.size+1,2,none⟩ (.int .u64 at_)).setCell ⟨w.heap.size+1,3,none⟩ (.int .i64 tr)).setCell ⟨w.heap.size+1,4,none⟩ (.bool pd)).setCell ⟨w.heap.size+1,5,none⟩ (.string ⟨pth.toArray⟩)).setCell ⟨w.heap.size+1,6,none⟩ (.int .u64 la)):=(((((((Below.refl _ W2).setCell (p:=⟨w.heap.size+1,0,none⟩) (Nat.le_refl _) _).setCell (p:=⟨w.heap.size+1,1,none⟩) (Nat.le_refl _) _).setCell (p:=⟨w.heap.size+1,2,none⟩) (Nat.le_refl _) _).setCell (p:=⟨w.heap.size+1,3,none⟩) (Nat.le_refl _) _).setCell (p:=⟨w.heap.size+1,4,none⟩) (Nat.le_refl _) _).setCell (p:=⟨w.heap.size+1,5,none⟩) (Nat.le_refl _) _).setCell (p:=⟨w.heap.size+1,6,none⟩) (Nat.le_refl _) _
 have hS3:LvP vb (w.heap.size+2) tm ak au at_ tr pd pth la (((((((W2.setCell ⟨w.heap.size+1,0,none⟩ (.int .i64 ak)).setCell ⟨w.heap.size+1,1,none⟩ (.int .u64 au)).setCell ⟨w.heap.size+1,2,none⟩ (.int .u64 at_)).setCell ⟨w.heap.size+1,3,none⟩ (.int .i64 tr)).setCell ⟨w.heap.size+1,4,none⟩ (.bool pd)).setCell ⟨w.heap.size+1,5,none⟩ (.string ⟨pth.toArray⟩)).setCell ⟨w.heap.size+1,6,none⟩ (.int .u64 la)).drew:=by
  have hne:vb≠w.heap.size+1:=by omega
  have bT3:BoxN (((((((W2.setCell ⟨w.heap.size+1,0,none⟩ (.int .i64 ak)).setCell ⟨w.heap.size+1,1,none⟩ (.int .u64 au)).setCell ⟨w.heap.size+1,2,none⟩ (.int .u64 at_)).setCell ⟨w.heap.size+1,3,none⟩ (.int .i64 tr)).setCell ⟨w.heap.size+1,4,none⟩ (.bool pd)).setCell ⟨w.heap.size+1,5,none⟩ (.string ⟨pth.toArray⟩)).setCell ⟨w.heap.size+1,6,none⟩ (.int .u64 la)) (w.heap.size+2) 131 #[.int .i64 ak,.int .u64 au,.int .u64 at_,.int .i64 tr,.bool pd,.string ⟨pth.toArray⟩,.int .u64 la]:=(((((((bT.other (B':=w.heap.size+1) (by omega) 0 (.int .i64 ak)).other (B':=w.heap.size+1) (by omega) 1 (.int .u64 au)).other (B':=w.heap.size+1) (by omega) 2 (.int .u64 at_)).other (B':=w.heap.size+1) (by omega) 3 (.int .i64 tr)).other (B':=w.heap.size+1) (by omega) 4 (.bool pd)).other (B':=w.heap.size+1) (by omega) 5 (.string ⟨pth.toArray⟩)).other (B':=w.heap.size+1) (by omega) 6 (.int .u64 la))
  have ct3:(((((((W2.setCell ⟨w.heap.size+1,0,none⟩ (.int .i64 ak)).setCell ⟨w.heap.size+1,1,none⟩ (.int .u64 au)).setCell ⟨w.heap.size+1,2,none⟩ (.int .u64 at_)).setCell ⟨w.heap.size+1,3,none⟩ (.int .i64 tr)).setCell ⟨w.heap.size+1,4,none⟩ (.bool pd)).setCell ⟨w.heap.size+1,5,none⟩ (.string ⟨pth.toArray⟩)).setCell ⟨w.heap.size+1,6,none⟩ (.int .u64 la)).cell? ⟨vb,2,none⟩=some (.int .u64 tm):=by
   rw [World.cell?_setCell_far _ _ _ _ (fun e=>hne e.symm),World.cell?_setCell_far _ _ _ _ (fun e=>hne e.symm),World.cell?_setCell_far _ _ _ _ (fun e=>hne e.symm),World.cell?_setCell_far _ _ _ _ (fun e=>hne e.symm),World.cell?_setCell_far _ _ _ _ (fun e=>hne e.symm),World.cell?_setCell_far _ _ _ _ (fun e=>hne e.symm),World.cell?_setCell_far _ _ _ _ (fun e=>hne e.symm)];exact ct
  exact LvP.drew ⟨ct3,bT3.cell 0 rfl,bT3.cell 1 rfl,bT3.cell 2 rfl,bT3.cell 3 rfl,bT3.cell 4 rfl,bT3.cell 5 rfl,bT3.cell 6 rfl⟩
 cases b
 ·refine Xt 0 ?va0 rfl ?ya0 hS0 ?_
  case ya0=>(rintro w ⟨q0,q1,q2,q3,q4,q5,q6,q7⟩;go_simp;try with_reducible rfl)
  refine Xt 1 ?va1 rfl ?ya1 hS0 ?_
  case ya1=>(rintro w ⟨q0,q1,q2,q3,q4,q5,q6,q7⟩;go_simp;try with_reducible rfl)
  refine Xt 2 ?va2 rfl ?ya2 hS0 ?_
  case ya2=>(rintro w ⟨q0,q1,q2,q3,q4,q5,q6,q7⟩;go_simp;try with_reducible rfl)
  refine Xu 3 rfl hS0 ?_;refine Xu 4 rfl hS0 ?_;refine Xu 5 rfl hS0 ?_;refine Xu 6 rfl hS0 ?_;refine Xu 7 rfl hS0 ?_;refine Xt 8 ?va8 rfl ?ya8 hS0 ?_
  case ya8=>(rintro w ⟨q0,q1,q2,q3,q4,q5,q6,q7⟩;go_simp;try with_reducible rfl)
  refine Xh 9 rfl fun K hK=>?_;go_simp;refine hK.out _ _ hS3 (fun hS4=>?_);clear hK K;refine Xh 10 rfl fun K hK=>?_;go_simp;refine hK.out _ _ hS4 (fun _=>?_);clear hK K;refine wpAnyH_done (by kernel_rfl) ?_ _;clear hS4 hS3 hS0 hP2 hP2d;generalize (((((((W2.setCell ⟨w.heap.size+1,0,none⟩ (.int .i64 ak)).setCell ⟨w.heap.size+1,1,none⟩ (.int .u64 au)).setCell ⟨w.heap.size+1,2,none⟩ (.int .u64 at_)).setCell ⟨w.heap.size+1,3,none⟩ (.int .i64 tr)).setCell ⟨w.heap.size+1,4,none⟩ (.bool pd)).setCell ⟨w.heap.size+1,5,none⟩ (.string ⟨pth.toArray⟩)).setCell ⟨w.heap.size+1,6,none⟩ (.int .u64 la))=W3 at *;have r0:=bR3.cell 0 (v:=.int .i64 ak) rfl;have r1:=bR3.cell 1 (v:=.int .u64 au) rfl;have r2:=bR3.cell 2 (v:=.int .u64 at_) rfl;have r3:=bR3.cell 3 (v:=.int .i64 tr) rfl;have r4:=bR3.cell 4 (v:=.bool pd) rfl;have r5:=bR3.cell 5 (v:=.string ⟨pth.toArray⟩) rfl;have r6:=bR3.cell 6 (v:=.int .u64 la) rfl;go_wp2;exact bodyPost_ret (v:=.tuple #[.agg #[.int .i64 ak,.int .u64 au,.int .u64 at_,.int .i64 tr,.bool pd,.string ⟨pth.toArray⟩,.int .u64 la],.bool false]) (by simp [results,results71,go_sem,r0,r1,r2,r3,r4,r5,r6]) rfl ⟨by simp,(hBf.trans (hB3.mono (by omega))).drew⟩
 refine Xt 0 ?vb0 rfl ?yb0 hS0 ?_
 case yb0=>(rintro w ⟨q0,q1,q2,q3,q4,q5,q6,q7⟩;go_simp;try with_reducible rfl)
 refine Xt 1 ?vb1 rfl ?yb1 hS0 ?_
 case yb1=>(rintro w ⟨q0,q1,q2,q3,q4,q5,q6,q7⟩;go_simp;try with_reducible rfl)
 refine Xt 2 ?vb2 rfl ?yb2 hS0 ?_
 case yb2=>(rintro w ⟨q0,q1,q2,q3,q4,q5,q6,q7⟩;go_simp;try with_reducible rfl)
 refine Xt 3 ?vb3 rfl ?yb3 hS0 ?_
 case yb3=>(rintro w ⟨q0,q1,q2,q3,q4,q5,q6,q7⟩;go_simp;try with_reducible rfl)
 refine Xt 4 ?vb4 rfl ?yb4 hS0 ?_
 case yb4=>(rintro w ⟨q0,q1,q2,q3,q4,q5,q6,q7⟩;go_simp;try with_reducible rfl)
 refine Xt 5 ?vb5 rfl ?yb5 hS0 ?_
 case yb5=>(rintro w ⟨q0,q1,q2,q3,q4,q5,q6,q7⟩;go_simp;try with_reducible rfl)
 refine Xt 6 ?vb6 rfl ?yb6 hS0 ?_
 case yb6=>(rintro w ⟨q0,q1,q2,q3,q4,q5,q6,q7⟩;go_simp;try with_reducible rfl)
 refine Xh 7 rfl fun K hK=>?_;go_simp;refine hL.mono ?_;rintro e w5 ⟨rfl,rfl⟩;refine hK.out _ _ hP2d (fun _=>?_);clear hK K;refine Xt 8 ?vb8 rfl ?yb8 hS0 ?_
 case yb8=>(rintro w ⟨q0,q1,q2,q3,q4,q5,q6,q7⟩;go_simp;try with_reducible rfl)
 refine Xh 9 rfl fun K hK=>?_;go_simp;refine hK.out _ _ hS3 (fun hS4=>?_);clear hK K;refine Xh 10 rfl fun K hK=>?_;go_simp;refine hK.out _ _ hS4 (fun _=>?_);clear hK K;refine wpAnyH_done (by kernel_rfl) ?_ _;clear hS4 hS3 hS0 hP2 hP2d;generalize (((((((W2.setCell ⟨w.heap.size+1,0,none⟩ (.int .i64 ak)).setCell ⟨w.heap.size+1,1,none⟩ (.int .u64 au)).setCell ⟨w.heap.size+1,2,none⟩ (.int .u64 at_)).setCell ⟨w.heap.size+1,3,none⟩ (.int .i64 tr)).setCell ⟨w.heap.size+1,4,none⟩ (.bool pd)).setCell ⟨w.heap.size+1,5,none⟩ (.string ⟨pth.toArray⟩)).setCell ⟨w.heap.size+1,6,none⟩ (.int .u64 la))=W3 at *;have r0:=bR3.cell 0 (v:=.int .i64 ak) rfl;have r1:=bR3.cell 1 (v:=.int .u64 au) rfl;have r2:=bR3.cell 2 (v:=.int .u64 at_) rfl;have r3:=bR3.cell 3 (v:=.int .i64 tr) rfl;have r4:=bR3.cell 4 (v:=.bool pd) rfl;have r5:=bR3.cell 5 (v:=.string ⟨pth.toArray⟩) rfl;have r6:=bR3.cell 6 (v:=.int .u64 la) rfl;go_wp2;exact bodyPost_ret (v:=.tuple #[.agg #[.int .i64 ak,.int .u64 au,.int .u64 at_,.int .i64 tr,.bool pd,.string ⟨pth.toArray⟩,.int .u64 la],.bool (!pd&&decide (tm<at_))]) (by simp [results,results71,go_sem,r0,r1,r2,r3,r4,r5,r6]) rfl ⟨by simp,(hBf.trans (hB3.mono (by omega))).drew⟩
theorem Tryz.Vm (vb mt ml:Nat) (vx:VX) (tm tn ln:Int) (tks:List Xd) (lks:List Xc) (w:World) (hV:Xq w vb mt ml vx tm tn ln tks lks) (l:Xc) (hl:l∈lks) :
  Calls prog 71 #[.pointer (some ⟨vb,0,none⟩),nmV (2,(l.n:Int))] w fun e w'=>e=.returned (.tuple #[.agg l.cells,.bool (!l.pd&&decide (tm<l.at_))])/\Below w.heap.size w w':=by
 have h:=Xa2 vb ml (2,(l.n:Int)) tm l.ak l.au l.at_ l.tr l.pd l.pth l.last true w hV.v.lt (fun W hb=>⟨(hV.below hb).v.cell 4 rfl,(hV.below hb).v.cell 2 rfl,(hV.below hb).Xsg hl⟩);simp only [Bool.true_and] at h;exact h
theorem Tryz.Xe6 (vb mt ml:Nat) (vx:VX) (tm tn ln:Int) (tks:List Xd) (lks:List Xc) (w:World) (hV:Xq w vb mt ml vx tm tn ln tks lks) (x:Int × Int) (hx:Zr x) (hn:∀ l∈lks,x≠(2,(l.n:Int))) :
  Calls prog 71 #[.pointer (some ⟨vb,0,none⟩),nmV x] w fun e w'=>e=.returned (.tuple #[.agg #[.int .i64 0,.int .u64 0,.int .u64 0,.int .i64 0,.bool false,.string ⟨#[]⟩,.int .u64 0],.bool false])/\Below w.heap.size w w':=by
 have h:=Xa2 vb ml x tm 0 0 0 0 false [] 0 false w hV.v.lt (fun W hb=>⟨(hV.below hb).v.cell 4 rfl,(hV.below hb).v.cell 2 rfl,(hV.below hb).Xkp hx hn⟩);simp only [Bool.false_and] at h;exact h
theorem Tryz.Xgd (vb:Nat) (w:World) (id pth:List UInt8) (x:Int × Int) (ak au at_ tr:Int) (pd:Bool) (lp:List UInt8) (la:Int) (b:Bool) (hp:Calls prog 63 #[.string ⟨id.toArray⟩] w fun e w'=>e=.returned (nmV x)/\Below w.heap.size w w')
  (hF:∀ W,Below w.heap.size w W->Calls prog 71 #[.pointer (some ⟨vb,0,none⟩),nmV x] W fun e w'=>e=.returned (.tuple #[.agg #[.int .i64 ak,.int .u64 au,.int .u64 at_,.int .i64 tr,.bool pd,.string ⟨lp.toArray⟩,.int .u64 la],.bool b])/\Below W.heap.size W w') :
  Calls prog 47 #[.pointer (some ⟨vb,0,none⟩),.string ⟨id.toArray⟩,.string ⟨pth.toArray⟩] w fun e w'=>e=.returned (.bool (b&&(lp==pth)))/\Below w.heap.size w w':=by
 unfold nmV at hp hF;cases b
 all_goals
  go_enter func47,ntmps47
  go_wp2_with (first
   | (go_at_call 63;refine hp.mono ?_;rintro e w1 ⟨rfl,hb1⟩)
   | (go_at_call 71;refine(hF _ hb1).mono ?_;rintro e w2 ⟨rfl,hb2⟩))
  have hb:=hb1.trans (hb2.mono hb1.size);go_ret;exact⟨by simp,hb.alloc hb.size _⟩
theorem Js {tm:Int} (t0:0<=tm) (t1:tm<=18446744073709551615) {is:List Item} {s:VSt} (hF:Yr is s) (hn:is.length<=50):(keepLine tm is).length<=70000:=by
 refine Nat.le_trans (Xdj (nowR tm :: is.map Item.rec_) (fun r hr=>?_) (by simp;omega)) (by simp;omega)
 rcases List.mem_cons.1 hr with rfl | hr
 ·exact⟨show (-9223372036854775808:Int)<=0 by decide,show (0:Int)<=9223372036854775807 by decide,show 0<18446744073709551616 by decide,show 0<18446744073709551616 by decide,t0,t1,show (-9223372036854775808:Int)<=0 by decide,show (0:Int)<=9223372036854775807 by decide,show (0:Int)<=0 by decide,show (0:Int)<=18446744073709551615 by decide,show 0<=1000 by decide⟩
 exact(Yr.ok hF r hr).1
def M0 (tm ttl:Int) (l:Xc):Int:=max l.at_ (min (plusI tm ttl) l.last)
theorem Xet {l:List Xc} (hs:l.Pairwise (fun a b=>a.n<b.n)) {k:Nat} {t t':Xc} (h:l[k]? = some t) (hn:t'.n=t.n):Yc t' l=l.set k t':=by
 have hk:k<l.length:=(List.getElem?_eq_some_iff.1 h).1;have hke:l[k]=t:=(List.getElem?_eq_some_iff.1 h).2;unfold Yc;rw [if_pos (List.any_eq_true.2 ⟨t,List.mem_of_getElem? h,by simp [hn]⟩)];apply List.ext_getElem
 ·simp
 intro j h1 h2
 have hj:j<l.length:=by simpa using h1
 rw [List.getElem_map,List.getElem_set]
 by_cases e:k=j
 ·subst e
  rw [if_pos rfl,if_pos (by rw [hke,hn])]
 rw [if_neg e,if_neg];intro hnn;have hp:=List.pairwise_iff_getElem.1 hs
 rcases Nat.lt_or_gt_of_ne e with hlt | hgt
 ·have:=hp k j hk hj hlt
  rw [hke] at this;omega
 have:=hp j k hj hk hgt;rw [hke] at this;omega
theorem Tryz.Xi0 (vb:Nat) (w:World) (id:List UInt8) (ttl:Int) (x:Int × Int) (ak au at_ tr:Int) (pd:Bool) (lp:List UInt8) (la:Int) (hp:Calls prog 63 #[.string ⟨id.toArray⟩] w fun e w'=>e=.returned (nmV x)/\Below w.heap.size w w')
  (hF:∀ W,Below w.heap.size w W->Calls prog 71 #[.pointer (some ⟨vb,0,none⟩),nmV x] W fun e w'=>e=.returned (.tuple #[.agg #[.int .i64 ak,.int .u64 au,.int .u64 at_,.int .i64 tr,.bool pd,.string ⟨lp.toArray⟩,.int .u64 la],.bool false])/\Below W.heap.size W w') :
  Calls prog 44 #[.pointer (some ⟨vb,0,none⟩),.string ⟨id.toArray⟩,.int .u64 ttl] w fun e w'=>e=.returned (.tuple #[.int .u64 0,.iface 33 (.int .i64 5)])/\Below w.heap.size w w':=by
 unfold nmV at hp hF;go_enter func44,ntmps44
 go_wp2_with (first
  | (go_at_call 63;refine hp.mono ?_;rintro e w1 ⟨rfl,hb1⟩;have hF1:=hF _ (hb1.alloc hb1.size (.cells #[.int .i64 x.1,.int .u64 x.2] 114)))
  | (go_at_call 71;refine hF1.mono ?_;rintro e w2 ⟨rfl,hb2⟩))
 have hb3:=(hb1.alloc hb1.size (.cells #[.int .i64 x.1,.int .u64 x.2] 114)).trans (hb2.mono (by have:=hb1.size;simp;omega));exact bodyPost_ret (v:=.tuple #[.int .u64 0,.iface 33 (.int .i64 5)]) (by simp [results,results44,go_sem]) rfl ⟨rfl,hb3.alloc hb3.size _⟩
abbrev Tryz.RnP (vb lb:Nat) (tm la:Int) (W:World):Prop:=W.cell? ⟨vb,2,none⟩=some (.int .u64 tm)/\W.cell? ⟨lb,6,none⟩=some (.int .u64 la)
theorem Tryz.Xmf (k:Blk) (vx:VX) (tm:Int) (s:VSt) (c:List UInt8) (l f:Int) (w:World) (hW:Whole w k vx tm s c l f) (hl:l<0) (hl1 : -999999990<=l) (hf:f<0) (hf1 : -999999990<=f) (hc:c.length<=900000000000) (id:List UInt8) (hid:id.length<=1000000) (i:Nat) (t:Xc) (ht:s.lks[i]? = some t) (hp:parseN id=(2,(t.n:Int))) (hlv:(!t.pd&&decide (tm<t.at_))=true) (ttl:Int) (ht0:0<=ttl) (ht1:ttl<=18446744073709551615) (h14:s.lks.length<500) :
  Calls prog 44 #[.pointer (some ⟨k.vb,0,none⟩),.string ⟨id.toArray⟩,.int .u64 ttl] w fun e w'=>e=.returned (.tuple #[.int .u64 (M0 tm ttl t),.nilIface]) /\
   (∃ c' l' f',c'.length<=c.length+70000/\l-2<=l'/\l'<=l/\f-2<=f'/\f'<=f/\Whole w' k vx tm ⟨s.tn,s.ln,s.tks,s.lks.set i { t with at_:=M0 tm ttl t }⟩ c' l' f')/\Spares k.turns w w':=by
 have htm:=List.mem_of_getElem? ht
 have hA:=fun W=>later tm ttl hW.v.t0 hW.v.t1 ht0 ht1 W
 have hrg:=Zv tm ttl hW.v.t0 hW.v.t1 ht0 ht1;have hP:=parse ⟨id.toArray⟩ (by simpa [ByteArray.size] using hid) w hW.v.va.env hW.v.va.six;simp only at hP
 have hF:=fun W (hb:Below w.heap.size w W)=>Vm k.vb k.mt k.ml vx tm _ _ s.tks s.lks W (hW.v.va.below hb) t htm
 rw [hlv] at hF
 have htime:=fun W (hb:Below w.heap.size w W)=>(hW.v.va.below hb).v.cell 2 (v:=.int .u64 tm) rfl
 have hokt:=hW.v.okL t htm;have lV:=hW.v.va.v.lt
 obtain⟨ra,hra⟩:∃ ra,M0 tm ttl t=ra:=⟨_,rfl⟩
 have hra2:max t.at_ (min (plusI tm ttl) t.last)=ra:=hra;rw [hra];rw [hp] at hP;unfold nmV at hP hF;simp only at hP hF;unfold Xc.cells at hF;have hset:=Xet hW.v.va.ok.incL ht (t':={ t with at_:=ra }) rfl
 have hfit:(Item.lea { t with at_:=ra }).Fits s:=⟨⟨show 0<=ra by have:=hokt.a0;omega,show ra<=18446744073709551615 by have:=hokt.a1;have:=hokt.l1;omega,hokt.r0,hokt.r1,hokt.l0,hokt.l1,hokt.p1,hokt.pa⟩,.inl ⟨t,htm,rfl⟩,by omega,(hW.v.va.ok.limL t htm).1,(hW.v.va.ok.limL t htm).2⟩
 have happ:(Item.lea { t with at_:=ra }).app s=⟨s.tn,s.ln,s.tks,s.lks.set i { t with at_:=ra }⟩:=by
  show VSt.mk s.tn (max s.ln t.n) s.tks (Yc { t with at_:=ra } s.lks)=_
  rw [hset,show max s.ln t.n=s.ln by have:=hW.v.nl t htm;omega]
 have hK:=fun W (hb:Below w.heap.size w W)=>Xmy k vx tm s c l f (.lea { t with at_:=ra }) W (hW.below hb) hl hl1 hf hf1 hc hfit
 rw [happ] at hK;have hkl:(keepLine tm [.lea { t with at_:=ra }]).length<=70000:=Js hW.v.t0 hW.v.t1 (s:=s) ⟨hfit,trivial⟩ (by simp);generalize keepLine tm [.lea { t with at_:=ra }]=kl at *
 have hER:=fun W b (h0:BoxN W b 131 #[.int .i64 t.ak,.int .u64 (t.au:Int),.int .u64 ra,.int .i64 t.tr,.bool t.pd,.string ⟨t.pth.toArray⟩,.int .u64 t.last])=>Un b 2 (t.n:Int) t.ak t.au ra t.tr t.pd t.pth t.last W (h0.cell 0 rfl) (h0.cell 1 rfl) (h0.cell 2 rfl) (h0.cell 3 rfl) (h0.cell 4 rfl) (h0.cell 5 rfl) (h0.cell 6 rfl)
 change ∀ W,Below w.heap.size w W->Calls prog 66 _ (W.alloc (.cells #[.int .i64 1,.int .i64 2,.int .u64 (t.n:Int),.int .i64 t.ak,.int .u64 (t.au:Int),.bool t.pd,.int .u64 ra,.int .i64 t.tr,.int .u64 t.last,.string ⟨t.pth.toArray⟩] 135)) _ at hK
 unfold Xi at hER
 have hsame:ra=t.at_->s.lks.set i { t with at_:=ra } = s.lks:=fun e=>by
  have hk:i<s.lks.length:=(List.getElem?_eq_some_iff.1 ht).1;have hke:s.lks[i]=t:=(List.getElem?_eq_some_iff.1 ht).2;rw [show ({ t with at_:=ra }:Xc)=s.lks[i] by rw [hke,e]];exact List.set_getElem_self hk
 have Hsame:=Xb hsame
 obtain⟨lks',hlks⟩:∃ lks',s.lks.set i { t with at_:=ra } = lks':=⟨_,rfl⟩
 rw [hlks] at hK Hsame ⊢;obtain⟨tn_,ak,au,at_,tr,pd,pth,last⟩:=t;simp only at *;generalize plusI tm ttl=p at *;have HW:=Xb hW;clear hset hfit happ hra hsame hlks ht htm hokt hp hlv hW
 have hB0:∀ w1,Below w.heap.size w w1->∀ w2,Below (w1.alloc (.cells #[.int .i64 2,.int .u64 (tn_:Int)] 114)).heap.size (w1.alloc (.cells #[.int .i64 2,.int .u64 (tn_:Int)] 114)) w2->Below w.heap.size w w2:=fun w1 hb1 w2 hb2=>(hb1.alloc hb1.size _).trans (hb2.mono (by have:=hb1.size;simp;omega))
 by_cases hle:min p last<=at_
 ·have hra':ra=at_:=by omega
  subst hra';rw [show lks'=s.lks from Xa Hsame rfl];clear hK hER Hsame hra2;go_enter func44,ntmps44
  go_wp2_with (first
   | (go_at_call 63;refine hP.mono ?_;rintro e w1 ⟨rfl,hb1⟩;have hF1:=hF _ (hb1.alloc hb1.size (.cells #[.int .i64 2,.int .u64 (tn_:Int)] 114)))
   | (go_at_call 71;refine hF1.mono ?_;rintro e w2 ⟨rfl,hb2⟩))
  have hb3:=hB0 w1 hb1 w2 hb2;have c2:=htime _ hb3;have lV2:k.vb<w2.heap.size:=Nat.lt_of_lt_of_le lV hb3.size;clear hF hF1 hP htime;have bL:=BoxN.new w2 131 #[.int .i64 ak,.int .u64 (au:Int),.int .u64 ra,.int .i64 tr,.bool pd,.string ⟨pth.toArray⟩,.int .u64 last]
  have hP1:RnP k.vb w2.heap.size tm last (w2.alloc (.cells #[.int .i64 ak,.int .u64 (au:Int),.int .u64 ra,.int .i64 tr,.bool pd,.string ⟨pth.toArray⟩,.int .u64 last] 131)).drew:=⟨cell_later (((Below.refl _ w2).alloc (Nat.le_refl _) _).drew) c2,bL.cell 6 rfl⟩
  go_region_held3 (RnP k.vb w2.heap.size tm last) (first
   | with_reducible exact hP1
   | with_reducible assumption) (first | (go_at_call 65;refine(hA _).mono ?_;rintro e w3 ⟨rfl,rfl⟩))
  clear hP1 bL c2;go_wp2;have hb4:=(hb3.alloc hb3.size (.cells #[.int .i64 ak,.int .u64 (au:Int),.int .u64 ra,.int .i64 tr,.bool pd,.string ⟨pth.toArray⟩,.int .u64 last] 131)).drew;exact bodyPost_ret (v:=.tuple #[.int .u64 ra,.nilIface]) (by simp [results,results44,go_sem]) rfl ⟨rfl,⟨c,l,f,by omega,by omega,by omega,by omega,by omega,(Xa HW).below hb4⟩,Spares.of_below hb4⟩
 have hra':ra=min p last:=by omega
 have hnle:¬ min p last<=at_:=hle;clear Hsame hra2 hle;go_enter func44,ntmps44
 go_wp2_with (first
  | (go_at_call 63;refine hP.mono ?_;rintro e w1 ⟨rfl,hb1⟩;have hF1:=hF _ (hb1.alloc hb1.size (.cells #[.int .i64 2,.int .u64 (tn_:Int)] 114)))
  | (go_at_call 71;refine hF1.mono ?_;rintro e w2 ⟨rfl,hb2⟩))
 have hb3:=hB0 w1 hb1 w2 hb2;have c2:=htime _ hb3;have lV2:k.vb<w2.heap.size:=Nat.lt_of_lt_of_le lV hb3.size;have bL:=BoxN.new w2 131 #[.int .i64 ak,.int .u64 (au:Int),.int .u64 at_,.int .i64 tr,.bool pd,.string ⟨pth.toArray⟩,.int .u64 last]
 have hP1:RnP k.vb w2.heap.size tm last (w2.alloc (.cells #[.int .i64 ak,.int .u64 (au:Int),.int .u64 at_,.int .i64 tr,.bool pd,.string ⟨pth.toArray⟩,.int .u64 last] 131)).drew:=⟨cell_later (((Below.refl _ w2).alloc (Nat.le_refl _) _).drew) c2,bL.cell 6 rfl⟩
 have bN2:=(BoxN.new w1 114 #[.int .i64 2,.int .u64 (tn_:Int)]).below hb2 (by simp);clear hF hF1 hP htime
 go_region_held3 (RnP k.vb w2.heap.size tm last) (first
  | with_reducible exact hP1
  | with_reducible assumption) (first | (go_at_call 65;refine(hA _).mono ?_;rintro e w3 ⟨rfl,rfl⟩))
 clear hP1 bL c2;rw [<- hra'] at hnle ⊢;have Hra:=Xb hra';clear hra';have lN:=bN2.lt;have n0:=bN2.cell 0 (v:=.int .i64 2) rfl;have n1:=bN2.cell 1 (v:=.int .u64 (tn_:Int)) rfl;have hb4:=(hb3.alloc hb3.size (.cells #[.int .i64 ak,.int .u64 (au:Int),.int .u64 ra,.int .i64 tr,.bool pd,.string ⟨pth.toArray⟩,.int .u64 last] 131)).drew;have bL4:BoxN (w2.alloc (.cells #[.int .i64 ak,.int .u64 (au:Int),.int .u64 ra,.int .i64 tr,.bool pd,.string ⟨pth.toArray⟩,.int .u64 last] 131)).drew w2.heap.size 131 #[.int .i64 ak,.int .u64 (au:Int),.int .u64 ra,.int .i64 tr,.bool pd,.string ⟨pth.toArray⟩,.int .u64 last]:=BoxN.new w2 131 #[.int .i64 ak,.int .u64 (au:Int),.int .u64 ra,.int .i64 tr,.bool pd,.string ⟨pth.toArray⟩,.int .u64 last]
 go_wp2_with (first
  | (go_at_call 67;refine(hER _ _ bL4).mono ?_;rintro e w5 ⟨rfl,hb5⟩;have hb6:Below w.heap.size w w5:=hb4.trans (hb5.mono hb4.size);have hK6:=hK w5 hb6)
  | (go_at_call 66;refine hK6.mono ?_;rintro e w7 ⟨rfl,hW7,hS7⟩))
 exact bodyPost_ret (v:=.tuple #[.int .u64 ra,.nilIface]) (by simp [results,results44,go_sem]) rfl ⟨rfl,⟨_,_,_,by rw [List.length_append];omega,Int.le_refl _,by omega,Int.le_refl _,by omega,hW7⟩,(Spares.of_below hb6).trans hS7⟩
end Go.Proofs
namespace Go.Proofs
open Go.RowKit Go.Extern.Stop Go.Stop Go.Extern
theorem Tryz.Xpw (t:Addr) (w:World):(ReflectliteValue.unpack (.iface 139 (.pointer (some t)))).run prog w
  = .ok (.agg #[.pointer (some ⟨9,139,none⟩),.pointer (some ⟨w.heap.size,0,none⟩),.int .u64 150]) (w.alloc (.cells #[.pointer (some t)] 139)):=by kernel_rfl
theorem Tryz.Xts (a:Addr) (w:World):(ReflectliteValue.methodAny (ReflectliteValue.valueError "reflectlite.Value.Type" 0) (fun t _ _ _=>ReflectliteType.toType t) #[.agg #[.pointer (some ⟨9,139,none⟩),.pointer (some a),.int .u64 150]]).run prog w
  = .ok (.iface 243 (.agg #[.pointer (some ⟨9,139,none⟩)])) w:=by kernel_rfl
theorem Tryz.Xu6 (h:Value) (w:World):(Go.method 517 243 (.agg #[h]) "Kind").run prog w=.ok (301,h) w:=by kernel_rfl
theorem Tryz.Xti (w:World):((ReflectliteType.abiMethod fun t=>Functor.map (fun a:Nat=>Value.int IntKind.u8 (a:Int)) (Rtype.kind t)) #[.pointer (some ⟨9,139,none⟩)]).run prog w=.ok (.int .u8 22) w:=by kernel_rfl
theorem Tryz.Xsw (w:World):((ReflectliteType.abiMethod fun t=>Functor.map (fun a:Nat=>Value.int IntKind.u8 (a:Int)) (Rtype.kind t)) #[.pointer (some ⟨9,33,none⟩)]).run prog w=.ok (.int .u8 2) w:=by kernel_rfl
theorem Tryz.Xr8 (a:Addr) (W:World) :
  (ReflectliteValue.method (ReflectliteValue.valueError "reflectlite.Value.IsNil" 0) ReflectliteValue.isNil #[.agg #[.pointer (some ⟨9,139,none⟩),.pointer (some a),.int .u64 150]]).run prog W=(ReflectliteValue.isNil 139 a 150 22).run prog W:=by kernel_rfl
theorem Tryz.Xtq (a p:Addr) (W:World) (ha:W.cell? a=some (.pointer (some p))) :
  (ReflectliteValue.method (ReflectliteValue.valueError "reflectlite.Value.IsNil" 0) ReflectliteValue.isNil #[.agg #[.pointer (some ⟨9,139,none⟩),.pointer (some a),.int .u64 150]]).run prog W=.ok (.bool false) W:=by
 rw [Xr8];simp [ReflectliteValue.isNil,loadVar,isAgg,underlying,underlying139,ha,Result.andThen]
theorem Tryz.Xtm (h:Value) (w:World):(Go.method 517 243 (.agg #[h]) "Elem").run prog w=.ok (344,.agg #[h]) w:=by kernel_rfl
theorem Tryz.Xs7 (h:Value) (w:World):(Go.method 517 243 (.agg #[h]) "Implements").run prog w=.ok (345,.agg #[h]) w:=by kernel_rfl
theorem Tryz.Xos (h:Value) (w:World):(Go.method 517 243 (.agg #[h]) "AssignableTo").run prog w=.ok (342,.agg #[h]) w:=by kernel_rfl
theorem Tryz.Xnx (h:Value) (w:World):(Go.method 517 243 (.agg #[h]) "Comparable").run prog w=.ok (343,.agg #[h]) w:=by kernel_rfl
theorem Tryz.Xtf (w:World):(ReflectliteType.method ReflectliteType.elem #[.agg #[.pointer (some ⟨9,139,none⟩)]]).run prog w=.ok (.iface 243 (.agg #[.pointer (some ⟨9,33,none⟩)])) w:=by kernel_rfl
theorem Tryz.Xu0 (w:World):(ReflectliteType.relation "Implements" ReflectliteType.implements_ #[.agg #[.pointer (some ⟨9,33,none⟩)],.iface 243 (.agg #[.pointer (some ⟨9,81,none⟩)])]).run prog w=.ok (.bool true) w:=by kernel_rfl
theorem Tryz.Xjo (v:Value) (w:World):(ReflectliteType.typeOf #[.iface 33 v]).run prog w=.ok (.iface 243 (.agg #[.pointer (some ⟨9,33,none⟩)])) w:=by kernel_rfl
theorem Tryz.Xpu (w:World):(ReflectliteType.relation "AssignableTo" ReflectliteType.assignableTo #[.agg #[.pointer (some ⟨9,33,none⟩)],.iface 243 (.agg #[.pointer (some ⟨9,33,none⟩)])]).run prog w=.ok (.bool true) w:=by kernel_rfl
theorem Tryz.Xq6 (k:Int) (w:World):(ReflectliteValue.unpack (.iface 33 (.int .i64 k))).run prog w
  = .ok (.agg #[.pointer (some ⟨9,33,none⟩),.pointer (some ⟨w.heap.size,0,none⟩),.int .u64 130]) (w.alloc (.cells #[.int .i64 k] 33)):=by kernel_rfl
theorem Tryz.Xpm (w:World):(Rtype.elem? 139).run prog w=.ok (some 33) w:=by kernel_rfl
theorem Tryz.rfMk (p:Addr) (w:World):(ReflectliteValue.mk 33 p ReflectliteValue.flagAddr).run prog w=.ok (.agg #[.pointer (some ⟨9,33,none⟩),.pointer (some p),.int .u64 386]) w:=by kernel_rfl
theorem Tryz.Xp7 (a:Addr) (W:World) :
  (ReflectliteValue.method (ReflectliteValue.valueError "reflectlite.Value.Elem" 0) ReflectliteValue.elem #[.agg #[.pointer (some ⟨9,139,none⟩),.pointer (some a),.int .u64 150]]).run prog W=(ReflectliteValue.elem 139 a 150 22).run prog W:=by kernel_rfl
theorem Tryz.Xtl (a p:Addr) (W:World) (ha:W.cell? a=some (.pointer (some p))) :
  (ReflectliteValue.method (ReflectliteValue.valueError "reflectlite.Value.Elem" 0) ReflectliteValue.elem #[.agg #[.pointer (some ⟨9,139,none⟩),.pointer (some a),.int .u64 150]]).run prog W
   = .ok (.agg #[.pointer (some ⟨9,33,none⟩),.pointer (some p),.int .u64 386]) W:=by
 rw [Xp7];simp [ReflectliteValue.elem,loadVar,isAgg,underlying,underlying139,ha,Result.andThen,Xpm,rfMk]
theorem Tryz.Xvq (ta b:Addr) (W:World) :
  (ReflectliteValue.set #[.agg #[.pointer (some ⟨9,33,none⟩),.pointer (some ta),.int .u64 386],.agg #[.pointer (some ⟨9,33,none⟩),.pointer (some b),.int .u64 130]]).run prog W
   = (loadVar 33 b >>= fun v=>storeVar 33 ta v >>= fun _=>pure (.tuple #[])).run prog W:=by kernel_rfl
theorem Tryz.rfSet (ta b:Addr) (k:Int) (old:Value) (W:World) (hb:W.cell? b=some (.int .i64 k)) (ht:W.cell? ta=some old) (hf:W.frozen? ta=false) :
  (ReflectliteValue.set #[.agg #[.pointer (some ⟨9,33,none⟩),.pointer (some ta),.int .u64 386],.agg #[.pointer (some ⟨9,33,none⟩),.pointer (some b),.int .u64 130]]).run prog W
   = .ok (.tuple #[]) (W.setCell ta (.int .i64 k)):=by
 rw [Xvq];simp [loadVar,isAgg,underlying,underlying33,hb,Result.andThen,storeVar,Value.cells,storeCells,Addr.add];rw [run_store prog W ta _ _ (by rfl)];simp [ht,hf]
def Mm (k:Int):Prop:=k=1\/k=2\/k=3\/k=4\/k=5\/k=6\/k=7\/k=8
theorem Tryz.rfEql (k:Int) (hk:Mm k) (w:World):(binOp .eql 81 (.iface 33 (.int .i64 k)) (.iface 33 (.int .i64 k))).run prog w=.ok (.bool true) w:=by
 rcases hk with rfl | rfl | rfl | rfl | rfl | rfl | rfl | rfl <;> kernel_rfl
theorem Tryz.asHit (k:Int) (t:Addr) (old:Value) (w:World) (hg:w.cell? ⟨0,0,none⟩=some (.iface 243 (.agg #[.pointer (some ⟨9,81,none⟩)]))) (ht0:w.cell? t=some old) (hf0:w.frozen? t=false) :
  Calls prog 69 #[.iface 33 (.int .i64 k),.iface 139 (.pointer (some t))] w fun ev w'=>ev=.returned (.bool true)/\w'=((((w.alloc (.cells #[.pointer (some t)] 139)).alloc (.cells #[.pointer (some ⟨9,139,none⟩),.pointer (some ⟨w.heap.size,0,none⟩),.int .u64 150] 200)).alloc (.cells #[.pointer (some ⟨9,139,none⟩),.pointer (some ⟨w.heap.size,0,none⟩),.int .u64 150] 200)).alloc (.cells #[.int .i64 k] 33)).setCell t (.int .i64 k):=by
 have h6:=@run_callFunc_extern prog 123 _ (fun args=>ReflectliteValue.unpack (args.getD 0 (.tuple #[]))) func123 (by kernel_rfl) (by kernel_rfl) (by kernel_rfl) (by kernel_rfl);have h7:=@run_callFunc_extern prog 124 _ (ReflectliteValue.methodAny (ReflectliteValue.valueError "reflectlite.Value.Type" 0) (fun t _ _ _=>ReflectliteType.toType t)) func124 (by kernel_rfl) (by kernel_rfl) (by kernel_rfl) (by kernel_rfl);have h8:=@run_callFunc_extern prog 125 _ (ReflectliteValue.method (ReflectliteValue.valueError "reflectlite.Value.IsNil" 0) ReflectliteValue.isNil) func125 (by kernel_rfl) (by kernel_rfl) (by kernel_rfl) (by kernel_rfl);have h27:=@run_callFunc_extern prog 301 _ (ReflectliteType.abiMethod fun t=>do pure (.int .u8 (<- Rtype.kind t))) func301 (by kernel_rfl) (by kernel_rfl) (by kernel_rfl) (by kernel_rfl);have h37:=@run_callFunc_extern prog 344 _ (ReflectliteType.method ReflectliteType.elem) func344 (by kernel_rfl) (by kernel_rfl) (by kernel_rfl) (by kernel_rfl);have h38:=@run_callFunc_extern prog 345 _ (ReflectliteType.relation "Implements" ReflectliteType.implements_) func345 (by kernel_rfl) (by kernel_rfl) (by kernel_rfl) (by kernel_rfl);have h10:=@run_callFunc_extern prog 127 _ ReflectliteType.typeOf func127 (by kernel_rfl) (by kernel_rfl) (by kernel_rfl) (by kernel_rfl);have h35:=@run_callFunc_extern prog 342 _ (ReflectliteType.relation "AssignableTo" ReflectliteType.assignableTo) func342 (by kernel_rfl) (by kernel_rfl) (by kernel_rfl) (by kernel_rfl);have h11:=@run_callFunc_extern prog 165 _ (ReflectliteValue.method (ReflectliteValue.valueError "reflectlite.Value.Elem" 0) ReflectliteValue.elem) func165 (by kernel_rfl) (by kernel_rfl) (by kernel_rfl) (by kernel_rfl);have h12:=@run_callFunc_extern prog 166 _ ReflectliteValue.set func166 (by kernel_rfl) (by kernel_rfl) (by kernel_rfl) (by kernel_rfl);have tO:=Xjo;have mA:=Xos;have a25:=Xpu;have v25:=Xq6;have f6:=Xpw;have f7:=Xts;have mK:=Xu6;have mE:=Xtm;have mI:=Xs7;have k27:=Xti;have k25:=Xsw;have e27:=Xtf;have i25:=Xu0;have n8:=Xtq ⟨w.heap.size,0,none⟩ t ((w.alloc (.cells #[.pointer (some t)] 139)).alloc (.cells #[.pointer (some ⟨9,139,none⟩),.pointer (some ⟨w.heap.size,0,none⟩),.int .u64 150] 200)) (by simp);have hlt:0<w.heap.size:=World.block_lt_of_cell? _ _ hg
 have hg2:((w.alloc (.cells #[.pointer (some t)] 139)).alloc (.cells #[.pointer (some ⟨9,139,none⟩),.pointer (some ⟨w.heap.size,0,none⟩),.int .u64 150] 200)).cell? ⟨0,0,none⟩=some (.iface 243 (.agg #[.pointer (some ⟨9,81,none⟩)])):=by
  rw [World.cell?_alloc_lt _ _ ⟨0,0,none⟩ (by simp),World.cell?_alloc_lt _ _ ⟨0,0,none⟩ hlt];exact hg
 have htl:t.block<w.heap.size:=World.block_lt_of_cell? _ _ ht0;have el:=Xtl ⟨w.heap.size,0,none⟩ t (((w.alloc (.cells #[.pointer (some t)] 139)).alloc (.cells #[.pointer (some ⟨9,139,none⟩),.pointer (some ⟨w.heap.size,0,none⟩),.int .u64 150] 200)).alloc (.cells #[.pointer (some ⟨9,139,none⟩),.pointer (some ⟨w.heap.size,0,none⟩),.int .u64 150] 200)) (by rw [World.cell?_alloc_lt _ _ ⟨w.heap.size,0,none⟩ (by simp;omega)];simp)
 have st:=rfSet t ⟨w.heap.size+1+1+1,0,none⟩ k old ((((w.alloc (.cells #[.pointer (some t)] 139)).alloc (.cells #[.pointer (some ⟨9,139,none⟩),.pointer (some ⟨w.heap.size,0,none⟩),.int .u64 150] 200)).alloc (.cells #[.pointer (some ⟨9,139,none⟩),.pointer (some ⟨w.heap.size,0,none⟩),.int .u64 150] 200)).alloc (.cells #[.int .i64 k] 33))
  (by rw [World.cell?_alloc_at _ _ _ _ (by simp)];rfl)
  (by rw [World.cell?_alloc_lt _ _ t (by simp;omega),World.cell?_alloc_lt _ _ t (by simp;omega),World.cell?_alloc_lt _ _ t (by simp;omega),World.cell?_alloc_lt _ _ t htl];exact ht0)
  (by rw [World.frozen?_alloc_old _ _ t (by simp;omega),World.frozen?_alloc_old _ _ t (by simp;omega),World.frozen?_alloc_old _ _ t (by simp;omega),World.frozen?_alloc_old _ _ t (Nat.ne_of_lt htl)];exact hf0)
 go_enter func69,ntmps69;go_wp2;refine wp_loop_rounds 1 ?_;rw [rounds_succ];go_wp2;go_ret;exact⟨rfl,rfl⟩
end Go.Proofs
