import Derived.Test.YtjbekgjdempbiaaGreatDoorJCCodeE
set_option maxRecDepth 100000
set_option maxHeartbeats 8000000
namespace Go.Proofs
open Go.RowKit Go.Sort Go.Lib Go.Shelf Go.Maps
def M2 (n m:Nat) (at_ last:Int) (pth:List UInt8):Xd:=⟨n,1,m,at_,0,false,pth,last⟩
abbrev Tryz.IsP (vb ab:Nat) (m tm:Int) (W:World):Prop:=
 W.cell? ⟨vb,2,none⟩=some (.int .u64 tm)/\W.cell? ⟨ab,0,none⟩=some (.int .i64 1)/\W.cell? ⟨ab,1,none⟩=some (.int .u64 m)
theorem Tryz.IsP.below {vb ab:Nat} {m tm:Int} {W W':World} (h:IsP vb ab m tm W) (hb:Below W.heap.size W W'):IsP vb ab m tm W':=⟨cell_later hb h.1,cell_later hb h.2.1,cell_later hb h.2.2⟩
theorem Zc (a b:Int) (ha:0<=a) (ha1:a<=18446744073709551615) (hb:0<=b) (hb1:b<=18446744073709551615):0<=plusI a b/\plusI a b<=18446744073709551615:=by
 unfold plusI
 split <;> omega
theorem Tryz.Xi5 (k:Blk) (vx:VX) (tm:Int) (s:VSt) (c:List UInt8) (l f:Int) (w:World) (hW:Whole w k vx tm s c l f) (hl:l<0) (hl1 : -999999990<=l) (hf:f<0) (hf1 : -999999990<=f) (hc:c.length<=900000000000) (id pth:List UInt8) (hid:id.length<=1000000) (ttl most:Int) (ht0:0<=ttl) (ht1:ttl<=18446744073709551615) (hq0:0<=most) (hq1:most<=18446744073709551615) (hp24:pth.length<=24) (hpa:Xlj pth) (m:Nat) (hm64:m<Xj) (hm:parseN id=(1,(m:Int)))
  (hF:∀ W,Below w.heap.size w W->Calls prog 64 #[.pointer (some ⟨k.vb,0,none⟩),nmV (parseN id),.string ⟨pth.toArray⟩,.int .u64 ttl,.int .u64 most] W fun e w'=>e=.returned .nilIface/\Below W.heap.size W w') (h14:s.lks.length<14) (hln:s.ln<9223372036854775807) :
  Calls prog 41 #[.pointer (some ⟨k.vb,0,none⟩),.string ⟨id.toArray⟩,.string ⟨pth.toArray⟩,.int .u64 ttl,.int .u64 most] w fun e w'=>e=.returned (.tuple #[.string ⟨(nmStr 2 (s.ln+1)).toArray⟩,.nilIface])/\Whole w' k vx tm ⟨s.tn,s.ln+1,s.tks,s.lks ++ [M2 (s.ln+1) m (plusI tm ttl) (plusI tm most) pth]⟩ (c++keepLine tm [.lea (M2 (s.ln+1) m (plusI tm ttl) (plusI tm most) pth)]) (l-2) (f-2)/\Spares k.turns w w':=by
 have hA1:=fun W=>later tm ttl hW.v.t0 hW.v.t1 ht0 ht1 W
 have hA2:=fun W=>later tm most hW.v.t0 hW.v.t1 hq0 hq1 W
 have hr1:=Zc tm ttl hW.v.t0 hW.v.t1 ht0 ht1;have hr2:=Zc tm most hW.v.t0 hW.v.t1 hq0 hq1;generalize plusI tm ttl=at0 at *;generalize plusI tm most=la0 at *;have hP:=parse ⟨id.toArray⟩ (by simpa [ByteArray.size] using hid) w hW.v.va.env hW.v.va.six;simp only at hP
 have htime:=fun W (hb:Below w.heap.size w W)=>(hW.v.va.below hb).v.cell 2 (v:=.int .u64 tm) rfl
 have hcn:=fun W (hb:Below w.heap.size w W)=>(hW.v.va.below hb).v.cell 6 (v:=.int .u64 (s.ln:Int)) rfl
 have hfit:(Item.lea (M2 (s.ln+1) m at0 la0 pth)).Fits s:=⟨⟨hr1.1,hr1.2,show (0:Int)<=0 by decide,⟨show (0:Int)<=1000000000 by decide,.inl rfl⟩,hr2.1,hr2.2,hp24,hpa⟩,.inr (fun x hx=>by have:=hW.v.nl x hx;show x.n<s.ln+1;omega),by omega,show s.ln+1<Xj by unfold Xj;omega,hm64⟩
 have happ:(Item.lea (M2 (s.ln+1) m at0 la0 pth)).app s=⟨s.tn,s.ln+1,s.tks,s.lks ++ [M2 (s.ln+1) m at0 la0 pth]⟩:=by
  show VSt.mk s.tn (max s.ln (s.ln+1)) s.tks (Yf (M2 (s.ln+1) m at0 la0 pth) s.lks)=_
  rw [Xha (fun x hx=>by have:=hW.v.nl x hx;show x.n<s.ln+1;omega),show max s.ln (s.ln+1)=s.ln+1 by omega]
 have hK:=fun W (hb:Below w.heap.size w W)=>Xmj k vx tm s c l f (.lea (M2 (s.ln+1) m at0 la0 pth)) W (hW.below hb) hl hl1 hf hf1 hc hfit
 rw [happ] at hK
 have hER:=fun W b (h0:BoxN W b 131 #[.int .i64 1,.int .u64 (m:Int),.int .u64 at0,.int .i64 0,.bool false,.string ⟨pth.toArray⟩,.int .u64 la0])=>Jw b 2 ((s.ln+1:Nat):Int) 1 m at0 0 false pth la0 W (h0.cell 0 rfl) (h0.cell 1 rfl) (h0.cell 2 rfl) (h0.cell 3 rfl) (h0.cell 4 rfl) (h0.cell 5 rfl) (h0.cell 6 rfl)
 have hNS:=fun W hE h6=>Zb 2 (s.ln+1) (by omega) W hE h6
 obtain⟨z,hz⟩:∃ z:Int,(s.ln:Int)=z:=⟨_,rfl⟩
 have hz2:((s.ln+1:Nat):Int)=z+1:=by omega
 have hz0:0<=z:=by omega
 have hz1:z<9223372036854775807:=by omega
 simp only [hz] at hcn;rw [hm] at hP hF;unfold nmV at hP hF;simp only at hP hF
 change ∀ W,Below w.heap.size w W->Calls prog 66 _ (W.alloc (.cells #[.int .i64 1,.int .i64 2,.int .u64 ((s.ln+1:Nat):Int),.int .i64 1,.int .u64 (m:Int),.bool false,.int .u64 at0,.int .i64 0,.int .u64 la0,.string ⟨pth.toArray⟩] 135)) _ at hK
 unfold Xi at hER;rw [hz2] at hK hER;simp only [hz2] at hNS
 obtain⟨str,hstr⟩:∃ str,nmStr 2 (s.ln+1)=str:=⟨_,rfl⟩
 rw [hstr] at hNS;have Hstr:=Xb hstr
 obtain⟨kl,hkl⟩:∃ kl,keepLine tm [.lea (M2 (s.ln+1) m at0 la0 pth)]=kl:=⟨_,rfl⟩
 rw [hkl] at hK;have Hkl:=Xb hkl
 obtain⟨s',hs'⟩:∃ s':VSt,(⟨s.tn,s.ln+1,s.tks,s.lks ++ [M2 (s.ln+1) m at0 la0 pth]⟩:VSt)=s':=⟨_,rfl⟩
 rw [hs'] at hK;have Hs':=Xb hs'
 have hfresh:∀ W,Below w.heap.size w W->W.heap.size∉k.turns:=fun W hb hm=>by
  have:=hW.lts _ hm;have:=hb.size;omega
 have lV:=hW.v.va.v.lt;clear hstr hkl hs' happ hfit hz hz2 hm hr1 hr2;go_enter func41,ntmps41
 go_wp2_with (first
  | (go_at_call 63;refine hP.mono ?_;rintro e w1 ⟨rfl,hb1⟩;have hF1:=hF _ (hb1.alloc hb1.size (.cells #[.int .i64 1,.int .u64 (m:Int)] 114)))
  | (go_at_call 64;refine hF1.mono ?_;rintro e w2 ⟨rfl,hb2⟩;have hb3:=(hb1.alloc hb1.size (.cells #[.int .i64 1,.int .u64 (m:Int)] 114)).trans (hb2.mono (by have:=hb1.size;simp;omega));have c4:=hcn _ hb3;have c5:=htime _ hb3;have bA:=(BoxN.new w1 114 #[.int .i64 1,.int .u64 (m:Int)]).below hb2 (by simp);have a0:=bA.cell 0 (v:=.int .i64 1) rfl;have a1:=bA.cell 1 (v:=.int .u64 (m:Int)) rfl;have lA:=bA.lt))
 have hz3:=hb3.size;have hP3:IsP k.vb w1.heap.size m tm (w2.alloc (.cells #[.int .i64 2,.int .u64 (z+1)] 114)).drew:=IsP.below (W:=w2) ⟨c5,a0,a1⟩ (((Below.refl _ w2).alloc (Nat.le_refl _) _).drew)
 have hP4:∀ o,IsP k.vb w1.heap.size m tm ((w2.alloc (.cells #[.int .i64 2,.int .u64 (z+1)] 114)).alloc o).drew:=fun o=>IsP.below (W:=w2) ⟨c5,a0,a1⟩ (((Below.refl _ w2).alloc (Nat.le_refl _) _).alloc (by simp) _).drew
 clear c4 c5 a0 a1
 go_region_held3 (IsP k.vb w1.heap.size m tm) (first
  | with_reducible exact hP3
  | with_reducible exact hP4 _
  | with_reducible assumption) (first
  | (go_at_call_of 65 (Value.int .u64 ttl);refine(hA1 _).mono ?_;rintro e w3 ⟨rfl,rfl⟩)
  | (go_at_call_of 65 (Value.int .u64 most);refine(hA2 _).mono ?_;rintro e w4 ⟨rfl,rfl⟩))
 all_goals
  have bL:=BoxN.new (w2.alloc (.cells #[.int .i64 2,.int .u64 (z+1)] 114)) 131 #[.int .i64 1,.int .u64 (m:Int),.int .u64 at0,.int .i64 0,.bool false,.string ⟨pth.toArray⟩,.int .u64 la0];have bN:=(BoxN.new w2 114 #[.int .i64 2,.int .u64 (z+1)]).alloc (.cells #[.int .i64 1,.int .u64 (m:Int),.int .u64 at0,.int .i64 0,.bool false,.string ⟨pth.toArray⟩,.int .u64 la0] 131);rw [World.size_alloc] at bL;have hb4:Below w.heap.size w ((w2.alloc (.cells #[.int .i64 2,.int .u64 (z+1)] 114)).alloc (.cells #[.int .i64 1,.int .u64 (m:Int),.int .u64 at0,.int .i64 0,.bool false,.string ⟨pth.toArray⟩,.int .u64 la0] 131)).drew:=((hb3.alloc hb3.size _).alloc (by simp;omega) _).drew;have bL':BoxN ((w2.alloc (.cells #[.int .i64 2,.int .u64 (z+1)] 114)).alloc (.cells #[.int .i64 1,.int .u64 (m:Int),.int .u64 at0,.int .i64 0,.bool false,.string ⟨pth.toArray⟩,.int .u64 la0] 131)).drew _ _ _:=bL;have bN':BoxN ((w2.alloc (.cells #[.int .i64 2,.int .u64 (z+1)] 114)).alloc (.cells #[.int .i64 1,.int .u64 (m:Int),.int .u64 at0,.int .i64 0,.bool false,.string ⟨pth.toArray⟩,.int .u64 la0] 131)).drew _ _ _:=bN;clear bL bN hP3 hP4
  obtain⟨W4,hW4⟩:∃ W4,((w2.alloc (.cells #[.int .i64 2,.int .u64 (z+1)] 114)).alloc (.cells #[.int .i64 1,.int .u64 (m:Int),.int .u64 at0,.int .i64 0,.bool false,.string ⟨pth.toArray⟩,.int .u64 la0] 131)).drew=W4:=⟨_,rfl⟩
  rw [hW4] at hb4 bL' bN' ⊢;clear hW4;have n0:=bN'.cell 0 (v:=.int .i64 2) rfl;have n1:=bN'.cell 1 (v:=.int .u64 (z+1)) rfl
  go_wp2_with (first
   | (go_at_call 67;refine(hER _ _ bL').mono ?_;rintro e w5 ⟨rfl,hb5⟩;have hb6:Below w.heap.size w w5:=hb4.trans (hb5.mono hb4.size);have bN5:=bN'.below hb5 bN'.lt;have hK6:=hK w5 hb6)
   | (go_at_call 66;refine hK6.mono ?_;rintro e w7 ⟨rfl,hW7,hS7⟩;have bN7:=hS7.box bN5 (hfresh w2 hb3);have n7:=bN7.cell 0 (v:=.int .i64 2) rfl;have n8:=bN7.cell 1 (v:=.int .u64 (z+1)) rfl)
   | (go_at_call 68;refine(hNS _ hW7.v.va.env hW7.v.va.six).mono ?_;rintro e w8 ⟨rfl,hb8⟩))
  exact bodyPost_ret (v:=.tuple #[.string ⟨str.toArray⟩,.nilIface]) (by simp [results,results41,go_sem]) rfl ⟨by rw [Xa Hstr],by rw [Xa Hkl,Xa Hs'];exact hW7.below hb8,((Spares.of_below hb6).trans hS7).trans (Spares.of_below hb8)⟩
end Go.Proofs
