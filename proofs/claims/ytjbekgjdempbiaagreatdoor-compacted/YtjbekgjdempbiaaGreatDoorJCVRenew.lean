import Derived.Test.YtjbekgjdempbiaaGreatDoorJCVIssue
import Derived.Test.YtjbekgjdempbiaaGreatDoorJRefP
set_option maxRecDepth 100000
set_option maxHeartbeats 8000000
namespace Go.Proofs
open Go.RowKit Go.Sort Go.Lib Go.Shelf Go.Maps
theorem J7 {tm:Int} (t0:0<=tm) (t1:tm<=18446744073709551615) {is:List Item} {s:VSt} (hF:Yn is s) (hn:is.length<=50):(keepLine tm is).length<=70000:=by
 refine Nat.le_trans (Uo (nowR tm :: is.map Item.rec_) (fun r hr=>?_) (by simp;omega)) (by simp;omega)
 rcases List.mem_cons.1 hr with rfl | hr
 ·exact⟨show (-9223372036854775808:Int)<=0 by decide,show (0:Int)<=9223372036854775807 by decide,show 0<18446744073709551616 by decide,show 0<18446744073709551616 by decide,t0,t1,show (-9223372036854775808:Int)<=0 by decide,show (0:Int)<=9223372036854775807 by decide,show (0:Int)<=0 by decide,show (0:Int)<=18446744073709551615 by decide,show 0<=1000 by decide⟩
 exact(Yn.ok hF r hr).1
def J5 (tm ttl:Int) (l:Xd):Int:=max l.at_ (min (plusI tm ttl) l.last)
theorem Xb6 {l:List Xd} (hs:l.Pairwise (fun a b=>a.n<b.n)) {k:Nat} {t t':Xd} (h:l[k]? = some t) (hn:t'.n=t.n):Yf t' l=l.set k t':=by
 have hk:k<l.length:=(List.getElem?_eq_some_iff.1 h).1;have hke:l[k]=t:=(List.getElem?_eq_some_iff.1 h).2;unfold Yf;rw [if_pos (List.any_eq_true.2 ⟨t,List.mem_of_getElem? h,by simp [hn]⟩)];apply List.ext_getElem
 ·simp
 intro j h1 h2
 have hj:j<l.length:=by simpa using h1
 rw [List.getElem_map,List.getElem_set]
 by_cases e:k=j
 ·subst e
  rw [if_pos rfl,if_pos (by rw [hke,hn])]
 rw [if_neg e,if_neg];intro hnn;have hp:=List.pairwise_iff_getElem.1 hs
 rcases Nat.lt_or_gt_of_ne e with hlt | hgt
 ·have:=hp k j hk hj hlt
  rw [hke] at this;omega
 have:=hp j k hj hk hgt;rw [hke] at this;omega
theorem Tryz.Xn4 (vb:Nat) (w:World) (id:List UInt8) (ttl:Int) (x:Int × Int) (ak au at_ tr:Int) (pd:Bool) (lp:List UInt8) (la:Int) (hp:Calls prog 63 #[.string ⟨id.toArray⟩] w fun e w'=>e=.returned (nmV x)/\Below w.heap.size w w')
  (hF:∀ W,Below w.heap.size w W->Calls prog 71 #[.pointer (some ⟨vb,0,none⟩),nmV x] W fun e w'=>e=.returned (.tuple #[.agg #[.int .i64 ak,.int .u64 au,.int .u64 at_,.int .i64 tr,.bool pd,.string ⟨lp.toArray⟩,.int .u64 la],.bool false])/\Below W.heap.size W w') :
  Calls prog 44 #[.pointer (some ⟨vb,0,none⟩),.string ⟨id.toArray⟩,.int .u64 ttl] w fun e w'=>e=.returned (.tuple #[.int .u64 0,.iface 33 (.int .i64 5)])/\Below w.heap.size w w':=by
 unfold nmV at hp hF;go_enter func44,ntmps44
 go_wp2_with (first
  | (go_at_call 63;refine hp.mono ?_;rintro e w1 ⟨rfl,hb1⟩;have hF1:=hF _ (hb1.alloc hb1.size (.cells #[.int .i64 x.1,.int .u64 x.2] 114)))
  | (go_at_call 71;refine hF1.mono ?_;rintro e w2 ⟨rfl,hb2⟩))
 have hb3:=(hb1.alloc hb1.size (.cells #[.int .i64 x.1,.int .u64 x.2] 114)).trans (hb2.mono (by have:=hb1.size;simp;omega));exact bodyPost_ret (v:=.tuple #[.int .u64 0,.iface 33 (.int .i64 5)]) (by simp [results,results44,go_sem]) rfl ⟨rfl,hb3.alloc hb3.size _⟩
abbrev Tryz.RnP (vb lb:Nat) (tm la:Int) (W:World):Prop:=W.cell? ⟨vb,2,none⟩=some (.int .u64 tm)/\W.cell? ⟨lb,6,none⟩=some (.int .u64 la)
theorem Tryz.Xhb (k:Blk) (vx:VX) (tm:Int) (s:VSt) (c:List UInt8) (l f:Int) (w:World) (hW:Whole w k vx tm s c l f) (hl:l<0) (hl1 : -999999990<=l) (hf:f<0) (hf1 : -999999990<=f) (hc:c.length<=900000000000) (id:List UInt8) (hid:id.length<=1000000) (i:Nat) (t:Xd) (ht:s.lks[i]? = some t) (hp:parseN id=(2,(t.n:Int))) (hlv:(!t.pd&&decide (tm<t.at_))=true) (ttl:Int) (ht0:0<=ttl) (ht1:ttl<=18446744073709551615) (h14:s.lks.length<500) :
  Calls prog 44 #[.pointer (some ⟨k.vb,0,none⟩),.string ⟨id.toArray⟩,.int .u64 ttl] w fun e w'=>e=.returned (.tuple #[.int .u64 (J5 tm ttl t),.nilIface]) /\
   (∃ c' l' f',c'.length<=c.length+70000/\l-2<=l'/\l'<=l/\f-2<=f'/\f'<=f/\Whole w' k vx tm ⟨s.tn,s.ln,s.tks,s.lks.set i { t with at_:=J5 tm ttl t }⟩ c' l' f')/\Spares k.turns w w':=by
 have htm:=List.mem_of_getElem? ht
 have hA:=fun W=>later tm ttl hW.v.t0 hW.v.t1 ht0 ht1 W
 have hrg:=Zc tm ttl hW.v.t0 hW.v.t1 ht0 ht1;have hP:=parse ⟨id.toArray⟩ (by simpa [ByteArray.size] using hid) w hW.v.va.env hW.v.va.six;simp only at hP
 have hF:=fun W (hb:Below w.heap.size w W)=>Vm k.vb k.mt k.ml vx tm _ _ s.tks s.lks W (hW.v.va.below hb) t htm
 rw [hlv] at hF
 have htime:=fun W (hb:Below w.heap.size w W)=>(hW.v.va.below hb).v.cell 2 (v:=.int .u64 tm) rfl
 have hokt:=hW.v.okL t htm;have lV:=hW.v.va.v.lt
 obtain⟨ra,hra⟩:∃ ra,J5 tm ttl t=ra:=⟨_,rfl⟩
 have hra2:max t.at_ (min (plusI tm ttl) t.last)=ra:=hra;rw [hra];rw [hp] at hP;unfold nmV at hP hF;simp only at hP hF;unfold Xd.cells at hF;have hset:=Xb6 hW.v.va.ok.incL ht (t':={ t with at_:=ra }) rfl
 have hfit:(Item.lea { t with at_:=ra }).Fits s:=⟨⟨show 0<=ra by have:=hokt.a0;omega,show ra<=18446744073709551615 by have:=hokt.a1;have:=hokt.l1;omega,hokt.r0,hokt.r1,hokt.l0,hokt.l1,hokt.p1,hokt.pa⟩,.inl ⟨t,htm,rfl⟩,by omega,(hW.v.va.ok.limL t htm).1,(hW.v.va.ok.limL t htm).2⟩
 have happ:(Item.lea { t with at_:=ra }).app s=⟨s.tn,s.ln,s.tks,s.lks.set i { t with at_:=ra }⟩:=by
  show VSt.mk s.tn (max s.ln t.n) s.tks (Yf { t with at_:=ra } s.lks)=_
  rw [hset,show max s.ln t.n=s.ln by have:=hW.v.nl t htm;omega]
 have hK:=fun W (hb:Below w.heap.size w W)=>Xmj k vx tm s c l f (.lea { t with at_:=ra }) W (hW.below hb) hl hl1 hf hf1 hc hfit
 rw [happ] at hK;have hkl:(keepLine tm [.lea { t with at_:=ra }]).length<=70000:=J7 hW.v.t0 hW.v.t1 (s:=s) ⟨hfit,trivial⟩ (by simp);generalize keepLine tm [.lea { t with at_:=ra }]=kl at *
 have hER:=fun W b (h0:BoxN W b 131 #[.int .i64 t.ak,.int .u64 (t.au:Int),.int .u64 ra,.int .i64 t.tr,.bool t.pd,.string ⟨t.pth.toArray⟩,.int .u64 t.last])=>Jw b 2 (t.n:Int) t.ak t.au ra t.tr t.pd t.pth t.last W (h0.cell 0 rfl) (h0.cell 1 rfl) (h0.cell 2 rfl) (h0.cell 3 rfl) (h0.cell 4 rfl) (h0.cell 5 rfl) (h0.cell 6 rfl)
 change ∀ W,Below w.heap.size w W->Calls prog 66 _ (W.alloc (.cells #[.int .i64 1,.int .i64 2,.int .u64 (t.n:Int),.int .i64 t.ak,.int .u64 (t.au:Int),.bool t.pd,.int .u64 ra,.int .i64 t.tr,.int .u64 t.last,.string ⟨t.pth.toArray⟩] 135)) _ at hK
 unfold Xi at hER
 have hsame:ra=t.at_->s.lks.set i { t with at_:=ra } = s.lks:=fun e=>by
  have hk:i<s.lks.length:=(List.getElem?_eq_some_iff.1 ht).1;have hke:s.lks[i]=t:=(List.getElem?_eq_some_iff.1 ht).2;rw [show ({ t with at_:=ra }:Xd)=s.lks[i] by rw [hke,e]];exact List.set_getElem_self hk
 have Hsame:=Xb hsame
 obtain⟨lks',hlks⟩:∃ lks',s.lks.set i { t with at_:=ra } = lks':=⟨_,rfl⟩
 rw [hlks] at hK Hsame ⊢;obtain⟨tn_,ak,au,at_,tr,pd,pth,last⟩:=t;simp only at *;generalize plusI tm ttl=p at *;have HW:=Xb hW;clear hset hfit happ hra hsame hlks ht htm hokt hp hlv hW
 have hB0:∀ w1,Below w.heap.size w w1->∀ w2,Below (w1.alloc (.cells #[.int .i64 2,.int .u64 (tn_:Int)] 114)).heap.size (w1.alloc (.cells #[.int .i64 2,.int .u64 (tn_:Int)] 114)) w2->Below w.heap.size w w2:=fun w1 hb1 w2 hb2=>(hb1.alloc hb1.size _).trans (hb2.mono (by have:=hb1.size;simp;omega))
 by_cases hle:min p last<=at_
 ·have hra':ra=at_:=by omega
  subst hra';rw [show lks'=s.lks from Xa Hsame rfl];clear hK hER Hsame hra2;go_enter func44,ntmps44
  go_wp2_with (first
   | (go_at_call 63;refine hP.mono ?_;rintro e w1 ⟨rfl,hb1⟩;have hF1:=hF _ (hb1.alloc hb1.size (.cells #[.int .i64 2,.int .u64 (tn_:Int)] 114)))
   | (go_at_call 71;refine hF1.mono ?_;rintro e w2 ⟨rfl,hb2⟩))
  have hb3:=hB0 w1 hb1 w2 hb2;have c2:=htime _ hb3;have lV2:k.vb<w2.heap.size:=Nat.lt_of_lt_of_le lV hb3.size;clear hF hF1 hP htime;have bL:=BoxN.new w2 131 #[.int .i64 ak,.int .u64 (au:Int),.int .u64 ra,.int .i64 tr,.bool pd,.string ⟨pth.toArray⟩,.int .u64 last]
  have hP1:RnP k.vb w2.heap.size tm last (w2.alloc (.cells #[.int .i64 ak,.int .u64 (au:Int),.int .u64 ra,.int .i64 tr,.bool pd,.string ⟨pth.toArray⟩,.int .u64 last] 131)).drew:=⟨cell_later (((Below.refl _ w2).alloc (Nat.le_refl _) _).drew) c2,bL.cell 6 rfl⟩
  go_region_held3 (RnP k.vb w2.heap.size tm last) (first
   | with_reducible exact hP1
   | with_reducible assumption) (first | (go_at_call 65;refine(hA _).mono ?_;rintro e w3 ⟨rfl,rfl⟩))
  clear hP1 bL c2;go_wp2;have hb4:=(hb3.alloc hb3.size (.cells #[.int .i64 ak,.int .u64 (au:Int),.int .u64 ra,.int .i64 tr,.bool pd,.string ⟨pth.toArray⟩,.int .u64 last] 131)).drew;exact bodyPost_ret (v:=.tuple #[.int .u64 ra,.nilIface]) (by simp [results,results44,go_sem]) rfl ⟨rfl,⟨c,l,f,by omega,by omega,by omega,by omega,by omega,(Xa HW).below hb4⟩,Spares.of_below hb4⟩
 have hra':ra=min p last:=by omega
 have hnle:¬ min p last<=at_:=hle;clear Hsame hra2 hle;go_enter func44,ntmps44
 go_wp2_with (first
  | (go_at_call 63;refine hP.mono ?_;rintro e w1 ⟨rfl,hb1⟩;have hF1:=hF _ (hb1.alloc hb1.size (.cells #[.int .i64 2,.int .u64 (tn_:Int)] 114)))
  | (go_at_call 71;refine hF1.mono ?_;rintro e w2 ⟨rfl,hb2⟩))
 have hb3:=hB0 w1 hb1 w2 hb2;have c2:=htime _ hb3;have lV2:k.vb<w2.heap.size:=Nat.lt_of_lt_of_le lV hb3.size;have bL:=BoxN.new w2 131 #[.int .i64 ak,.int .u64 (au:Int),.int .u64 at_,.int .i64 tr,.bool pd,.string ⟨pth.toArray⟩,.int .u64 last]
 have hP1:RnP k.vb w2.heap.size tm last (w2.alloc (.cells #[.int .i64 ak,.int .u64 (au:Int),.int .u64 at_,.int .i64 tr,.bool pd,.string ⟨pth.toArray⟩,.int .u64 last] 131)).drew:=⟨cell_later (((Below.refl _ w2).alloc (Nat.le_refl _) _).drew) c2,bL.cell 6 rfl⟩
 have bN2:=(BoxN.new w1 114 #[.int .i64 2,.int .u64 (tn_:Int)]).below hb2 (by simp);clear hF hF1 hP htime
 go_region_held3 (RnP k.vb w2.heap.size tm last) (first
  | with_reducible exact hP1
  | with_reducible assumption) (first | (go_at_call 65;refine(hA _).mono ?_;rintro e w3 ⟨rfl,rfl⟩))
 clear hP1 bL c2;rw [<- hra'] at hnle ⊢;have Hra:=Xb hra';clear hra';have lN:=bN2.lt;have n0:=bN2.cell 0 (v:=.int .i64 2) rfl;have n1:=bN2.cell 1 (v:=.int .u64 (tn_:Int)) rfl;have hb4:=(hb3.alloc hb3.size (.cells #[.int .i64 ak,.int .u64 (au:Int),.int .u64 ra,.int .i64 tr,.bool pd,.string ⟨pth.toArray⟩,.int .u64 last] 131)).drew;have bL4:BoxN (w2.alloc (.cells #[.int .i64 ak,.int .u64 (au:Int),.int .u64 ra,.int .i64 tr,.bool pd,.string ⟨pth.toArray⟩,.int .u64 last] 131)).drew w2.heap.size 131 #[.int .i64 ak,.int .u64 (au:Int),.int .u64 ra,.int .i64 tr,.bool pd,.string ⟨pth.toArray⟩,.int .u64 last]:=BoxN.new w2 131 #[.int .i64 ak,.int .u64 (au:Int),.int .u64 ra,.int .i64 tr,.bool pd,.string ⟨pth.toArray⟩,.int .u64 last]
 go_wp2_with (first
  | (go_at_call 67;refine(hER _ _ bL4).mono ?_;rintro e w5 ⟨rfl,hb5⟩;have hb6:Below w.heap.size w w5:=hb4.trans (hb5.mono hb4.size);have hK6:=hK w5 hb6)
  | (go_at_call 66;refine hK6.mono ?_;rintro e w7 ⟨rfl,hW7,hS7⟩))
 exact bodyPost_ret (v:=.tuple #[.int .u64 ra,.nilIface]) (by simp [results,results44,go_sem]) rfl ⟨rfl,⟨_,_,_,by rw [List.length_append];omega,Int.le_refl _,by omega,Int.le_refl _,by omega,hW7⟩,(Spares.of_below hb6).trans hS7⟩
end Go.Proofs
