import Derived.Test.YtjbekgjdempbiaaGreatDoorJVIssue
import Derived.Test.YtjbekgjdempbiaaGreatDoorJQueK
import Derived.Test.YtjbekgjdempbiaaGreatDoorJQueH
import Derived.Test.YtjbekgjdempbiaaGreatDoorJRefC
set_option maxRecDepth 100000
set_option maxHeartbeats 8000000
namespace Go.Proofs
open Go.RowKit Go.Sort Go.Lib Go.Shelf Go.Maps
theorem Jp {tm:Int} (t0:0<=tm) (t1:tm<=18446744073709551615) {is:List Item} {s:VSt} (hF:Yr is s) (hn:is.length<=50):(keepLine tm is).length<=70000:=by
 refine Nat.le_trans (Xdf (nowR tm :: is.map Item.rec_) (fun r hr=>?_) (by simp;omega)) (by simp;omega)
 rcases List.mem_cons.1 hr with rfl | hr
 ·exact⟨show (-9223372036854775808:Int)<=0 by decide,show (0:Int)<=9223372036854775807 by decide,show 0<18446744073709551616 by decide,show 0<18446744073709551616 by decide,t0,t1,show (-9223372036854775808:Int)<=0 by decide,show (0:Int)<=9223372036854775807 by decide,show (0:Int)<=0 by decide,show (0:Int)<=18446744073709551615 by decide,show 0<=1000 by decide⟩
 exact(Yr.ok hF r hr).1
def M7 (tm ttl:Int) (l:Xc):Int:=max l.at_ (min (plusI tm ttl) l.last)
theorem Xet {l:List Xc} (hs:l.Pairwise (fun a b=>a.n<b.n)) {k:Nat} {t t':Xc} (h:l[k]? = some t) (hn:t'.n=t.n):Yc t' l=l.set k t':=by
 have hk:k<l.length:=(List.getElem?_eq_some_iff.1 h).1;have hke:l[k]=t:=(List.getElem?_eq_some_iff.1 h).2;unfold Yc;rw [if_pos (List.any_eq_true.2 ⟨t,List.mem_of_getElem? h,by simp [hn]⟩)];apply List.ext_getElem
 ·simp
 intro j h1 h2
 have hj:j<l.length:=by simpa using h1
 rw [List.getElem_map,List.getElem_set]
 by_cases e:k=j
 ·subst e
  rw [if_pos rfl,if_pos (by rw [hke,hn])]
 rw [if_neg e,if_neg];intro hnn;have hp:=List.pairwise_iff_getElem.1 hs
 rcases Nat.lt_or_gt_of_ne e with hlt | hgt
 ·have:=hp k j hk hj hlt
  rw [hke] at this;omega
 have:=hp j k hj hk hgt;rw [hke] at this;omega
theorem Tryz.Xjs (vb:Nat) (w:World) (id:List UInt8) (ttl:Int) (x:Int × Int) (ak au at_ tr:Int) (pd:Bool) (lp:List UInt8) (la:Int) (hp:Calls prog 63 #[.string ⟨id.toArray⟩] w fun e w'=>e=.returned (nmV x)/\Below w.heap.size w w')
  (hF:∀ W,Below w.heap.size w W->Calls prog 71 #[.pointer (some ⟨vb,0,none⟩),nmV x] W fun e w'=>e=.returned (.tuple #[.agg #[.int .i64 ak,.int .u64 au,.int .u64 at_,.int .i64 tr,.bool pd,.string ⟨lp.toArray⟩,.int .u64 la],.bool false])/\Below W.heap.size W w') :
  Calls prog 44 #[.pointer (some ⟨vb,0,none⟩),.string ⟨id.toArray⟩,.int .u64 ttl] w fun e w'=>e=.returned (.tuple #[.int .u64 0,.iface 33 (.int .i64 5)])/\Below w.heap.size w w':=by
 unfold nmV at hp hF;go_enter func44,ntmps44
 go_wp2_with (first
  | (go_at_call 63;refine hp.mono ?_;rintro e w1 ⟨rfl,hb1⟩;have hF1:=hF _ (hb1.alloc hb1.size (.cells #[.int .i64 x.1,.int .u64 x.2] 114)))
  | (go_at_call 71;refine hF1.mono ?_;rintro e w2 ⟨rfl,hb2⟩))
 have hb3:=(hb1.alloc hb1.size (.cells #[.int .i64 x.1,.int .u64 x.2] 114)).trans (hb2.mono (by have:=hb1.size;simp;omega));exact bodyPost_ret (v:=.tuple #[.int .u64 0,.iface 33 (.int .i64 5)]) (by simp [results,results44,go_sem]) rfl ⟨rfl,hb3.alloc hb3.size _⟩
abbrev Tryz.RnP (vb lb:Nat) (tm la:Int) (W:World):Prop:=W.cell? ⟨vb,2,none⟩=some (.int .u64 tm)/\W.cell? ⟨lb,6,none⟩=some (.int .u64 la)
theorem Tryz.Xk1 (k:Blk) (vx:VX) (tm:Int) (s:VSt) (c:List UInt8) (l f:Int) (w:World) (hW:Whole w k vx tm s c l f) (hl:l<0) (hl1 : -999999990<=l) (hf:f<0) (hf1 : -999999990<=f) (hc:c.length<=900000000000) (id:List UInt8) (hid:id.length<=1000000) (i:Nat) (t:Xc) (ht:s.lks[i]? = some t) (hp:parseN id=(2,(t.n:Int))) (hlv:(!t.pd&&decide (tm<t.at_))=true) (ttl:Int) (ht0:0<=ttl) (ht1:ttl<=18446744073709551615) (h14:s.lks.length<500) :
  Calls prog 44 #[.pointer (some ⟨k.vb,0,none⟩),.string ⟨id.toArray⟩,.int .u64 ttl] w fun e w'=>e=.returned (.tuple #[.int .u64 (M7 tm ttl t),.nilIface]) /\
   (∃ c' l' f',c'.length<=c.length+70000/\l-2<=l'/\l'<=l/\f-2<=f'/\f'<=f/\Whole w' k vx tm ⟨s.tn,s.ln,s.tks,s.lks.set i { t with at_:=M7 tm ttl t }⟩ c' l' f')/\Spares k.turns w w':=by
 have htm:=List.mem_of_getElem? ht
 have hA:=fun W=>later tm ttl hW.v.t0 hW.v.t1 ht0 ht1 W
 have hrg:=Zy tm ttl hW.v.t0 hW.v.t1 ht0 ht1;have hP:=parse ⟨id.toArray⟩ (by simpa [ByteArray.size] using hid) w hW.v.va.env hW.v.va.six;simp only at hP
 have hF:=fun W (hb:Below w.heap.size w W)=>Vj k.vb k.mt k.ml vx tm _ _ s.tks s.lks W (hW.v.va.below hb) t htm
 rw [hlv] at hF
 have htime:=fun W (hb:Below w.heap.size w W)=>(hW.v.va.below hb).v.cell 2 (v:=.int .u64 tm) rfl
 have hokt:=hW.v.okL t htm;have lV:=hW.v.va.v.lt
 obtain⟨ra,hra⟩:∃ ra,M7 tm ttl t=ra:=⟨_,rfl⟩
 have hra2:max t.at_ (min (plusI tm ttl) t.last)=ra:=hra;rw [hra];rw [hp] at hP;unfold nmV at hP hF;simp only at hP hF;unfold Xc.cells at hF;have hset:=Xet hW.v.va.ok.incL ht (t':={ t with at_:=ra }) rfl
 have hfit:(Item.lea { t with at_:=ra }).Fits s:=⟨⟨show 0<=ra by have:=hokt.a0;omega,show ra<=18446744073709551615 by have:=hokt.a1;have:=hokt.l1;omega,hokt.r0,hokt.r1,hokt.l0,hokt.l1,hokt.p1,hokt.pa⟩,.inl ⟨t,htm,rfl⟩,by omega,(hW.v.va.ok.limL t htm).1,(hW.v.va.ok.limL t htm).2⟩
 have happ:(Item.lea { t with at_:=ra }).app s=⟨s.tn,s.ln,s.tks,s.lks.set i { t with at_:=ra }⟩:=by
  show VSt.mk s.tn (max s.ln t.n) s.tks (Yc { t with at_:=ra } s.lks)=_
  rw [hset,show max s.ln t.n=s.ln by have:=hW.v.nl t htm;omega]
 have hK:=fun W (hb:Below w.heap.size w W)=>Xnh k vx tm s c l f (.lea { t with at_:=ra }) W (hW.below hb) hl hl1 hf hf1 hc hfit
 rw [happ] at hK;have hkl:(keepLine tm [.lea { t with at_:=ra }]).length<=70000:=Jp hW.v.t0 hW.v.t1 (s:=s) ⟨hfit,trivial⟩ (by simp);generalize keepLine tm [.lea { t with at_:=ra }]=kl at *
 have hER:=fun W b (h0:BoxN W b 131 #[.int .i64 t.ak,.int .u64 (t.au:Int),.int .u64 ra,.int .i64 t.tr,.bool t.pd,.string ⟨t.pth.toArray⟩,.int .u64 t.last])=>Uq b 2 (t.n:Int) t.ak t.au ra t.tr t.pd t.pth t.last W (h0.cell 0 rfl) (h0.cell 1 rfl) (h0.cell 2 rfl) (h0.cell 3 rfl) (h0.cell 4 rfl) (h0.cell 5 rfl) (h0.cell 6 rfl)
 change ∀ W,Below w.heap.size w W->Calls prog 66 _ (W.alloc (.cells #[.int .i64 1,.int .i64 2,.int .u64 (t.n:Int),.int .i64 t.ak,.int .u64 (t.au:Int),.bool t.pd,.int .u64 ra,.int .i64 t.tr,.int .u64 t.last,.string ⟨t.pth.toArray⟩] 135)) _ at hK
 unfold Xi at hER
 have hsame:ra=t.at_->s.lks.set i { t with at_:=ra } = s.lks:=fun e=>by
  have hk:i<s.lks.length:=(List.getElem?_eq_some_iff.1 ht).1;have hke:s.lks[i]=t:=(List.getElem?_eq_some_iff.1 ht).2;rw [show ({ t with at_:=ra }:Xc)=s.lks[i] by rw [hke,e]];exact List.set_getElem_self hk
 have Hsame:=Xb hsame
 obtain⟨lks',hlks⟩:∃ lks',s.lks.set i { t with at_:=ra } = lks':=⟨_,rfl⟩
 rw [hlks] at hK Hsame ⊢;obtain⟨tn_,ak,au,at_,tr,pd,pth,last⟩:=t;simp only at *;generalize plusI tm ttl=p at *;have HW:=Xb hW;clear hset hfit happ hra hsame hlks ht htm hokt hp hlv hW
 have hB0:∀ w1,Below w.heap.size w w1->∀ w2,Below (w1.alloc (.cells #[.int .i64 2,.int .u64 (tn_:Int)] 114)).heap.size (w1.alloc (.cells #[.int .i64 2,.int .u64 (tn_:Int)] 114)) w2->Below w.heap.size w w2:=fun w1 hb1 w2 hb2=>(hb1.alloc hb1.size _).trans (hb2.mono (by have:=hb1.size;simp;omega))
 by_cases hle:min p last<=at_
 ·have hra':ra=at_:=by omega
  subst hra';rw [show lks'=s.lks from Xa Hsame rfl];clear hK hER Hsame hra2;go_enter func44,ntmps44
  go_wp2_with (first
   | (go_at_call 63;refine hP.mono ?_;rintro e w1 ⟨rfl,hb1⟩;have hF1:=hF _ (hb1.alloc hb1.size (.cells #[.int .i64 2,.int .u64 (tn_:Int)] 114)))
   | (go_at_call 71;refine hF1.mono ?_;rintro e w2 ⟨rfl,hb2⟩))
  have hb3:=hB0 w1 hb1 w2 hb2;have c2:=htime _ hb3;have lV2:k.vb<w2.heap.size:=Nat.lt_of_lt_of_le lV hb3.size;clear hF hF1 hP htime;have bL:=BoxN.new w2 131 #[.int .i64 ak,.int .u64 (au:Int),.int .u64 ra,.int .i64 tr,.bool pd,.string ⟨pth.toArray⟩,.int .u64 last]
  have hP1:RnP k.vb w2.heap.size tm last (w2.alloc (.cells #[.int .i64 ak,.int .u64 (au:Int),.int .u64 ra,.int .i64 tr,.bool pd,.string ⟨pth.toArray⟩,.int .u64 last] 131)).drew:=⟨cell_later (((Below.refl _ w2).alloc (Nat.le_refl _) _).drew) c2,bL.cell 6 rfl⟩
  go_region_held3 (RnP k.vb w2.heap.size tm last) (first
   | with_reducible exact hP1
   | with_reducible assumption) (first | (go_at_call 65;refine(hA _).mono ?_;rintro e w3 ⟨rfl,rfl⟩))
  clear hP1 bL c2;go_wp2;have hb4:=(hb3.alloc hb3.size (.cells #[.int .i64 ak,.int .u64 (au:Int),.int .u64 ra,.int .i64 tr,.bool pd,.string ⟨pth.toArray⟩,.int .u64 last] 131)).drew;exact bodyPost_ret (v:=.tuple #[.int .u64 ra,.nilIface]) (by simp [results,results44,go_sem]) rfl ⟨rfl,⟨c,l,f,by omega,by omega,by omega,by omega,by omega,(Xa HW).below hb4⟩,Spares.of_below hb4⟩
 have hra':ra=min p last:=by omega
 have hnle:¬ min p last<=at_:=hle;clear Hsame hra2 hle;go_enter func44,ntmps44
 go_wp2_with (first
  | (go_at_call 63;refine hP.mono ?_;rintro e w1 ⟨rfl,hb1⟩;have hF1:=hF _ (hb1.alloc hb1.size (.cells #[.int .i64 2,.int .u64 (tn_:Int)] 114)))
  | (go_at_call 71;refine hF1.mono ?_;rintro e w2 ⟨rfl,hb2⟩))
 have hb3:=hB0 w1 hb1 w2 hb2;have c2:=htime _ hb3;have lV2:k.vb<w2.heap.size:=Nat.lt_of_lt_of_le lV hb3.size;have bL:=BoxN.new w2 131 #[.int .i64 ak,.int .u64 (au:Int),.int .u64 at_,.int .i64 tr,.bool pd,.string ⟨pth.toArray⟩,.int .u64 last]
 have hP1:RnP k.vb w2.heap.size tm last (w2.alloc (.cells #[.int .i64 ak,.int .u64 (au:Int),.int .u64 at_,.int .i64 tr,.bool pd,.string ⟨pth.toArray⟩,.int .u64 last] 131)).drew:=⟨cell_later (((Below.refl _ w2).alloc (Nat.le_refl _) _).drew) c2,bL.cell 6 rfl⟩
 have bN2:=(BoxN.new w1 114 #[.int .i64 2,.int .u64 (tn_:Int)]).below hb2 (by simp);clear hF hF1 hP htime
 go_region_held3 (RnP k.vb w2.heap.size tm last) (first
  | with_reducible exact hP1
  | with_reducible assumption) (first | (go_at_call 65;refine(hA _).mono ?_;rintro e w3 ⟨rfl,rfl⟩))
 clear hP1 bL c2;rw [<- hra'] at hnle ⊢;have Hra:=Xb hra';clear hra';have lN:=bN2.lt;have n0:=bN2.cell 0 (v:=.int .i64 2) rfl;have n1:=bN2.cell 1 (v:=.int .u64 (tn_:Int)) rfl;have hb4:=(hb3.alloc hb3.size (.cells #[.int .i64 ak,.int .u64 (au:Int),.int .u64 ra,.int .i64 tr,.bool pd,.string ⟨pth.toArray⟩,.int .u64 last] 131)).drew;have bL4:BoxN (w2.alloc (.cells #[.int .i64 ak,.int .u64 (au:Int),.int .u64 ra,.int .i64 tr,.bool pd,.string ⟨pth.toArray⟩,.int .u64 last] 131)).drew w2.heap.size 131 #[.int .i64 ak,.int .u64 (au:Int),.int .u64 ra,.int .i64 tr,.bool pd,.string ⟨pth.toArray⟩,.int .u64 last]:=BoxN.new w2 131 #[.int .i64 ak,.int .u64 (au:Int),.int .u64 ra,.int .i64 tr,.bool pd,.string ⟨pth.toArray⟩,.int .u64 last]
 go_wp2_with (first
  | (go_at_call 67;refine(hER _ _ bL4).mono ?_;rintro e w5 ⟨rfl,hb5⟩;have hb6:Below w.heap.size w w5:=hb4.trans (hb5.mono hb4.size);have hK6:=hK w5 hb6)
  | (go_at_call 66;refine hK6.mono ?_;rintro e w7 ⟨rfl,hW7,hS7⟩))
 exact bodyPost_ret (v:=.tuple #[.int .u64 ra,.nilIface]) (by simp [results,results44,go_sem]) rfl ⟨rfl,⟨_,_,_,by rw [List.length_append];omega,Int.le_refl _,by omega,Int.le_refl _,by omega,hW7⟩,(Spares.of_below hb6).trans hS7⟩
theorem Tryz.Vf (k:Int) (hk:k=0\/Ml k) (W:World) (h:Ja W):Calls prog 43 #[Jf k] W fun e w'=>e=.returned (.int .i64 k)/\Below W.heap.size W w':=by
 rcases hk with rfl | hk
 ·exact Xbw W
 have hz:k≠0:=by rcases hk with rfl | rfl | rfl | rfl | rfl | rfl | rfl | rfl <;> decide
 rw [Vg hz];exact told k hk W h.1
theorem Spares.J2 {bs:List Nat} {W W':World} {base size n:Nat} {v:Value} {e:TypeId} {xs:List Value} (h:Spares bs W W') (hr:W.ownsRow base e size v n xs) (hn:∀ g,v.ownBlock=some g->g∉bs):W'.ownsRow base e size v n xs:=by
 obtain⟨h1,h2 | ⟨g,cap,cur,e1,e2,e3,e4⟩⟩:=hr
 ·exact⟨h1,.inl h2⟩
 subst e1;exact⟨h1,.inr ⟨g,cap,cur,rfl,e2,Spares.box (t:=e) (cs:=cur) h e3 (hn g rfl),e4⟩⟩
theorem Xm {W:World} {base size n:Nat} {v:Value} {e:TypeId} {xs:List Value} (hr:W.ownsRow base e size v n xs) {g:Nat} (hg:v.ownBlock=some g):base<=g/\∃ cur,BoxN W g e cur:=by
 obtain⟨h1,⟨e1,-⟩ | ⟨g',cap,cur,e1,e2,e3,e4⟩⟩:=hr
 ·subst e1;cases hg
 subst e1
 obtain rfl:g'=g:=by simpa [Value.ownBlock] using hg
 exact⟨e2,cur,e3⟩
def Tryz.foreign (t:TypeId):Bool:=t==108||t==105||t==69||t==72
def Tryz.X1 (W:World) (b:Nat):Prop:=9<=b/\∃ t cs,BoxN W b t cs/\foreign t=true
theorem Tryz.X1.ne {W:World} {b b':Nat} {t:TypeId} {cs:Array Value} (h:X1 W b) (hB:BoxN W b' t cs) (ht:foreign t=false):b'≠b:=by
 obtain⟨-,t',cs',h1,h2⟩:=h;exact hB.ne h1 (fun e=>by rw [e,h2] at ht;cases ht)
theorem Tryz.X1.ne_map {H:Type} {P:Program} {k:TypeId} {R:Value->Option (DataW H × List MemPlace)} {D:DataW H} {W:World} {b b' n:Nat} (h:X1 W b) (hm:W.ownsMap P k R b' n D):b'≠b:=by
 obtain⟨-,t',cs',h1,h2⟩:=h;exact BoxN.Xw h1 hm
structure SS where
 k:Blk
 vx:VX
 tm:Int
 s:VSt
 c:List UInt8
structure Tryz.Sys (B:Nat) (W:World) (hb rb:Nat) (σ:SS):Prop where
 host:BoxN W hb 78 #[.pointer (some ⟨σ.k.db,0,none⟩),.pointer (some ⟨rb,0,none⟩),.pointer (some ⟨σ.k.vb,0,none⟩)]
 wh:Tryz.Whole W σ.k σ.vx σ.tm σ.s σ.c (-1) (-1)
 err:Tryz.Ja W
 b9:9<=B
 hlow:B<=hb
 low:∀ b∈σ.k.turns,B<=b
 rvb:∃ a b,BoxN W rb 88 #[a,b]
 rlow:B<=rb
 vrv:σ.vx.rv=.iface 75 (.pointer (some ⟨rb,0,none⟩))
 vtk:σ.vx.tk=false
 due:W.ownsRow B 144 3 σ.vx.due 0 []
theorem Tryz.Whole.spared {W W':World} {k:Blk} {vx:VX} {tm:Int} {s:VSt} {c:List UInt8} {l f:Int} {bs:List Nat} (h:Whole W k vx tm s c l f) (hS:Spares bs W W') (h1:∀ b∈k.turns,b∉bs) (h2:k.jb∉bs) (h3:∀ b x,BoxN W b 9 #[x]->b∉bs) (h6:∀ b∈bs,6<=b):Whole W' k vx tm s c l f:=by
 obtain⟨fd,fn,hd,e1,e2⟩:=h.d;exact { h with v:=h.v.spared hS (h1 _ (by simp [Blk.turns])) (h1 _ (by simp [Blk.turns])) (h1 _ (by simp [Blk.turns])) h6,j:=hS.box h.j h2,d:=⟨fd,fn,hd.spared hS (h1 _ (by simp [Blk.turns])) (h1 _ (by simp [Blk.turns])) (h1 _ (by simp [Blk.turns])) (fun q hq=>h3 _ _ (hd.sd q hq)) (fun q hq=>h3 _ _ (hd.sn q hq)),e1,e2⟩ }
theorem Tryz.Whole.Xhl {W W':World} {k:Blk} {vx:VX} {tm:Int} {s:VSt} {c:List UInt8} {l f l' f':Int} (h:Whole W k vx tm s c l f) (hS:Spares [k.db] W W') (bD:BoxN W' k.db 100 #[.map (some k.md),.map (some k.mn),.slice none 0 0,.int .i64 l',.int .i64 f',.bool false]):Whole W' k vx tm s c l' f':=by
 obtain⟨fd,fn,hd,e1,e2⟩:=h.d;obtain⟨⟨a1,a2,a3⟩,a4,a5,a6,a7⟩:=h.nes;simp only [List.mem_cons,List.not_mem_nil,or_false,not_or,Blk.turns] at a1 a2 a3 a4;exact { h with v:=h.v.spared hS (by simpa using a1.1) (by simpa using a2.1) (by simpa using a3.1) (fun b hb=>by rw [List.mem_singleton.1 hb];have:=h.d9;omega),j:=hS.box h.j (by simpa using a4.2.2.2.1),d:=⟨fd,fn,hd.cells hS bD,e1,e2⟩ }
section
variable {B hb rb:Nat} {σ:SS} {W W':World}
theorem Tryz.Sys.nine (h:Sys B W hb rb σ):9<=W.heap.size:=h.wh.v.nine
theorem Tryz.Sys.other (h:Sys B W hb rb σ) {bs:List Nat} (hs:Spares bs W W') (hq:∀ b∈bs,X1 W b):Sys B W' hb rb σ:=by
 have hbx:∀ {b:Nat} {t:TypeId} {cs:Array Value},BoxN W b t cs->foreign t=false->b∉bs:=fun hB ht hm=>(hq _ hm).ne hB ht rfl
 obtain⟨fd,fn,hd,e1,e2⟩:=h.wh.d;obtain⟨n1,-,m1⟩:=h.wh.v.va.held.mapT;obtain⟨n2,-,m2⟩:=h.wh.v.va.held.mapL;obtain⟨n3,-,m3⟩:=hd.dm;obtain⟨n4,-,m4⟩:=hd.nm;obtain⟨ra,rc,hr⟩:=h.rvb
 have g9:∀ b∈bs,9<=b:=fun b hm=>(hq b hm).1
 have hB9:Below 9 W W':=hs.below h.nine g9;refine { h with host:=hs.box h.host (hbx h.host (by decide)),wh:=h.wh.spared hs (fun b hb=>?_) (hbx h.wh.j (by decide)) (fun b x hx=>hbx hx (by decide)) (fun b hb=>by have:=g9 b hb;omega),err:=h.err.below hB9,rvb:=⟨ra,rc,hs.box hr (hbx hr (by decide))⟩,due:=hs.J2 h.due (fun g hg=>?_) }
 ·simp only [Blk.turns,List.mem_cons,List.not_mem_nil,or_false] at hb
  rcases hb with rfl | rfl | rfl | rfl | rfl | rfl
  ·exact hbx h.wh.v.va.v (by decide)
  ·exact fun hm=>(hq _ hm).ne_map m1 rfl
  ·exact fun hm=>(hq _ hm).ne_map m2 rfl
  ·exact hbx hd.box (by decide)
  ·exact fun hm=>(hq _ hm).ne_map m3 rfl
  exact fun hm=>(hq _ hm).ne_map m4 rfl
 obtain⟨-,cur,hc⟩:=Xm h.due hg;exact hbx hc (by decide)
theorem Tryz.Sys.below (h:Sys B W hb rb σ) (hB:Below W.heap.size W W'):Sys B W' hb rb σ:=h.other (bs:=[]) (Spares.of_below hB) (by simp)
theorem Tryz.Sys.Xhm (h:Sys B W hb rb σ):∀ b∈σ.k.turns,¬ X1 W b:=fun b hb hF=>by
 obtain⟨fd,fn,hd,e1,e2⟩:=h.wh.d;obtain⟨n1,-,m1⟩:=h.wh.v.va.held.mapT;obtain⟨n2,-,m2⟩:=h.wh.v.va.held.mapL;obtain⟨n3,-,m3⟩:=hd.dm;obtain⟨n4,-,m4⟩:=hd.nm;simp only [Blk.turns,List.mem_cons,List.not_mem_nil,or_false] at hb
 rcases hb with rfl | rfl | rfl | rfl | rfl | rfl
 ·exact hF.ne h.wh.v.va.v (by decide) rfl
 ·exact hF.ne_map m1 rfl
 ·exact hF.ne_map m2 rfl
 ·exact hF.ne hd.box (by decide) rfl
 ·exact hF.ne_map m3 rfl
 exact hF.ne_map m4 rfl
theorem Tryz.Sys.Xfv (h:Sys B W hb rb σ):∀ b∈σ.k.turns,9<=b/\b≠hb/\b<W.heap.size:=fun b hbt=>by
 refine⟨h.wh.Xwd b hbt,?_,h.wh.lts b hbt⟩;obtain⟨fd,fn,hd,e1,e2⟩:=h.wh.d;obtain⟨n1,-,m1⟩:=h.wh.v.va.held.mapT;obtain⟨n2,-,m2⟩:=h.wh.v.va.held.mapL;obtain⟨n3,-,m3⟩:=hd.dm;obtain⟨n4,-,m4⟩:=hd.nm;simp only [Blk.turns,List.mem_cons,List.not_mem_nil,or_false] at hbt
 rcases hbt with rfl | rfl | rfl | rfl | rfl | rfl
 ·exact h.wh.v.va.v.ne h.host (by decide)
 ·exact BoxN.Xw h.host m1
 ·exact BoxN.Xw h.host m2
 ·exact hd.box.ne h.host (by decide)
 ·exact BoxN.Xw h.host m3
 exact BoxN.Xw h.host m4
end
def Tryz.Z8 (B:Nat) (W W':World):Prop:=∃ hs,Spares hs W W'/\∀ b∈hs,B<=b/\¬ X1 W b
theorem Tryz.Sys.sp {B hb rb:Nat} {σ:SS} {W W':World} (h:Sys B W hb rb σ) (hs:Spares σ.k.turns W W'):Z8 B W W':=⟨_,hs,fun b hb=>⟨h.low b hb,h.Xhm b hb⟩⟩
structure Tryz.Xf5 (P:World->Prop):Prop where
 other:∀ {W W':World} {bs:List Nat},P W->Spares bs W W'->(∀ b∈bs,Tryz.X1 W b)->P W'
theorem Tryz.Xf5.below {P:World->Prop} (h:Xf5 P) {W W':World} (hp:P W) (hb:Below W.heap.size W W'):P W':=h.other (bs:=[]) hp (Spares.of_below hb) (by simp)
theorem Tryz.Y9 (B hb rb:Nat) (σ:SS):Xf5 (fun W=>Sys B W hb rb σ):=⟨fun h hs hq=>Sys.other h hs hq⟩
theorem Tryz.J1 (B hb rb:Nat) (Q:SS->Prop):Xf5 (fun W=>∃ σ,Q σ/\Sys B W hb rb σ):=⟨fun⟨σ,hQ,h⟩ hs hq=>⟨σ,hQ,Sys.other h hs hq⟩⟩
end Go.Proofs
namespace Go.Proofs
open Go.RowKit Go.Sort Go.Lib Go.Shelf Go.Maps Go.WideMaps
theorem Tryz.Xjx (B rb:Nat) (v:Value) (n:Nat) (xs:List Value) (f:Int) (hf0:0<=f) (hf1:f<=18446744073709551615) (id:List UInt8) (w:World) (hR:BoxN w rb 88 #[v,.int .u64 f]) (hrow:w.ownsRow B 9 1 v n xs) (hB:B<=w.heap.size) (hn:n<=1000) :
  Calls prog 331 #[.pointer (some ⟨rb,0,none⟩),.string ⟨id.toArray⟩] w fun e w'=>e=.returned (.bool (!(f % 2==1)))/\∃ g cap,BoxN w' rb 88 #[.slice (some ⟨g,0,none⟩) (n+1) cap,.int .u64 (f / 2)]/\w'.ownsRow B 9 1 (.slice (some ⟨g,0,none⟩) (n+1) cap) (n+1) (xs ++ [.string ⟨id.toArray⟩])/\rb≠g/\(v.ownBlock=some g\/w.heap.size<=g)/\Spares (rb :: v.ownBlock.toList) w w':=by
 obtain⟨i0,hi,hz0,hz1,hz2⟩:=info_parts Xb6;have hnr:=hR.not_row (e:=9) (by decide) hrow;have lv:=hR.lt;have c0:=hR.cell 0 (v:=v) rfl;have ca:=(hR.alloc (.cells #[.string ⟨id.toArray⟩] 9)).cell 0 (v:=v) rfl;have bS:=BoxN.new w 9 #[.string ⟨id.toArray⟩];have hand:=and_one_u64 f hf0 hf1;clear hf0 hf1;go_enter func331,ntmps331
 go_wp2_with (at_builtin;refine wpList_append_lies _ rfl _ _ 40 rfl B 9 i0 _ 1 16 underlying40 hi hz0 hz1 hz2 rfl (by decide) _ _ _ rfl (hrow.alloc _) ⟨w.heap.size,0,none⟩ 1 1 [.string ⟨id.toArray⟩] rfl rfl (World.news_of_block bS) (by simp [Value.oneCell']) (by omega) (by unfold maxLen;omega) (by omega) (by simp;omega) _ rfl ?_;intro g cap w1 hown hgrow hat hlt;have hR1:=(hR.alloc (.cells #[.string ⟨id.toArray⟩] 9)).kept hgrow hnr;have d0:=hR1.cell 0 (v:=v) rfl;have d1:=hR1.cell 1 (v:=.int .u64 f) rfl;have fz0:=hR1.frozen 0;have fz1:=hR1.frozen 1)
 have hg1:(w.alloc (.cells #[.string ⟨id.toArray⟩] 9)).grownBy w1 v.ownBlock:=hgrow;have hat1:v.ownBlock=some g\/g=(w.alloc (.cells #[.string ⟨id.toArray⟩] 9)).heap.size:=hat;clear hgrow hat;rw [World.size_alloc] at hat1
 have hrg:rb≠g:=by
  rcases hat1 with e | e
  ·exact fun e'=>hnr (by rw [e,e'])
  omega
 have hwg:v.ownBlock=some g\/w.heap.size<=g:=by
  rcases hat1 with e | e
  ·exact .inl e
  exact .inr (by omega)
 have hS:Spares (rb :: v.ownBlock.toList) w w1:=((Spares.of_below (Below.refl _ w)).alloc _).trans (Spares.Xaw hg1 (fun b hb=>by rw [hb];simp));go_ret;exact⟨rfl,g,cap,(hR1.set 0 (.slice (some ⟨g,0,none⟩) (n+1) cap)).set 1 (.int .u64 (f / 2)),(hown.kept (Vw w1 rb 0 (.slice (some ⟨g,0,none⟩) (n+1) cap)) (.inr (by simp [Value.ownBlock];exact fun e=>hrg e.symm))).kept (Vw _ rb 1 (.int .u64 (f / 2))) (.inr (by simp [Value.ownBlock];exact fun e=>hrg e.symm)),hrg,hwg,(hS.set (by simp) _ _).set (by simp) _ _⟩
end Go.Proofs
