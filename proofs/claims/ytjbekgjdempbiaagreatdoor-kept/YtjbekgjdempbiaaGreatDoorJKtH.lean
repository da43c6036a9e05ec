import Derived.Test.YtjbekgjdempbiaaGreatDoorJLawT
import Derived.Test.YtjbekgjdempbiaaGreatDoorJKtG
set_option maxRecDepth 100000
set_option maxHeartbeats 8000000
namespace Go.Proofs
open Go.RowKit Go.Sort Go.Lib Go.Shelf Go.Maps Go.WideMaps
def Xiu (j:Nat):Int:=2 ^ (63-j)
theorem Xn4 {j:Nat} (h:j<62):Xiu j / 2=Xiu (j+1)/\(Xiu j % 2==1)=false:=by
 unfold Xiu;rw [show 63-j=(63-(j+1))+1 by omega,Int.pow_succ];generalize (2:Int) ^ (63-(j+1))=x
 constructor
 ·omega
 simp
theorem Tryz.Xvu {B wb hb rb ra g cap N tn ln nt nl:Nat} {k:Blk} {vx:VX} {tm:Int} {b a0:TS} {L:List ThingD} {v:Value} (w:World) (b9:9<=B) (hBw:B<=w.heap.size) (hbw:B<=wb) (hra:B<=ra) (hS:Sys B w hb rb ⟨k,vx,tm,b.s,b.c⟩) (hrow:w.ownsRow B 9 1 v b.cl.length (b.cl.map fun p=>.string ⟨(nmStr p.1 p.2).toArray⟩)) (hR:Xk B w ra g cap L tm ((tn+1:Nat):Int) ((ln+1:Nat):Int)) (bW:BoxN w wb 69 #[.pointer (some ⟨hb,0,none⟩),.pointer (some ⟨ra,0,none⟩),.pointer none,.bool false,.bool false])
  (hT:Tk tm ((48*N:Nat):Int) b a0 L []) (hfl:a0.fl=Xiu 0) (hcl:a0.cl.length=0) (h48:b.cl.length<=48) (hs0:a0.s.tn=tn/\a0.s.ln=ln/\a0.s.tks.length<=nt/\a0.s.lks.length<=nl) :
  Calls prog 103 #[.pointer (some ⟨wb,0,none⟩),v] w fun e w'=>e=.returned (.bool true)/\∃ g' cap' L' xs,Sys B w' hb rb ⟨k,vx,tm,b.s,b.c⟩/\Xk B w' ra g' cap' L' tm ((tn+1:Nat):Int) ((ln+1:Nat):Int)/\BoxN w' wb 69 #[.pointer (some ⟨hb,0,none⟩),.pointer (some ⟨ra,0,none⟩),.pointer none,.bool false,.bool false]/\Tk tm ((48*N:Nat):Int) b b L' xs/\(b.s.tn=tn/\b.s.ln=ln/\b.s.tks.length<=nt/\b.s.lks.length<=nl)/\Below B w w':=by
 obtain⟨p,ccap,rfl,hcs⟩:=Up (xs:=b.cl.map fun p=>nmStr p.1 p.2) (by rw [List.map_map];exact hrow) (by simp)
 obtain⟨n,hnn⟩:∃ n,b.cl.length=n:=⟨_,rfl⟩
 rw [List.length_map,hnn];rw [List.length_map,hnn] at hrow;rw [hnn] at h48;have Hnn:=Xb hnn;have Hrow:=Xb hrow;have HS:=Xb hS;have HT0:=Xb hT;have Hs0:=Xb hs0;have Hf0:=Xb hfl
 have hpl:∀ q,p=some ⟨q,0,none⟩->q<w.heap.size:=fun q e=>by
  obtain⟨-,cs,hc⟩:=Xm hrow (g:=q) (by rw [e];rfl);exact hc.lt
 have lra:=hR.v.lt;have lgg:=hR.glt;clear hnn hcs hS hT hs0 hfl hrow;go_enter func103,ntmps103;go_wp2
 go_loopw [5,6] (fun tv iv wr=>∃(j:Nat) (a:TS) (L':List ThingD) (xs:List (List UInt8)) (g' cap':Nat),j<=n/\iv=.int .i64 j/\a.cl.length=j/\Hid (a.fl=Xiu j)/\Hid (Tk tm ((48*N:Nat):Int) b a L' xs)/\wr.ownsRow w.heap.size 9 1 tv j (xs.map fun x=>.string ⟨x.toArray⟩)/\Xk B wr ra g' cap' L' tm ((tn+1:Nat):Int) ((ln+1:Nat):Int)/\(g'=g\/w.heap.size<=g')/\BoxN wr wb 69 #[.pointer (some ⟨hb,0,none⟩),.pointer (some ⟨ra,0,none⟩),.pointer none,.bool false,.bool false]/\Spares [ra,g] w wr/\Hid (a.s.tn=tn/\a.s.ln=ln/\a.s.tks.length<=nt/\a.s.lks.length<=nl)) (fun _ iv _=>n-(intOf iv).toNat)
 case atStart=>exact⟨0,a0,L,[],g,cap,Nat.zero_le _,rfl,hcl,Hf0,HT0,World.ownsRow_nil _ _ _ _,hR,.inl rfl,bW,Spares.of_below (Below.refl _ _),Hs0⟩
 case round =>
  obtain⟨j,a,L',xs,g',cap',hj,rfl,haj,Hfl,HT,hrow,hRr,hg',bWr,hspr,Hs⟩:=hrel;have hxl:xs.length=j:=(Xa HT).len.trans haj;have hDu:=rDue B ra g' cap' L' tm _ _ xs u5 wr hRr (Up hrow hxl) (by omega);have c1:=bWr.cell 1 (v:=.pointer (some ⟨ra,0,none⟩)) rfl
  by_cases hjn:j<n
  ·obtain⟨c,i,th,kd,nm,hi,hdue,hcn,hid,hi0,⟨hm,ht0,ht1⟩,hcf,hccl,hcs,hbr⟩:=(Xa HT).step (by have:=Xa Hnn;omega)
   rw [hdue] at hDu;simp only [Xi0] at hDu;have hil:i<L'.length:=(List.getElem?_eq_some_iff.1 hi).1;have hlim:=hRr.lim
   have hrc:∃ q,p=some ⟨q,0,none⟩/\q<wr.heap.size/\wr.cell? ⟨q,j,none⟩=some (.string ⟨th.id.toArray⟩):=by
    have hr:=hspr.J2 (Xa Hrow) (fun g'' e=>by
     obtain⟨-,cs,hc⟩:=Xm (Xa Hrow) (g:=g'') e;obtain⟨cc,hg2⟩:=hR.Xbn;simp only [List.mem_cons,List.not_mem_nil,or_false,not_or]
     exact⟨hc.ne hR.v (by decide),hc.ne hg2 (by decide)⟩)
    obtain⟨p2,cap2,e2,h2⟩:=Up (xs:=b.cl.map fun p=>nmStr p.1 p.2) (by rw [List.map_map];exact hr) (by rw [List.length_map];exact Xa Hnn);cases e2;have:=h2 j (nmStr kd nm) (by rw [List.getElem?_map,<- haj,hcn];rfl);rw [<- hid] at this;exact this
   obtain⟨q,rfl,hq,hqc⟩:=hrc;have hnum:=hRr.num th hm
   have hId:=fun W=>rId th hnum W
   obtain⟨len,hlen⟩:∃ len,L'.length=len:=⟨_,rfl⟩
   have Hlen:=Xb hlen;rw [hlen] at hil hlim;clear hlen;obtain⟨hf2,hodd⟩:=Xn4 (j:=j) (by omega)
   have hTc:Hid (Tk tm ((48*N:Nat):Int) b c (L'.eraseIdx i) (xs ++ [th.id])):=Xb (by
    rcases hbr with⟨e1,-⟩ | ⟨-,h2⟩
    ·rw [Xa Hfl,hodd] at e1;cases e1
    exact h2)
   have Hfc:Hid (c.fl=Xiu (j+1)):=Xb (by rw [hcf,Xa Hfl,hf2]);have Hcs:=Xb hcs;have Hi:=Xb hi;simp only [ThingD.cells] at hId;clear hbr hcs hm hdue hid hcn hcf hf2 hodd
   obtain⟨idv,hidv⟩:∃ idv,th.id=idv:=⟨_,rfl⟩
   rw [hidv] at hqc;have Hidv:=Xb hidv;simp only [hidv] at hId;clear hidv;have bWl:=bWr.lt;have lra':=hRr.v.lt;have lgr:=hRr.glt
   have hj63:((j:Int) != 63)=true:=by simp;omega
   obtain⟨i0,hi',hz0,hz1,hz2⟩:=info_parts Xb6
   have hrl:∀ x,u5.ownBlock=some x->w.heap.size<=x/\x<wr.heap.size:=fun x e=>by obtain⟨h1,cs,hc⟩:=Xm hrow (g:=x) e;exact⟨h1,hc.lt⟩
   go_wp2_with (first
    | (go_at_call 104;refine hDu.mono ?_;rintro e w4 ⟨rfl,hb4⟩;have bW4:=bWr.below hb4 bWr.lt;have hR4:=hRr.below hb4;have d1:=bW4.cell 1 (v:=.pointer (some ⟨ra,0,none⟩)) rfl;have e0:=hR4.v.cell 0 (v:=.slice (some ⟨g',0,none⟩) len cap') (by rw [<- Xa Hlen];rfl);obtain⟨x0,x1,x2,x3,x4,x5,x6,x7⟩:=hR4.cells (Xa Hi);have qc4:=(hb4.cell (p:=⟨q,j,none⟩) hq).trans hqc)
    | (go_at_call 105;refine(hId _).mono ?_;rintro e w5 ⟨rfl,hb5⟩;have bW5:=bW4.below hb5 bW4.lt;have hR5:=hR4.below hb5;have qc5:=(hb5.cell (p:=⟨q,j,none⟩) (Nat.lt_of_lt_of_le hq hb4.size)).trans qc4;have d15:=bW5.cell 1 (v:=.pointer (some ⟨ra,0,none⟩)) rfl;have hrow5:=ownsRow_below (ownsRow_below hrow hb4) hb5;have bS5:=BoxN.new w5 9 #[.string ⟨idv.toArray⟩];have hsz5:=hb5.size)
    | (at_builtin;refine wpList_append_lies _ rfl _ _ 40 rfl w.heap.size 9 i0 _ 1 16 underlying40 hi' hz0 hz1 hz2 rfl (by decide) u5 j _ rfl (hrow5.alloc _) ⟨w5.heap.size,0,none⟩ 1 1 [.string ⟨idv.toArray⟩] rfl rfl (World.news_of_block bS5) (by simp [Value.oneCell']) (by omega) (by unfold maxLen;omega) (by omega) (by have:=hspr.size;have:=hb4.size;simp;omega) _ rfl ?_;intro g8 cap8 w8 hown hgrow hat hlt;have sp8:Spares u5.ownBlock.toList w5 w8:=((Spares.of_below (Below.refl _ w5)).alloc _).trans (Spares.Vz hgrow (fun r e=>by rw [e];simp));have hR8:=hR5.Zz sp8 (fun hm=>by obtain⟨-,cs,hc⟩:=Xm hrow5 (g:=ra) (by simpa using hm);exact hc.ne hR5.v (by decide) rfl) (fun hm=>by obtain⟨-,cs,hc⟩:=Xm hrow5 (g:=g') (by simpa using hm);obtain⟨cc,hg2⟩:=hR5.Xbn;exact hc.ne hg2 (by decide) rfl);have bW8:=sp8.box bW5 (fun hm=>by obtain⟨-,cs,hc⟩:=Xm hrow5 (g:=wb) (by simpa using hm);exact hc.ne bW5 (by decide) rfl);have d18:=bW8.cell 1 (v:=.pointer (some ⟨ra,0,none⟩)) rfl;have l8:=sp8.size;have Hown:=Xb hown;have hlt8:=hlt;clear hown hgrow hat hlt)
    | (go_at_call 107;refine(Xgk B ra g' cap' L' tm _ _ w8 hR8 (by have:=hspr.size;have:=hb4.size;omega) hra i hi0 (by rw [Xa Hlen];exact hil)).mono ?_;rintro e w9 ⟨g7,cap7,rfl,hR9,hge9,hb9,hsp9⟩))
   go_roundw
   case rel =>
    have hw4:=hb4.size;have hwr:=hspr.size;obtain⟨-,cs8,hc8⟩:=Xm (Xa Hown) (g:=g8) rfl;obtain⟨cc8,hgb8⟩:=hR8.Xbn
    have hrow9:=hsp9.J2 (Xa Hown) (fun x hx hm=>by
     obtain rfl:g8=x:=by simpa [Value.ownBlock] using hx
     simp only [List.mem_cons,List.not_mem_nil,or_false] at hm
     rcases hm with e | e
     ·exact hc8.ne hR8.v (by decide) e
     exact hc8.ne hgb8 (by decide) e)
    have bW9:=hsp9.box bW8 (fun hm=>by
     simp only [List.mem_cons,List.not_mem_nil,or_false] at hm
     rcases hm with e | e
     ·exact bW8.ne hR8.v (by decide) e
     exact bW8.ne hgb8 (by decide) e)
    have hsp:Spares [ra,g] w w9:=(((hspr.trans (Spares.of_below hb4)).trans (Spares.of_below hb5)).Xnw sp8 (fun x hx=>.inr (hrl x (by simpa using hx)).1)).Xnw hsp9 (fun x hx=>by
     simp only [List.mem_cons,List.not_mem_nil,or_false] at hx ⊢
     rcases hx with rfl | rfl
     ·exact .inl (.inl rfl)
     rcases hg' with e | e
     ·exact .inl (.inr e)
     exact .inr e)
    obtain⟨y1,y2,y3,y4⟩:=Xa Hs;obtain⟨v1,v2,v3,v4⟩:=Xa Hcs;exact⟨j+1,c,_,_,g7,cap7,hjn,rfl,by omega,Hfc,hTc,by rw [List.map_append,List.map_cons,List.map_nil,Xa Hidv];exact hrow9,hR9,.inr (by omega),bW9,hsp,Xb ⟨v1.trans y1,v2.trans y2,by omega,by omega⟩⟩
   case measure=>simp [intOf];omega
  obtain⟨hab,hdn⟩:=(Xa HT).stop (by have:=Xa Hnn;omega);rw [hdn] at hDu;simp only [Xi0] at hDu;rw [hab] at HT Hs;clear hab;obtain⟨f1,f2⟩:=hR.foreign b9 (by omega)
  have hSr:Sys B wr hb rb ⟨k,vx,tm,b.s,b.c⟩:=(Y9 B hb rb _).other (Xa HS) hspr (fun x hx=>by
   simp only [List.mem_cons,List.not_mem_nil,or_false] at hx
   rcases hx with rfl | rfl
   ·exact f1
   exact f2)
  have hlk:=fun W (hb4:Below wr.heap.size wr W)=>looks B wb hb ra g' cap' k.vb k.mt k.ml vx tm b.s.tn b.s.ln _ _ b.s.tks b.s.lks L' _ _ _ _ _ _ W (bWr.below hb4 bWr.lt) (hSr.below hb4).host (hSr.below hb4).wh.v.va (hRr.below hb4) (Xa HT).inv.rel
  go_wp2_with (first
   | (go_at_call 104;refine hDu.mono ?_;rintro e w4 ⟨rfl,hb4⟩;have c14:=(bWr.below hb4 bWr.lt).cell 1 (v:=.pointer (some ⟨ra,0,none⟩)) rfl)
   | (go_at_call 38;refine(hlk _ hb4).mono ?_;rintro e w5 ⟨rfl,hb5⟩))
  go_ret;have hb45:=hb4.trans (hb5.mono hb4.size)
  exact⟨rfl,g',cap',L',xs,hSr.below hb45,hRr.below hb45,bWr.below hb45 bWr.lt,Xa HT,Xa Hs,(hspr.below hBw (fun x hx=>by
   simp only [List.mem_cons,List.not_mem_nil,or_false] at hx;have:=hR.Xpf
   rcases hx with rfl | rfl <;> omega)).trans (hb45.mono (Nat.le_trans hBw hspr.size))⟩
end Go.Proofs
