import Derived.Test.YtjbekgjdempbiaaGreatDoorJValid
import Derived.Test.YtjbekgjdempbiaaGreatDoorJSets
import Derived.Deep.QuietTactic
import Derived.BigGuard
import Derived.BigCall
import Derived.BigQuiet
import Derived.Maps.RangeWalk
import Derived.Test.YtjbekgjdempbiaaGreatDoorJGlob
import Derived.StringKeys
import Derived.Test.YtjbekgjdempbiaaGreatDoorJCDiskB
import Derived.ChangeKeysEq
set_option maxRecDepth 100000
set_option maxHeartbeats 8000000
namespace Go.Proofs
open Go.RowKit Go.Sort Go.Maps Go.WideMaps
theorem Tryz.Xdx (a b:Int) (w:World):Calls prog 260 #[.int .u64 a,.int .u64 b] w fun e w'=>e=.returned (.bool (decide (a<b)))/\w'=w:=by
 have hN:=fun W=>Xe6 a W
 go_enter func260,ntmps260
 go_wp2_with (go_at_call 276;refine(hN _).mono ?_;rintro e w1 ⟨rfl,rfl⟩)
 go_ret;exact⟨rfl,rfl⟩
def Ji (W:World) (g:Nat) (x y:Value):Prop:=(W.cell? ⟨g,0,none⟩=some x/\W.cell? ⟨g,1,none⟩=some y)\/(W.cell? ⟨g,0,none⟩=some y/\W.cell? ⟨g,1,none⟩=some x)
structure Two (w W:World) (g:Nat) (x y a b:Value):Prop where
 or:(a=x/\b=y)\/(a=y/\b=x)
 c0:W.cell? ⟨g,0,none⟩=some a
 c1:W.cell? ⟨g,1,none⟩=some b
 f0:W.frozen? ⟨g,0,none⟩=false
 f1:W.frozen? ⟨g,1,none⟩=false
 sp:Spares [g] w W
theorem Two.at {w W:World} {g:Nat} {x y a b:Value} (h:Two w W g x y a b):Ji W g x y:=by
 rcases h.or with⟨rfl,rfl⟩ | ⟨rfl,rfl⟩
 ·exact .inl ⟨h.c0,h.c1⟩
 exact .inr ⟨h.c0,h.c1⟩
theorem Two.drewN {w W:World} {g:Nat} {x y a b:Value} (h:Two w W g x y a b) (q:Nat):Two w (W.drewN q) g x y a b:=⟨h.or,h.c0,h.c1,h.f0,h.f1,⟨h.sp.os,h.sp.tape,h.sp.output,h.sp.size,h.sp.block⟩⟩
theorem Two.turn {w W:World} {g:Nat} {x y a b:Value} (h:Two w W g x y a b):Two w ((W.setCell ⟨g,1,none⟩ a).setCell ⟨g,0,none⟩ b) g x y b a:=by
 refine⟨?_,?_,?_,?_,?_,(h.sp.set (by simp) _ _).set (by simp) _ _⟩
 ·rcases h.or with⟨rfl,rfl⟩ | ⟨rfl,rfl⟩
  ·exact .inr ⟨rfl,rfl⟩
  exact .inl ⟨rfl,rfl⟩
 ·exact World.cell?_setCell_same _ _ _ ((World.cell?_setCell_other _ _ _ _ (by simp)).trans h.c0)
 ·exact(World.cell?_setCell_other _ _ _ _ (by simp)).trans (World.cell?_setCell_same _ _ _ h.c1)
 ·rw [World.frozen?_setCell,World.frozen?_setCell];exact h.f0
 rw [World.frozen?_setCell,World.frozen?_setCell];exact h.f1
theorem Tryz.Xgm (g cap:Nat) (x y:Int) (w:World) (h0:Two w w g (.int .u64 x) (.int .u64 y) (.int .u64 x) (.int .u64 y)) :
  Calls prog 254 #[.slice (some ⟨g,0,none⟩) 2 cap,.int .i64 0,.int .i64 2] w fun e w'=>e=.returned (.tuple #[])/\Ji w' g (.int .u64 x) (.int .u64 y)/\Spares [g] w w':=by
 have hL:=fun a b W=>Xdx a b W
 have hw0:IntKind.i64.wrap 0=0:=rfl;have H0:=Xb h0;clear h0;go_enter func254,ntmps254;go_wp2
 go_loopw [6] (fun i wr=>(i=.int .i64 1\/i=.int .i64 2)/\∃ a b,Hid (Two w wr g (.int .u64 x) (.int .u64 y) (.int .u64 a) (.int .u64 b))) (fun i _=>2-(intOf i).toNat)
 case atStart=>exact⟨.inl rfl,x,y,H0⟩
 case round =>
  obtain⟨hi,a,b,hT⟩:=hrel
  rcases hi with rfl | rfl
  ·go_wp2
   go_loopw [7] (fun vj wr=>(∃ j:Int,vj=.int .i64 j/\0<=j/\j<=1)/\∃ a b,Hid (Two w wr g (.int .u64 x) (.int .u64 y) (.int .u64 a) (.int .u64 b))) (fun vj _=>(intOf vj).toNat)
   case atStart=>exact⟨⟨1,rfl,by omega,by omega⟩,a,b,hT⟩
   case round =>
    obtain⟨hj,a,b,hT⟩:=hrel;have c0:=(Xa hT).c0;have c1:=(Xa hT).c1;have f0:=(Xa hT).f0;have f1:=(Xa hT).f1;obtain⟨j,rfl,hj0,hj1⟩:=hj
    by_cases hjp:0<j
    ·obtain rfl:j=1:=by omega
     go_wp2_with fail
     go_quiet (first | (go_at_call 260;refine Calls.quiet_of_same (Xdx _ _ _)));clear hL hw0;go_wp2
     ·go_region
      all_goals go_wp2
      exact⟨⟨⟨0,rfl,by omega,by omega⟩,b,a,Xb ((Xa hT).drewN _).turn⟩,by simp [intOf]⟩
     exact⟨⟨.inr rfl,a,b,Xb ((Xa hT).drewN _)⟩,by simp [intOf]⟩
    have e0:decide (0<j)=false:=by simp;omega
    go_wp2_with fail
    go_quiet (first | (go_at_call 260;refine Calls.quiet_of_same (Xdx _ _ _)));clear e0 c0 c1 f0 f1 hL hw0;go_wp2;exact⟨⟨.inr rfl,a,b,Xb ((Xa hT).drewN _)⟩,by simp [intOf]⟩
  go_wp2
  go_end0
  exact⟨rfl,(Xa hT).at,(Xa hT).sp⟩
theorem Tryz.Xgw (g cap:Nat) (x y:Int) (lim:Int) (w:World) (h0:Two w w g (.int .u64 x) (.int .u64 y) (.int .u64 x) (.int .u64 y)) :
  Calls prog 232 #[.slice (some ⟨g,0,none⟩) 2 cap,.int .i64 0,.int .i64 2,.int .i64 lim] w fun e w'=>e=.returned (.tuple #[])/\Ji w' g (.int .u64 x) (.int .u64 y)/\Spares [g] w w':=by
 have hI:=Xgm g cap x y w h0;go_enter func232,ntmps232;go_wp2;refine wp_loop_rounds 1 ?_;rw [rounds_succ]
 go_wp2_with (go_at_call 254;refine hI.mono ?_;rintro e w1 ⟨rfl,hT⟩)
 exact bodyPost_ret (v:=.tuple #[]) (by simp [results,results232,go_sem]) rfl ⟨rfl,hT⟩
theorem Tryz.Xfw (w:World):Calls prog 226 #[.int .u64 2] w fun e w'=>(∃ z:Int,e=.returned (.int .i64 z))/\w'=w:=by
 go_enter func226,ntmps226;go_wp2;go_ret;exact⟨⟨_,rfl⟩,rfl⟩
theorem Tryz.Xe4 (g cap:Nat) (x y:Int) (w:World) (h0:Two w w g (.int .u64 x) (.int .u64 y) (.int .u64 x) (.int .u64 y)) :
  Calls prog 211 #[.slice (some ⟨g,0,none⟩) 2 cap] w fun e w'=>e=.returned (.tuple #[])/\Ji w' g (.int .u64 x) (.int .u64 y)/\Spares [g] w w':=by
 have hL:=fun W=>Xfw W
 have hI:=fun lim=>Xgw g cap x y lim w h0
 go_enter func211,ntmps211
 go_wp2_with (first
  | (go_at_call 226;refine(hL _).mono ?_;rintro e w1 ⟨⟨z,rfl⟩,rfl⟩)
  | (go_at_call 232;refine(hI _).mono ?_;rintro e w2 ⟨rfl,hT⟩))
 go_end0
 exact⟨rfl,hT⟩
theorem Tryz.Xle (a:ByteArray) (w:World):Calls prog 329 #[.string a] w fun e w'=>e=.returned (.bool false)/\w'=w:=by
 go_enter func329,ntmps329;go_wp2;go_ret;exact⟨rfl,rfl⟩
theorem Tryz.Xns (a b:ByteArray):∃ z:Bool,∀ w:World,Calls prog 323 #[.string a,.string b] w fun e w'=>e=.returned (.bool z)/\w'=w:=by
 have hN:=fun W=>Xle a W
 apply Exists.intro;intro w;go_enter func323,ntmps323
 go_wp2_with (go_at_call 329;refine(hN _).mono ?_;rintro e w1 ⟨rfl,rfl⟩)
 go_ret;exact⟨rfl,rfl⟩
theorem Tryz.Xgo (g cap:Nat) (x y:ByteArray) (w:World) (h0:Two w w g (.string x) (.string y) (.string x) (.string y)) :
  Calls prog 317 #[.slice (some ⟨g,0,none⟩) 2 cap,.int .i64 0,.int .i64 2] w fun e w'=>e=.returned (.tuple #[])/\Ji w' g (.string x) (.string y)/\Spares [g] w w':=by
 have hw0:IntKind.i64.wrap 0=0:=rfl;have H0:=Xb h0;clear h0;go_enter func317,ntmps317;go_wp2
 go_loopw [6] (fun i wr=>(i=.int .i64 1\/i=.int .i64 2)/\∃ a b,Hid (Two w wr g (.string x) (.string y) (.string a) (.string b))) (fun i _=>2-(intOf i).toNat)
 case atStart=>exact⟨.inl rfl,x,y,H0⟩
 case round =>
  obtain⟨hi,a,b,hT⟩:=hrel
  rcases hi with rfl | rfl
  ·go_wp2
   go_loopw [7] (fun vj wr=>(∃ j:Int,vj=.int .i64 j/\0<=j/\j<=1)/\∃ a b,Hid (Two w wr g (.string x) (.string y) (.string a) (.string b))) (fun vj _=>(intOf vj).toNat)
   case atStart=>exact⟨⟨1,rfl,by omega,by omega⟩,a,b,hT⟩
   case round =>
    obtain⟨hj,a,b,hT⟩:=hrel;have c0:=(Xa hT).c0;have c1:=(Xa hT).c1;have f0:=(Xa hT).f0;have f1:=(Xa hT).f1;obtain⟨j,rfl,hj0,hj1⟩:=hj
    by_cases hjp:0<j
    ·obtain rfl:j=1:=by omega
     obtain⟨z,hz⟩:=Xns b a
     go_wp2_with fail
     go_quiet (first | (go_at_call 323;refine Calls.quiet_of_same (hz _)));clear hz hw0;cases z;rotate_left
     ·go_wp2
      go_region
      all_goals go_wp2
      exact⟨⟨⟨0,rfl,by omega,by omega⟩,b,a,Xb ((Xa hT).drewN _).turn⟩,by simp [intOf]⟩
     go_wp2;exact⟨⟨.inr rfl,a,b,Xb ((Xa hT).drewN _)⟩,by simp [intOf]⟩
    have e0:decide (0<j)=false:=by simp;omega
    go_wp2_with fail
    go_quiet (first | (go_at_call 323;fail));clear e0 c0 c1 f0 f1 hw0;go_wp2;exact⟨⟨.inr rfl,a,b,Xb ((Xa hT).drewN _)⟩,by simp [intOf]⟩
  go_wp2
  go_end0
  exact⟨rfl,(Xa hT).at,(Xa hT).sp⟩
theorem Tryz.Xg4 (g cap:Nat) (x y:ByteArray) (lim:Int) (w:World) (h0:Two w w g (.string x) (.string y) (.string x) (.string y)) :
  Calls prog 316 #[.slice (some ⟨g,0,none⟩) 2 cap,.int .i64 0,.int .i64 2,.int .i64 lim] w fun e w'=>e=.returned (.tuple #[])/\Ji w' g (.string x) (.string y)/\Spares [g] w w':=by
 have hI:=Xgo g cap x y w h0;go_enter func316,ntmps316;go_wp2;refine wp_loop_rounds 1 ?_;rw [rounds_succ]
 go_wp2_with (go_at_call 317;refine hI.mono ?_;rintro e w1 ⟨rfl,hT⟩)
 exact bodyPost_ret (v:=.tuple #[]) (by simp [results,results316,go_sem]) rfl ⟨rfl,hT⟩
theorem Tryz.Xci (g cap:Nat) (x y:ByteArray) (w:World) (h0:Two w w g (.string x) (.string y) (.string x) (.string y)) :
  Calls prog 315 #[.slice (some ⟨g,0,none⟩) 2 cap] w fun e w'=>e=.returned (.tuple #[])/\Ji w' g (.string x) (.string y)/\Spares [g] w w':=by
 have hL:=fun W=>Xfw W
 have hI:=fun lim=>Xg4 g cap x y lim w h0
 go_enter func315,ntmps315
 go_wp2_with (first
  | (go_at_call 226;refine(hL _).mono ?_;rintro e w1 ⟨⟨z,rfl⟩,rfl⟩)
  | (go_at_call 316;refine(hI _).mono ?_;rintro e w2 ⟨rfl,hT⟩))
 go_end0
 exact⟨rfl,hT⟩
theorem Tryz.Xa1 (g cap:Nat) (x y:ByteArray) (w:World) (h0:Two w w g (.string x) (.string y) (.string x) (.string y)) :
  Calls prog 312 #[.slice (some ⟨g,0,none⟩) 2 cap] w fun e w'=>e=.returned (.tuple #[])/\Ji w' g (.string x) (.string y)/\Spares [g] w w':=by
 have hI:=Xci g cap x y w h0;go_enter func312,ntmps312
 go_wp2_with (go_at_call 315;refine hI.mono ?_;rintro e w2 ⟨rfl,hT⟩)
 go_end0
 exact⟨rfl,hT⟩
theorem Uz {H:Type} {P:Program} {k:TypeId} {R:Value->Option (DataW H × List MemPlace)} {D:DataW H} {W:World} {b n:Nat} (h:W.ownsMap P k R b n D):W.ownsMap P k R b (Maps.size D) D:=by
 obtain⟨es,clock,hb,F,hs,rfl⟩:=h;exact⟨es,clock,hb,F,by simp [Maps.size,length_sorted],rfl⟩
def opD (kd:Int) (D:DataW Value) (fm:List UInt8) (b:Nat):DataW Value:=if kd=1 then D.put (.string fm) (.held (Zx b)) else D.del (.string fm)
theorem Tryz.dDoG (m n:Nat) (kd:Int) (hk:kd=1\/kd=3) (fm data:List UInt8) (hnm:fm.length<=100) (D:DataW Value) (w:World) (hM:w.ownsMap prog 9 X8 m n D) (hn:n<=1000) :
  Calls prog 98 #[.map (some m),.agg #[.int .i64 kd,.string ⟨fm.toArray⟩,.string ⟨data.toArray⟩]] w fun e w'=>e=.returned (.tuple #[])/\∃ b,w.heap.size<=b/\BoxN w' b 9 #[.string ⟨data.toArray⟩]/\w'.ownsMap prog 9 X8 m (n+1) (opD kd D fm b)/\Spares [m] w w':=by
 have hM1:=(hM.alloc (.cells #[.int .i64 kd,.string ⟨fm.toArray⟩,.string ⟨data.toArray⟩] 172)).alloc (.cells #[.string ⟨data.toArray⟩] 9);have b1:=BoxN.new (w.alloc (.cells #[.int .i64 kd,.string ⟨fm.toArray⟩,.string ⟨data.toArray⟩] 172)) 9 #[.string ⟨data.toArray⟩];rw [World.size_alloc] at b1;have lM:=hM.lt;have hs0:=Spares.of_below (Ub w (.cells #[.int .i64 kd,.string ⟨fm.toArray⟩,.string ⟨data.toArray⟩] 172) (.cells #[.string ⟨data.toArray⟩] 9)) (bs:=[m])
 rcases hk with rfl | rfl
 ·obtain⟨w2,hrun,hM2,hT2⟩:=hM1.store Xae underlying97 (by unfold maxLen;omega) (Xje hnm) (val:=Zx (w.heap.size+1)) (d:=.held (Zx (w.heap.size+1))) (ps:=[]) rfl
  have b2:=b1.kept hT2.grown (by intro e;injection e with e;omega);have hsp:Spares [m] w w2:=hs0.trans (Spares.X4 hT2.grown (by simp));unfold Zx at hrun;clear hs0 hT2 b1 hM1;go_enter func98,ntmps98;go_wp2
  go_end0
  exact⟨rfl,w.heap.size+1,by omega,b2,hM2,hsp⟩
 obtain⟨w2,hrun,hM2,hT2⟩:=hM1.drop Xae underlying97 (Xje hnm) 0;have b2:=b1.kept hT2.grown (by intro e;injection e with e;omega);have hsp:Spares [m] w w2:=hs0.trans (Spares.X4 hT2.grown (by simp))
 have hM3:w2.ownsMap prog 9 X8 m (n+1) (opD 3 D fm (w.heap.size+1)):=by
  obtain⟨es,clock,hb,F,hs,hD⟩:=hM2;exact⟨es,clock,hb,F,by omega,hD⟩
 clear hs0 hT2 b1 hM1 hM2;go_enter func98,ntmps98;go_wp2
 go_end0
 exact⟨rfl,w.heap.size+1,by omega,b2,hM3,hsp⟩
structure Tryz.DiskD (W:World) (db md mn:Nat) (Dd Dn:DataW Value) (p:Value) (l f:Int):Prop where
 box:BoxN W db 100 #[.map (some md),.map (some mn),p,.int .i64 l,.int .i64 f,.bool false]
 dm:∃ n,n<=900/\W.ownsMap Tryz.prog 9 X8 md n Dd
 nm:∃ n,n<=900/\W.ownsMap Tryz.prog 9 X8 mn n Dn
 ne:md≠mn
section
variable {W W':World} {db md mn:Nat} {Dd Dn:DataW Value} {p:Value} {l f:Int}
theorem Tryz.DiskD.lt (h:DiskD W db md mn Dd Dn p l f):db<W.heap.size/\md<W.heap.size/\mn<W.heap.size:=by
 obtain⟨n,_,hm⟩:=h.dm;obtain⟨n',_,hm'⟩:=h.nm;exact⟨h.box.lt,hm.lt,hm'.lt⟩
theorem Tryz.DiskD.nes (h:DiskD W db md mn Dd Dn p l f):md≠db/\mn≠db:=by
 obtain⟨n,_,hm⟩:=h.dm;obtain⟨n',_,hm'⟩:=h.nm;exact⟨h.box.Xl hm,h.box.Xl hm'⟩
theorem Tryz.DiskD.spared (h:DiskD W db md mn Dd Dn p l f) {bs:List Nat} (hS:Spares bs W W') (h1:db∉bs) (h2:md∉bs) (h3:mn∉bs):DiskD W' db md mn Dd Dn p l f:=by
 obtain⟨n,hn,hm⟩:=h.dm;obtain⟨n',hn',hm'⟩:=h.nm;exact⟨hS.box h.box h1,⟨n,hn,hS.map hm h2⟩,⟨n',hn',hS.map hm' h3⟩,h.ne⟩
theorem Tryz.DiskD.below (h:DiskD W db md mn Dd Dn p l f) (hb:Below W.heap.size W W'):DiskD W' db md mn Dd Dn p l f:=
 h.spared (bs:=[]) (Spares.of_below hb) (by simp) (by simp) (by simp)
theorem Tryz.DiskD.cells (h:DiskD W db md mn Dd Dn p l f) {p':Value} {l' f':Int} (hS:Spares [db] W W') (hb:BoxN W' db 100 #[.map (some md),.map (some mn),p',.int .i64 l',.int .i64 f',.bool false]):DiskD W' db md mn Dd Dn p' l' f':=by
 obtain⟨n,hn,hm⟩:=h.dm;obtain⟨n',hn',hm'⟩:=h.nm;exact⟨hb,⟨n,hn,hS.map hm (by simpa using h.nes.1)⟩,⟨n',hn',hS.map hm' (by simpa using h.nes.2)⟩,h.ne⟩
end
theorem Tryz.Xlu (db md mn:Nat) (kd:Int) (hk:kd=1\/kd=3) (fm data:List UInt8) (hnm:fm.length<=100) (Dd Dn:DataW Value) (hh:kd=3->Maps.has Dn (.string fm)=true) (hsz:Maps.size Dn<=800) (l f:Int) (w:World) (hD:DiskD w db md mn Dd Dn (.slice none 0 0) l f) (hl:l<0) (hl1 : -1000000000<=l) (hf:f<0) (hf1 : -1000000000<=f) :
  Calls prog 313 #[.pointer (some ⟨db,0,none⟩),.agg #[.int .i64 kd,.string ⟨fm.toArray⟩,.string ⟨data.toArray⟩]] w fun e w'=>e=.returned .nilIface/\∃ b g cap,w.heap.size<=b/\w.heap.size<=g/\BoxN w' b 9 #[.string ⟨data.toArray⟩]/\DiskD w' db md mn Dd (opD kd Dn fm b) (.slice (some ⟨g,0,none⟩) 1 cap) (l-1) (f-1) /\
   w'.ownsRow w.heap.size 172 3 (.slice (some ⟨g,0,none⟩) 1 cap) 1 [.int .i64 kd,.string ⟨fm.toArray⟩,.string ⟨data.toArray⟩]/\Spares [db,mn] w w':=by
 obtain⟨i0,hi,hz0,hz1,hz2⟩:=info_parts Xkb;have lD:=hD.lt;have hD0:=hD.below ((Below.refl _ w).alloc (Nat.le_refl _) (.cells #[.int .i64 kd,.string ⟨fm.toArray⟩,.string ⟨data.toArray⟩] 172));have hW:=Un db _ _ _ l f _ hD0.box hl hl1 hf hf1;have bO0:=BoxN.new w 172 #[.int .i64 kd,.string ⟨fm.toArray⟩,.string ⟨data.toArray⟩];go_enter func313,ntmps313
 go_wp2_with (go_at_call 314;refine hW.mono ?_;rintro e W1 ⟨rfl,bD1,hS1⟩)
 have hD1:=hD0.cells hS1 bD1;have bO:=hS1.box bO0 (by simp;omega);have hs1:Spares [db,mn] w W1:=((Spares.of_below (Below.refl _ w)).alloc _).trans (hS1.mono (by simp))
 have hz1s:w.heap.size+1<=W1.heap.size:=by have:=hS1.size;simpa using this
 clear hW hD0 bD1 hS1 bO0;have d1:=hD1.box.cell 1 (v:=.map (some mn)) rfl;have o0:=bO.cell 0 (v:=.int .i64 kd) rfl;have o1:=bO.cell 1 (v:=.string ⟨fm.toArray⟩) rfl;have o2:=bO.cell 2 (v:=.string ⟨data.toArray⟩) rfl;obtain⟨nn0,hnn0,hM0⟩:=hD1.nm;have hM:=Uz hM0;have hDo:=dDoG mn _ kd hk fm data hnm Dn W1.drew.drew hM (by omega);obtain⟨v,ps,hL,hv⟩:=World.ownsMap.look_ok (w:=W1.drew) hM Xae underlying97 (Xgz W1.drew) (zd:=.held (.pointer none)) (zp:=[]) rfl (Xje hnm);have Hz:=Xb hz1s;clear hz1s hv hM0
 obtain⟨bl,hbl⟩:∃ bl,Maps.has Dn (.string fm)=bl:=⟨_,rfl⟩
 rw [hbl] at hL hh;have hb3:kd=3->bl=true:=hh;clear hh hbl
 have hbl:bl=true\/(bl=false/\(kd==3)=false):=by
  cases bl
  ·exact .inr ⟨rfl,by rw [beq_eq_false_iff_ne];intro e;cases hb3 e⟩
  exact .inl rfl
 clear hb3 hk
 rcases hbl with rfl | ⟨rfl,e3⟩
 all_goals
  go_region
  go_wp2
  go_region_with (go_at_call 98;refine hDo.mono ?_;rintro e W2 ⟨rfl,b,hb,bS2,hM2,hS2⟩)
  all_goals
   have hz:=Xa Hz
   have hb':w.heap.size<=b:=by have:W1.drew.drew.heap.size=W1.heap.size:=rfl;omega
   have bD2:=hS2.box (W:=W1.drew.drew) hD1.box (by simpa using Ne.symm hD1.nes.2);have bO2:=hS2.box (W:=W1.drew.drew) bO (by have:=hM.lt;have:=lD.2.2;simp;omega);obtain⟨n1,hn1,hMd⟩:=hD1.dm;have hMd2:=hS2.map (W:=W1.drew.drew) hMd (by simpa using hD1.ne);have hs2:Spares [db,mn] w W2:=hs1.drew.drew.trans (hS2.mono (bs':=[db,mn]) (by simp));have hz2s:=hS2.size
   have hz2s:w.heap.size+1<=W2.heap.size:=by have:W1.drew.drew.heap.size=W1.heap.size:=rfl;omega
   have HD:=Xb (And.intro (show DiskD W2 db md mn Dd (opD kd Dn fm b) (.slice none 0 0) (l-1) (f-1) from ⟨bD2,⟨n1,hn1,hMd2⟩,⟨_,by omega,hM2⟩,hD1.ne⟩) bS2);have v0:=bD2.cell 2 (v:=.slice none 0 0) rfl;have fv0:=bD2.frozen 2;have lv:=bD2.lt;have y0:=bO2.cell 0 (v:=.int .i64 kd) rfl;have y1:=bO2.cell 1 (v:=.string ⟨fm.toArray⟩) rfl;have y2:=bO2.cell 2 (v:=.string ⟨data.toArray⟩) rfl;clear hDo hL d1 o0 o1 o2 hM hS2 hM2 bS2 hMd hMd2;go_wp2
   go_region_law ((refine step_append_lies _ (by rfl) _ _ _ (by rfl) w.heap.size 172 i0 _ 3 40 underlying98 hi hz0 hz1 hz2 rfl (by decide) _ _ _ (by rfl) (World.ownsRow_nil _ _ _ _) ⟨W2.heap.size,0,none⟩ 1 1 [.int .i64 kd,.string ⟨fm.toArray⟩,.string ⟨data.toArray⟩] (by rfl) rfl (World.news_of_block (heap_alloc_new _ _)) (by simp [Value.oneCell']) (by omega) (by unfold maxLen;omega) (by omega) (by simp;omega) _ rfl ?_;intro g' cap' w3 hown' hgrow hat hlt;have bV3:=(bD2.below (n₀:=W2.heap.size) (by first | exact Vb ((Xz.refl W2).alloc _) | exact Vb (((Xz.refl W2).drew).alloc _)) bD2.lt).kept hgrow (by simp [Value.ownBlock]);have d0:=bV3.cell 2 (v:=.slice none 0 0) rfl;have d1:=bV3.frozen 2))
 all_goals
  have hD2:=Xa HD
  have hg2:W2.heap.size<=g':=by
   rcases hat with e | e
   ·simp [Value.ownBlock] at e
   have:g'=W2.heap.size+1:=by simpa using e
   omega
  have hS3:Spares [db,mn] w w3:=((hs2.alloc _).drew).trans ⟨hgrow.os,hgrow.tape,hgrow.output,hgrow.size,fun k hk _=>hgrow.block k hk (by simp [Value.ownBlock])⟩;have hB3:Below W2.heap.size W2 w3:=((Below.refl _ W2).alloc (Nat.le_refl _) _).drew.grown hgrow (by simp) (by simp [Value.ownBlock]);have hD3:=hD2.1.below hB3;have bS3:=hD2.2.below hB3 hD2.2.lt;have bN:=bV3.set 2 (.slice (some ⟨g',0,none⟩) 1 cap');have hS34:=(Spares.of_below (Below.refl _ w3)).set (b:=db) (bs:=[db]) (by simp) 2 (.slice (some ⟨g',0,none⟩) 1 cap');have hD4:=hD3.cells hS34 bN;have bS4:=hS34.box bS3 (by simpa using bS3.ne bV3 (by decide));have hR4:=hown'.kept (Xfs w3 db 2 (.slice (some ⟨g',0,none⟩) 1 cap')) (.inr (by simp [Value.ownBlock];omega));have hS4:=hS3.set (b:=db) (by simp) 2 (.slice (some ⟨g',0,none⟩) 1 cap');have HH:=Xb (And.intro bS4 (And.intro hD4 (And.intro hR4 hS4)));clear hD4 hR4 hS4 bN hD3 hB3 hS3 hown' hgrow hat hlt bV3 d0 d1 v0 fv0 y0 y1 y2 bS3 bS4 hS34;generalize (w3.setCell ⟨db,2,none⟩ (.slice (some ⟨g',0,none⟩) 1 cap'))=W4 at *;go_wp2;go_ret;exact⟨rfl,b,g',cap',hb',by omega,(Xa HH).1,(Xa HH).2.1,(Xa HH).2.2.1,(Xa HH).2.2.2⟩
theorem Tryz.dPutW (db md mn k cap:Nat) (fm data:List UInt8) (hnm:fm.length<=100) (Dd Dn:DataW Value) (hsz:Maps.size Dn<=800) (l f:Int) (w:World) (hD:DiskD w db md mn Dd Dn (.slice none 0 0) l f) (hl:l<0) (hl1 : -1000000000<=l) (hf:f<0) (hf1 : -1000000000<=f) (hlen:data.length<=1000000000000)
  (hK:BytesAt w k data) (hk:k<w.heap.size) (n1:db≠k) (n2:md≠k) (n3:mn≠k) :
  Calls prog 311 #[.pointer (some ⟨db,0,none⟩),.int .i64 1,.string ⟨fm.toArray⟩,.slice (some ⟨k,0,none⟩) data.length cap] w fun e w'=>e=.returned .nilIface/\∃ b g cap,w.heap.size<=b/\w.heap.size<=g/\BoxN w' b 9 #[.string ⟨data.toArray⟩]/\DiskD w' db md mn Dd (opD 1 Dn fm b) (.slice (some ⟨g,0,none⟩) 1 cap) (l-1) (f-1) /\
   w'.ownsRow w.heap.size 172 3 (.slice (some ⟨g,0,none⟩) 1 cap) 1 [.int .i64 1,.string ⟨fm.toArray⟩,.string ⟨data.toArray⟩]/\Spares [db,mn,k] w w':=by
 have hT:=Xlu db md mn 1 (.inl rfl) fm data hnm Dd Dn (by intro h;omega) hsz l f w hD hl hl1 hf hf1
 have hcv:(convert 267 9 (.slice (some ⟨k,0,none⟩) data.length cap)).run prog w=.ok (.string ⟨data.toArray⟩) w:=
  run_convert_bytes_back w 267 9 5 ⟨k,0,none⟩ cap data underlying267 underlying5 underlying9 (fun j hj=>by
   have:=(hK j hj).1
   by_cases h0:j=0
   ·subst h0;simpa [Addr.add] using this
   simpa [Addr.add,h0] using this)
 obtain⟨n,hn⟩:∃ n,data.length=n:=⟨_,rfl⟩
 rw [hn] at hcv hlen ⊢;have Hn:=Xb hn;clear hn;go_enter func311,ntmps311
 go_wp2_with (go_at_call 313;refine hT.mono ?_;rintro e w1 ⟨rfl,b,g,cap1,hb,hg,bS1,hD1,hR1,hS1⟩)
 have hK1:∀ j,j<n->∃ v,w1.cell? ⟨k,j,none⟩=some v/\w1.frozen? ⟨k,j,none⟩=false:=fun j hj=>by
  obtain⟨e1,e2⟩:=cell_of_block (hS1.block k hk (by simp;omega)) j;obtain⟨e3,e4⟩:=hK j (by have:=Xa Hn;omega);exact⟨_,e1.trans e3,e2.trans e4⟩
 clear hT hcv
 go_loopw [20] (fun i wr=>∃ q:Nat,q<=n/\i=.int .i64 q/\Spares [k] w1 wr/\∀ j,j<n->∃ v,wr.cell? ⟨k,j,none⟩=some v/\wr.frozen? ⟨k,j,none⟩=false) (fun i _=>n-(intOf i).toNat)
 case atStart=>exact⟨0,Nat.zero_le _,rfl,Spares.of_below (Below.refl _ _),hK1⟩
 case round =>
  obtain⟨q,hq,rfl,hSq,hKq⟩:=hrel
  by_cases hqn:q<n
  ·obtain⟨v,hv,hvf⟩:=hKq q hqn
   have HK:=Xb hKq;clear hKq;go_wp2
   go_roundw
   case rel =>
    refine⟨q+1,by omega,rfl,hSq.set (by simp) _ _,fun j hj=>?_⟩;obtain⟨u,hu,huf⟩:=Xa HK j hj;obtain⟨y,hy⟩:=cell?_setCell_some (w:=wr) (p:=⟨k,q,none⟩) (x:=.int .u8 33) hu;exact⟨y,hy,by rw [World.frozen?_setCell];exact huf⟩
   case measure=>simp [intOf];omega
  obtain rfl:q=n:=by omega
  have hD2:=hD1.spared hSq (by simpa using n1) (by simpa using n2) (by simpa using n3);have bS2:=hSq.box bS1 (by simp;omega);have hR2:=hSq.row hR1 (by simp;omega);have hS2:Spares [db,mn,k] w wr:=(hS1.mono (by simp)).trans (hSq.mono (by simp));clear hKq;go_wp2;go_ret;exact⟨rfl,b,g,cap1,hb,hg,bS2,hD2,hR2,hS2⟩
theorem Tryz.Xox (db md mn k cap:Nat) (fm data:List UInt8) (hnm:fm.length<=100) (Dd Dn:DataW Value) (hsz:Maps.size Dn<=800) (l f:Int) (w:World) (hD:DiskD w db md mn Dd Dn (.slice none 0 0) l f) (hl:l<0) (hl1 : -1000000000<=l) (hf:f<0) (hf1 : -1000000000<=f) (hlen:data.length<=1000000000000)
  (hK:BytesAt w k data) (hk:k<w.heap.size) (n1:db≠k) (n2:md≠k) (n3:mn≠k) :
  Calls prog 310 #[.pointer (some ⟨db,0,none⟩),.string ⟨fm.toArray⟩,.slice (some ⟨k,0,none⟩) data.length cap] w fun e w'=>e=.returned .nilIface/\∃ b g cap,w.heap.size<=b/\w.heap.size<=g/\BoxN w' b 9 #[.string ⟨data.toArray⟩]/\DiskD w' db md mn Dd (opD 1 Dn fm b) (.slice (some ⟨g,0,none⟩) 1 cap) (l-1) (f-1) /\
   w'.ownsRow w.heap.size 172 3 (.slice (some ⟨g,0,none⟩) 1 cap) 1 [.int .i64 1,.string ⟨fm.toArray⟩,.string ⟨data.toArray⟩]/\Spares [db,mn,k] w w':=by
 have hP:=dPutW db md mn k cap fm data hnm Dd Dn hsz l f w hD hl hl1 hf hf1 hlen hK hk n1 n2 n3;generalize data.length=n at hP ⊢;go_enter func310,ntmps310
 go_wp2_with (go_at_call 311;refine hP.mono ?_;rintro e w1 ⟨rfl,hR⟩)
 go_ret;exact⟨rfl,hR⟩
theorem Tryz.Xmy (db md mn:Nat) (fm:List UInt8) (hnm:fm.length<=100) (Dd Dn:DataW Value) (hh:Maps.has Dn (.string fm)=true) (hsz:Maps.size Dn<=800) (l f:Int) (w:World) (hD:DiskD w db md mn Dd Dn (.slice none 0 0) l f) (hl:l<0) (hl1 : -1000000000<=l) (hf:f<0) (hf1 : -1000000000<=f) :
  Calls prog 308 #[.pointer (some ⟨db,0,none⟩),.string ⟨fm.toArray⟩] w fun e w'=>e=.returned .nilIface/\∃ g cap,w.heap.size<=g/\DiskD w' db md mn Dd (Dn.del (.string fm)) (.slice (some ⟨g,0,none⟩) 1 cap) (l-1) (f-1) /\
   w'.ownsRow w.heap.size 172 3 (.slice (some ⟨g,0,none⟩) 1 cap) 1 [.int .i64 3,.string ⟨fm.toArray⟩,.string ⟨#[]⟩]/\Spares [db,mn] w w':=by
 have hT:=Xlu db md mn 3 (.inr rfl) fm [] hnm Dd Dn (fun _=>hh) hsz l f w hD hl hl1 hf hf1
 change Calls prog 313 #[_,.agg #[.int .i64 3,.string ⟨fm.toArray⟩,.string ⟨#[]⟩]] w _ at hT
 go_enter func308,ntmps308
 go_wp2_with (go_at_call 313;refine hT.mono ?_;rintro e w1 ⟨rfl,b,g,cap,hb,hg,bS,hD1,hR,hS⟩)
 go_ret;exact⟨rfl,g,cap,hg,hD1,hR,hS⟩
theorem Tryz.Xlv (db md mn g cap B:Nat) (kd:Int) (hk:kd=1\/kd=3) (fm data:List UInt8) (hnm:fm.length<=100) (Dd Dn:DataW Value) (hsz:Maps.size Dd<=800) (l f:Int) (w:World) (hD:DiskD w db md mn Dd Dn (.slice (some ⟨g,0,none⟩) 1 cap) l f) (hl:l<0) (hl1 : -1000000000<=l) (hf:f<0) (hf1 : -1000000000<=f)
  (hR:w.ownsRow B 172 3 (.slice (some ⟨g,0,none⟩) 1 cap) 1 [.int .i64 kd,.string ⟨fm.toArray⟩,.string ⟨data.toArray⟩]) (hg1:db≠g) :
  Calls prog 309 #[.pointer (some ⟨db,0,none⟩)] w fun e w'=>e=.returned .nilIface/\∃ b,w.heap.size<=b/\BoxN w' b 9 #[.string ⟨data.toArray⟩]/\DiskD w' db md mn (opD kd Dd fm b) Dn (.slice none 0 0) (l-1) (f-1)/\Spares [db,md] w w':=by
 have hW:=Un db _ _ _ l f _ hD.box hl hl1 hf hf1;obtain⟨-,-,-,lg⟩:=U8 hR;go_enter func309,ntmps309
 go_wp2_with (go_at_call 314;refine hW.mono ?_;rintro e W1 ⟨rfl,bD1,hS1⟩;have d2:=bD1.cell 2 (v:=.slice (some ⟨g,0,none⟩) 1 cap) rfl)
 have hD1:=hD.cells hS1 bD1;obtain⟨o0,o1,o2,lg1⟩:=U8 (hS1.row hR (by simpa using Ne.symm hg1));have d0:=bD1.cell 0 (v:=.map (some md)) rfl;have f2:=bD1.frozen 2;have lD:=hD1.lt;obtain⟨nn,hnn,hM0⟩:=hD1.dm;have hM:=Uz hM0;have hsz1:=hS1.size;clear hW hM0;have hDo:=dDoG md _ kd hk fm data hnm Dd (W1.alloc (.cells #[.int .i64 kd,.string ⟨fm.toArray⟩,.string ⟨data.toArray⟩] 172)).drew (hM.alloc _) (by omega);have Hsz:=Xb hsz1;clear hsz1;refine wp_loop_rounds 2 ?_;rw [rounds_succ];go_wp2
 go_region_with (go_at_call 98;refine hDo.mono ?_;rintro e W2 ⟨rfl,b,hb,bS2,hM2,hS2⟩)
 all_goals
  have hsz1:=Xa Hsz
  have hbb:w.heap.size<=b:=by
   have:(W1.alloc (.cells #[.int .i64 kd,.string ⟨fm.toArray⟩,.string ⟨data.toArray⟩] 172)).drew.heap.size=W1.heap.size+1:=by simp
   omega
  have bD2:=hS2.box (W:=(W1.alloc (.cells #[.int .i64 kd,.string ⟨fm.toArray⟩,.string ⟨data.toArray⟩] 172)).drew) (bD1.alloc _) (by simpa using Ne.symm hD1.nes.1);obtain⟨n1,hn1,hMn⟩:=hD1.nm;have hMn2:=hS2.map (W:=(W1.alloc (.cells #[.int .i64 kd,.string ⟨fm.toArray⟩,.string ⟨data.toArray⟩] 172)).drew) (hMn.alloc _) (by simpa using Ne.symm hD1.ne);have hs2:Spares [db,md] w W2:=(((hS1.mono (bs':=[db,md]) (by simp)).alloc _).drew).trans (hS2.mono (bs':=[db,md]) (by simp))
  have hD2:DiskD W2 db md mn (opD kd Dd fm b) Dn (.slice (some ⟨g,0,none⟩) 1 cap) (l-1) (f-1):=⟨bD2,⟨_,by omega,hM2⟩,⟨n1,hn1,hMn2⟩,hD1.ne⟩
  have e2:=bD2.cell 2 (v:=.slice (some ⟨g,0,none⟩) 1 cap) rfl;have e3:=bD2.frozen 2;have hS23:=(Spares.of_below (Below.refl _ W2)).set (b:=db) (bs:=[db]) (by simp) 2 (.slice none 0 0);have hD3:=hD2.cells hS23 (bD2.set 2 _);have bS3:=hS23.box bS2 (by simpa using bS2.ne bD2 (by decide));have hs3:=hs2.set (b:=db) (by simp) 2 (.slice none 0 0);have HH:=Xb (And.intro hbb (And.intro bS3 (And.intro hD3 hs3)));clear hsz1 hbb hD3 hs3 hDo hM hM2 bS2 hS2 hMn hMn2 hs2 hD2 bD2 d0 d2 o0 o1 o2 f2 bS3 hS23;go_wp2
  try rw [rounds_succ]
  go_wp2;go_ret;exact⟨rfl,b,(Xa HH).1,(Xa HH).2.1,(Xa HH).2.2.1,(Xa HH).2.2.2⟩
theorem Tryz.Xht (w:World):Calls prog 254 #[.slice none 0 0,.int .i64 0,.int .i64 0] w fun e w'=>e=.returned (.tuple #[])/\w'=w:=by
 go_enter func254,ntmps254;go_wp2;refine wp_loop_rounds 1 ?_;rw [rounds_succ];go_wp2
 go_end0
 exact⟨rfl,rfl⟩
theorem Tryz.Xhp (w:World) (lim:Int):Calls prog 232 #[.slice none 0 0,.int .i64 0,.int .i64 0,.int .i64 lim] w fun e w'=>e=.returned (.tuple #[])/\w'=w:=by
 have hI:=fun W=>Xht W
 go_enter func232,ntmps232;go_wp2;refine wp_loop_rounds 1 ?_;rw [rounds_succ]
 go_wp2_with (go_at_call 254;refine(hI _).mono ?_;rintro e w1 ⟨rfl,rfl⟩)
 exact bodyPost_ret (v:=.tuple #[]) (by simp [results,results232,go_sem]) rfl ⟨rfl,rfl⟩
theorem Tryz.Xg3 (w:World):Calls prog 317 #[.slice none 0 0,.int .i64 0,.int .i64 0] w fun e w'=>e=.returned (.tuple #[])/\w'=w:=by
 go_enter func317,ntmps317;go_wp2;refine wp_loop_rounds 1 ?_;rw [rounds_succ];go_wp2
 go_end0
 exact⟨rfl,rfl⟩
theorem Tryz.Xgl (w:World) (lim:Int):Calls prog 316 #[.slice none 0 0,.int .i64 0,.int .i64 0,.int .i64 lim] w fun e w'=>e=.returned (.tuple #[])/\w'=w:=by
 have hI:=fun W=>Xg3 W
 go_enter func316,ntmps316;go_wp2;refine wp_loop_rounds 1 ?_;rw [rounds_succ]
 go_wp2_with (go_at_call 317;refine(hI _).mono ?_;rintro e w1 ⟨rfl,rfl⟩)
 exact bodyPost_ret (v:=.tuple #[]) (by simp [results,results316,go_sem]) rfl ⟨rfl,rfl⟩
theorem Tryz.Xf5 (w:World):Calls prog 226 #[.int .u64 0] w fun e w'=>(∃ z:Int,e=.returned (.int .i64 z))/\w'=w:=by
 go_enter func226,ntmps226;go_wp2;go_ret;exact⟨⟨_,rfl⟩,rfl⟩
theorem Tryz.Xez (w:World):Calls prog 211 #[.slice none 0 0] w fun e w'=>e=.returned (.tuple #[])/\w'=w:=by
 have hL:=fun W=>Xf5 W
 have hI:=fun W lim=>Xhp W lim
 go_enter func211,ntmps211
 go_wp2_with (first
  | (go_at_call 226;refine(hL _).mono ?_;rintro e w1 ⟨⟨z,rfl⟩,rfl⟩)
  | (go_at_call 232;refine(hI _ _).mono ?_;rintro e w2 ⟨rfl,rfl⟩))
 go_end0
 exact⟨rfl,rfl⟩
theorem Tryz.Xck (w:World):Calls prog 315 #[.slice none 0 0] w fun e w'=>e=.returned (.tuple #[])/\w'=w:=by
 have hL:=fun W=>Xf5 W
 have hI:=fun W lim=>Xgl W lim
 go_enter func315,ntmps315
 go_wp2_with (first
  | (go_at_call 226;refine(hL _).mono ?_;rintro e w1 ⟨⟨z,rfl⟩,rfl⟩)
  | (go_at_call 316;refine(hI _ _).mono ?_;rintro e w2 ⟨rfl,rfl⟩))
 go_end0
 exact⟨rfl,rfl⟩
theorem Tryz.Xa0 (w:World):Calls prog 312 #[.slice none 0 0] w fun e w'=>e=.returned (.tuple #[])/\w'=w:=by
 have hI:=fun W=>Xck W
 go_enter func312,ntmps312
 go_wp2_with (go_at_call 315;refine(hI _).mono ?_;rintro e w2 ⟨rfl,rfl⟩)
 go_end0
 exact⟨rfl,rfl⟩
theorem Tryz.Xhq (db md mn:Nat) (fd:Option (Nat × List UInt8)) (l f:Int) (w:World) (hD:Xk jName w db md mn fd none (.slice none 0 0) l f) :
  Calls prog 306 #[.pointer (some ⟨db,0,none⟩)] w fun e w'=>e=.returned (.tuple #[.slice none 0 0,.nilIface])/\Below w.heap.size w w':=by
 have hS:=fun W=>Xa0 W
 have d1:=hD.box.cell 1 (v:=.map (some mn)) rfl;have d5:=hD.box.cell 5 (v:=.bool false) rfl;obtain⟨n,hn,hown⟩:=hD.nm
 change w.ownsMap prog 9 X8 mn n (.map []) at hown
 go_enter func306,ntmps306
 go_wp2_with (first
  | (at_range;refine wpList_range_own _ rfl _ 97 rfl 9 101 (string_keyed underlying9) underlying97 _ mn n _ rfl hown ?_;intro w1 hrg hg1 hs1)
  | go_in)
 have HB:=Xb (show Below w.heap.size w w1 from ⟨hg1.os,hg1.tape,hg1.output,hg1.size,fun k hk=>hg1.block k hk (by simp)⟩);clear hg1 hs1 hown d1 d5;refine wp_loop_rounds 1 ?_;rw [rounds_succ]
 go_wp2_with (first
  | (at_next;refine wpList_next_ranges _ rfl _ rfl 9 (string_keyed underlying9) X8 (fun v:Value=>v) (fun v:Value=>v) (fun v _ _=>⟨v,rfl⟩) (fun v _ _=>⟨v,rfl⟩) mn _ n _ _ _ rfl hrg ?_ ?_)
  | go_in)
 ·intro _ _
  clear hrg
  go_wp2_with (go_at_call 312;refine(hS _).mono ?_;rintro e w2 ⟨rfl,rfl⟩)
  exact bodyPost_ret (v:=.tuple #[.slice none 0 0,.nilIface]) (by simp [results,results306,go_sem]) rfl ⟨rfl,Xa HB⟩
 intro x c kl y yp w' cnt' _ h2;have h3:false=true:=h2;cases h3
theorem Tryz.Xgp (db md mn:Nat) (fd:Option (Nat × List UInt8)) (l f:Int) (w:World) (hD:Xk jName w db md mn fd none (.slice none 0 0) l f) :
  Calls prog 307 #[.pointer (some ⟨db,0,none⟩),.string ⟨#[106,111,117,114,110,97,108]⟩] w fun e w'=>e=.returned (.tuple #[.slice none 0 0,.iface 33 (.int .i64 6)])/\w'=w:=by
 have d1:=hD.box.cell 1 (v:=.map (some mn)) rfl;have d5:=hD.box.cell 5 (v:=.bool false) rfl;obtain⟨n,hn,hown⟩:=hD.nm;have hL:(Instr.lookup 97 (.map (some mn)) (.string ⟨#[106,111,117,114,110,97,108]⟩) true).run prog w=.ok (.tuple #[.pointer none,.bool false]) w:=Xb3 (fm:=jName) hD.nl hown;go_enter func307,ntmps307;go_wp2;exact bodyPost_ret (v:=.tuple #[.slice none 0 0,.iface 33 (.int .i64 6)]) (by simp [results,results307,go_sem]) rfl ⟨rfl,rfl⟩
theorem Xio {B g cap:Nat} {e:TypeId} {W:World} {a b:Value} (h:W.ownsRow B e 1 (.slice (some ⟨g,0,none⟩) 2 cap) 2 [a,b]):Two W W g a b a b/\g<W.heap.size/\B<=g:=by
 obtain⟨-,⟨e1,-⟩ | ⟨g',cap',cur,e1,e2,e3,e4⟩⟩:=h
 ·cases e1
 cases e1
 have t:∀ j,j<2->cur[j]? = [a,b][j]?:=fun j hj=>by
  have h1:=congrArg (fun l:List Value=>l[j]?) e4.2.2.2;simp only [List.getElem?_take,if_pos (show j<2*1 by omega)] at h1;rw [<- h1];simp
 have s:∀ j,W.cell? ⟨g,j,none⟩=cur[j]?:=fun j=>by simp [World.cell?,e3]
 have fz:∀ j,W.frozen? ⟨g,j,none⟩=false:=fun j=>by simp [World.frozen?,e3]
 exact⟨⟨.inl ⟨rfl,rfl⟩,(s 0).trans (t 0 (by omega)),(s 1).trans (t 1 (by omega)),fz 0,fz 1,Spares.of_below (Below.refl _ _)⟩,(Array.getElem?_eq_some_iff.1 e3).1,e2⟩
theorem Xbc (w:World) (v:Value) (t:TypeId):∀ j u,[v][j]? = some u->(w.alloc (.cells #[v] t)).cell? ((⟨w.heap.size,0,none⟩:Addr).add j)=some u:=by
 intro j u hu
 match j,hu with
 | 0,hu =>
  simp at hu;subst hu;simp [Addr.add]
 | k+1,hu=>simp at hu
theorem Ji.symm {W:World} {g:Nat} {x y:Value} (h:Ji W g x y):Ji W g y x:=Or.symm h
structure Xau (D:DataW Value) (a b:List UInt8):Prop where
 ne:a≠b
 ha:Maps.has D (.string a)=true
 hb:Maps.has D (.string b)=true
 all:∀ kl,Maps.has D kl=true->kl=.string a\/kl=.string b
theorem Xau.symm {D:DataW Value} {a b:List UInt8} (h:Xau D a b):Xau D b a:=⟨h.ne.symm,h.hb,h.ha,fun kl hk=>(h.all kl hk).symm⟩
theorem Tryz.Xhg (db md mn:Nat) (Dd Dn:DataW Value) (a b:List UInt8) (hK:Xau Dn a b) (l f:Int) (w:World) (hD:DiskD w db md mn Dd Dn (.slice none 0 0) l f) :
  Calls prog 306 #[.pointer (some ⟨db,0,none⟩)] w fun e w'=>∃ g cap,e=.returned (.tuple #[.slice (some ⟨g,0,none⟩) 2 cap,.nilIface])/\Ji w' g (.string ⟨a.toArray⟩) (.string ⟨b.toArray⟩)/\g<w'.heap.size/\Below w.heap.size w w':=by
 have d1:=hD.box.cell 1 (v:=.map (some mn)) rfl;have d5:=hD.box.cell 5 (v:=.bool false) rfl;have lmn:=hD.lt.2.2;obtain⟨n,hn,hown⟩:=hD.nm;obtain⟨i0,hi,hz0,hz1,hz2⟩:=info_parts Xa8;go_enter func306,ntmps306
 go_wp2_with (first
  | (at_range;refine wpList_range_own _ rfl _ 97 rfl 9 101 (string_keyed underlying9) underlying97 _ mn n _ rfl hown ?_;intro w1 hrg hg1 hs1)
  | go_in)
 have HB:=Xb (show Below w.heap.size w w1 from ⟨hg1.os,hg1.tape,hg1.output,hg1.size,fun k hk=>hg1.block k hk (by simp)⟩)
 have hz:w.heap.size<w1.heap.size:=by omega
 clear hg1 hs1 hown d1 d5;refine wp_loop_rounds 3 ?_;rw [rounds_succ]
 go_wp2_with (first
  | (at_next;refine wpList_next_ranges _ rfl _ rfl 9 (string_keyed underlying9) X8 Value.string (fun v:Value=>v) (fun key kl hk=>by obtain⟨x,hx,_⟩:=string_of_keyOf underlying9 hk;exact⟨x,hx⟩) (fun v _ _=>⟨v,rfl⟩) mn _ n _ _ _ rfl hrg ?_ ?_)
  | go_in)
 ·intro _ h0
  have h1:=h0 (.string a);rw [hK.ha] at h1;cases h1
 intro x c kl y yp w' cnt' hk hl hv hat hrg2 hlt hgr hsz hen;have HB2:=Xb (show Below w.heap.size w w' from (Xa HB).grown hgr (by omega) (fun q hq=>by cases hq;exact Nat.le_refl _));obtain⟨x',hx,hx2,-⟩:=string_of_keyOf underlying9 hk
 obtain rfl:x=x':=by cases hx;rfl
 obtain⟨p,q,hK2,hpq,hxp,hkl⟩:∃ p q,Xau Dn p q/\((p=a/\q=b)\/(p=b/\q=a))/\x=⟨p.toArray⟩/\kl=.string p:=by
  have hb:∀ p,kl=.string p->x=⟨p.toArray⟩:=fun p e=>by
   have h3:p=x.data.toList:=by rw [e] at hx2;injection hx2
   apply ByteArray.ext;rw [<- Array.toArray_toList (xs:=x.data),<- h3]
  rcases hK.all kl hl with e | e
  ·exact⟨a,b,hK,.inl ⟨rfl,rfl⟩,hb a e,e⟩
  exact⟨b,a,hK.symm,.inr ⟨rfl,rfl⟩,hb b e,e⟩
 subst hxp hkl
 have hzw:w.heap.size<w'.heap.size:=by omega
 have Hsz:=Xb hsz;clear hx hx2 hk hl hv hat hrg HB hgr hlt hsz
 go_wp2_with (at_builtin;refine wpList_append_lies _ rfl _ _ 40 rfl w.heap.size 9 i0 _ 1 16 underlying40 hi hz0 hz1 hz2 rfl (by decide) (.slice none 0 0) 0 [] rfl (World.ownsRow_nil _ _ _ _) ⟨w'.heap.size,0,none⟩ 1 1 [.string ⟨p.toArray⟩] rfl rfl (Xbc _ _ _) (by simp [Value.oneCell']) (by omega) (by unfold maxLen;omega) (by omega) (by simp;omega) _ rfl ?_;intro g3 cap3 w3 hr3 hg3 hat3 hlt3)
 simp only [List.nil_append] at hr3;have hB3:=((Xa HB2).alloc (by omega) (.cells #[.string ⟨p.toArray⟩] 9)).grown hg3 (by simp;omega) (by simp [Value.ownBlock]);have hrg3:=(hrg2.alloc (.cells #[.string ⟨p.toArray⟩] 9)).kept hg3 (by simp [Value.ownBlock]) (by simp [Value.ownBlock]);have hsz:=Xa Hsz;have hz3:=hB3.size
 have hz3':w1.heap.size<w3.heap.size:=by have:=hg3.size;simp at this;omega
 have hg30:g3=w1.heap.size+1:=by
  rcases hat3 with e | e
  ·simp [Value.ownBlock] at e
  simpa [hsz] using e
 have hg3a:w1.heap.size<g3:=by omega
 clear hg30;have HB3:=Xb hB3;clear hrg2 HB2 hen hg3 hat3 hB3 hsz Hsz;rw [rounds_succ]
 go_wp2_with (first
  | (at_next;refine wpList_next_ranges _ rfl _ rfl 9 (string_keyed underlying9) X8 Value.string (fun v:Value=>v) (fun key kl hk=>by obtain⟨x,hx,_⟩:=string_of_keyOf underlying9 hk;exact⟨x,hx⟩) (fun v _ _=>⟨v,rfl⟩) mn _ n _ _ _ rfl hrg3 ?_ ?_)
  | go_in)
 ·intro _ h0
  have h1:=h0 (.string q);rw [hK2.hb] at h1;have:=hK2.ne;simp [Lit.sameKey] at h1;exact absurd h1.symm this
 intro x c kl y yp w4 cnt4 hk hl1 hl2 hv hat hrg4 hlt hgr hsz4 hen;have HB4:=Xb (show Below w.heap.size w w4 from (Xa HB3).grown hgr (by omega) (fun q hq=>by cases hq;omega));obtain⟨x',hx,hx2,-⟩:=string_of_keyOf underlying9 hk
 obtain rfl:x=x':=by cases hx;rfl
 obtain rfl:kl=.string q:=by
  rcases hK2.all kl hl1 with e | e
  ·rw [e] at hl2;simp [Lit.sameKey] at hl2
  exact e
 obtain rfl:x=⟨q.toArray⟩:=by
  have h3:q=x.data.toList:=by injection hx2
  apply ByteArray.ext;rw [<- Array.toArray_toList (xs:=x.data),<- h3]
 have hr4:=hr3.kept hgr (.inr (by simp [Value.ownBlock];omega));have hrA:=hr4.alloc (.cells #[.string ⟨q.toArray⟩] 9)
 have hzw4:w.heap.size<w4.heap.size:=by omega
 have hzw5:w1.heap.size<w4.heap.size:=by omega
 have Hsz4:=Xb hsz4;clear hx hx2 hk hl1 hl2 hv hat hrg3 HB3 hgr hlt hr3 hr4 hsz4
 go_wp2_with (at_builtin;refine wpList_append_lies _ rfl _ _ 40 rfl w.heap.size 9 i0 _ 1 16 underlying40 hi hz0 hz1 hz2 rfl (by decide) (.slice (some ⟨g3,0,none⟩) 1 cap3) 1 [.string ⟨p.toArray⟩] rfl hrA ⟨w4.heap.size,0,none⟩ 1 1 [.string ⟨q.toArray⟩] rfl rfl (Xbc _ _ _) (by simp [Value.oneCell']) (by omega) (by unfold maxLen;omega) (by omega) (by simp;omega) _ rfl ?_;intro g5 cap5 w5 hr5 hg5 hat5 hlt5)
 simp only [List.singleton_append] at hr5;have hB5:=((Xa HB4).alloc (by omega) (.cells #[.string ⟨q.toArray⟩] 9)).grown hg5 (by simp;omega) (fun z hz=>by simp [Value.ownBlock] at hz;omega);have hrg5:=(hrg4.alloc (.cells #[.string ⟨q.toArray⟩] 9)).kept hg5 (by simp [Value.ownBlock];omega) (by simp [Value.ownBlock];omega);obtain⟨hT5,hgl,hgB⟩:=Xio hr5;have hS:=Xa1 g5 cap5 ⟨p.toArray⟩ ⟨q.toArray⟩ w5 hT5;have HB5:=Xb hB5;clear hrg4 HB4 hen hg5 hat5 hB5 hT5 hr5 hrA Hsz4;rw [rounds_succ]
 go_wp2_with (first
  | (at_next;refine wpList_next_ranges _ rfl _ rfl 9 (string_keyed underlying9) X8 (fun v:Value=>v) (fun v:Value=>v) (fun v _ _=>⟨v,rfl⟩) (fun v _ _=>⟨v,rfl⟩) mn _ n _ _ _ rfl hrg5 ?_ ?_)
  | go_in)
 ·intro _ _
  clear hrg5
  go_wp2_with (go_at_call 312;refine hS.mono ?_;rintro e w6 ⟨rfl,hT6,hS6⟩)
  have hB6:=(Xa HB5).trans (hS6.below (Xa HB5).size (fun b hb=>by simp at hb;omega))
  have hT:Ji w6 g5 (.string ⟨a.toArray⟩) (.string ⟨b.toArray⟩):=by
   rcases hpq with⟨rfl,rfl⟩ | ⟨rfl,rfl⟩
   ·exact hT6
   exact hT6.symm
  exact bodyPost_ret (v:=.tuple #[.slice (some ⟨g5,0,none⟩) 2 cap5,.nilIface]) (by simp [results,results306,go_sem]) rfl ⟨_,_,rfl,hT,Nat.lt_of_lt_of_le hgl hS6.size,hB6⟩
 intro x c kl y yp w'' cnt'' _ h2 h3 h4
 rcases hK2.all kl h2 with e | e
 ·rw [e] at h3;simp [Lit.sameKey] at h3
 rw [e] at h4;simp [Lit.sameKey] at h4
end Go.Proofs
namespace Go.Proofs
open Go.RowKit Go.Sort Go.Lib Go.Shelf Go.Maps
theorem Tryz.cut (s sep:List UInt8) (w:World) (hs:s.length<4294967281) (hG:Z1 w) :
  Calls prog 213 #[.string ⟨s.toArray⟩,.string ⟨sep.toArray⟩] w fun e w'=>e=.returned (.tuple #[.string ⟨(Lib.cut s sep).1.toArray⟩,.string ⟨(Lib.cut s sep).2.1.toArray⟩,.bool (Lib.cut s sep).2.2])/\Below w.heap.size w w':=by
 obtain⟨-,m,hm⟩:=hG;refine(Any.strings_Cut Xnz ⟨s.toArray⟩ ⟨sep.toArray⟩ m w (by simpa [ByteArray.size] using hs) hm).mono ?_;rintro e w' ⟨rfl,n,rfl⟩;exact⟨rfl,below_drewN (Below.refl _ _) n⟩
def puV (r:List UInt8):Int:=match Lib.parseUintB 64 r with
 | .ok u=>(u:Int)
 | .range=>18446744073709551615
 | _=>0
theorem Tryz.Xei (r:List UInt8) (hl:r.length<=281474976710656) (w:World) (hE:Env w) :
  Calls prog 118 #[.string ⟨r.toArray⟩,.int .i64 10,.int .i64 64] w fun e w'=>∃ er,e=.returned (.tuple #[.int .u64 (puV r),er])/\Below w.heap.size w w':=by
 have hsz:(⟨r.toArray⟩:ByteArray).size<=281474976710656:=by simpa [ByteArray.size] using hl
 cases hpp:Lib.parseUintB 64 r with
 | ok u =>
  have h:=Any.strconv_ParseUint_10_at64_ok Jz ⟨r.toArray⟩ (by have:=hsz;omega) u hpp w;rw [show puV r=(u:Int) by simp only [puV,hpp]];refine h.mono ?_;rintro e w' ⟨rfl,hw⟩;exact⟨_,rfl,Xbf hw⟩
 | range =>
  obtain⟨tp,p,hv⟩:=hE.rng;rw [show puV r=18446744073709551615 by simp only [puV,hpp]];refine(Any.strconv_ParseUint_10_at64_range_var Jz ⟨r.toArray⟩ hsz hpp tp p _ hv).mono ?_;rintro e w' ⟨N,rfl,-,-,h4⟩;exact⟨_,rfl,h4⟩
 | _ =>
  obtain⟨tp,p,hv⟩:=hE.syn;rw [show puV r=0 by simp only [puV,hpp]];refine(Any.strconv_ParseUint_10_at64_syntax_var Jz ⟨r.toArray⟩ hsz hpp tp p _ hv).mono ?_;rintro e w' ⟨N,rfl,-,-,h4⟩;exact⟨_,rfl,h4⟩
def txtL (s:List UInt8):List UInt8:=(Lib.cut (Lib.cut s [32]).2.1 [32]).2.1
def wholeB (s:List UInt8):Bool:=puV (Lib.cut s [32]).1==((txtL s).length:Int)&&puV (Lib.cut (Lib.cut s [32]).2.1 [32]).1==sumI (txtL s)
theorem Xa6 (s sep:List UInt8):(∀ b∈(Lib.cut s sep).1,b∈s)/\(∀ b∈(Lib.cut s sep).2.1,b∈s)/\(Lib.cut s sep).1.length<=s.length/\(Lib.cut s sep).2.1.length<=s.length:=by
 unfold Lib.cut
 split
 ·exact⟨fun b h=>List.mem_of_mem_take h,fun b h=>List.mem_of_mem_drop h,by simp;omega,by simp⟩
 exact⟨fun b h=>h,fun b h=>by simp at h,Nat.le_refl _,by simp⟩
theorem Tryz.Xjp:prog.cellsOf 31=1:=by kernel_rfl
theorem Tryz.Xoj (a b c d:Int) (W:World):(binOp .eql 269 (.agg #[.int .u64 a,.int .u64 b]) (.agg #[.int .u64 c,.int .u64 d])).run prog W=.ok (.bool (a==c&&b==d)) W:=by
 have hu:=underlying269;obtain⟨i,hi⟩:=info_of_underlying underlying31;have h31:=underlying31
 have hp:prog.plainKey 31=true:=by kernel_rfl
 have key:(Op.equal 269 (.agg #[.int .u64 a,.int .u64 b]) (.agg #[.int .u64 c,.int .u64 d])).run prog W=.ok (a==c&&b==d) W:=by
  unfold Op.equal;rw [show Op.maxDepth=(Op.maxDepth-2+1)+1 by decide];rw [run_equalIn_array W _ _ _ hu hi,Xjp];simp only [List.range_succ,List.range_zero,List.nil_append,List.cons_append,Op.eqItems,Sem.run_bind];rw [run_part_plain W hp (v:=.int .u64 a) (by simp),Result.andThen_ok,run_part_plain W hp (v:=.int .u64 c) (by simp),Result.andThen_ok,run_equalIn_int W _ _ _ _ _ _ h31,Result.andThen_ok];cases h1:(a==c)
  ·simp
  simp only [Bool.not_true,Bool.false_eq_true,if_false,Sem.run_bind];rw [run_part_plain W hp (v:=.int .u64 b) (by simp),Result.andThen_ok,run_part_plain W hp (v:=.int .u64 d) (by simp),Result.andThen_ok,run_equalIn_int W _ _ _ _ _ _ h31,Result.andThen_ok]
  cases h2:(b==d) <;> simp
 simp only [binOp,go_sem];rw [Sem.run_bind,key];rfl
abbrev TxP (tb:Nat) (a b:Int) (W:World):Prop:=W.cell? ⟨tb,0,none⟩=some (.int .u64 a)/\W.cell? ⟨tb,1,none⟩=some (.int .u64 b)
theorem TxP.of {W:World} {tb:Nat} {a b:Int} {t:TypeId} (h:BoxN W tb t #[.int .u64 a,.int .u64 b]):TxP tb a b W:=⟨h.cell 0 rfl,h.cell 1 rfl⟩
theorem Tryz.textOf (s:List UInt8) (w:World) (hs:s.length<4294967281) (ha:∀ b∈s,b.toNat<128) (hE:Env w) (h9:9<=w.heap.size) (hG:Z1 w) :
  Calls prog 185 #[.string ⟨s.toArray⟩] w fun e w'=>e=.returned (.tuple #[.string ⟨(txtL s).toArray⟩,.bool (wholeB s)])/\Below w.heap.size w w':=by
 obtain⟨-,a1,l0,l1⟩:=Xa6 s [32];obtain⟨-,a2,l2,l3⟩:=Xa6 (Lib.cut s [32]).2.1 [32]
 have hC1:=fun W (hb:Below w.heap.size w W)=>cut s [32] W hs (hG.below (hb.mono h9))
 have hC2:=fun W (hb:Below w.heap.size w W)=>cut (Lib.cut s [32]).2.1 [32] W (by omega) (hG.below (hb.mono h9))
 have hU1:=fun W (hb:Below w.heap.size w W)=>Xei (Lib.cut s [32]).1 (by omega) W (hE.below hb (by omega))
 have hU2:=fun W (hb:Below w.heap.size w W)=>Xei (Lib.cut (Lib.cut s [32]).2.1 [32]).1 (by omega) W (hE.below hb (by omega))
 have hM:=fun W=>Xku (txtL s) W (by unfold txtL;omega) (fun b hb=>ha b (a1 b (a2 b hb)))
 have hq:=Xoj;have hw:Hid (wholeB s=(puV (Lib.cut s [32]).1==((txtL s).length:Int)&&puV (Lib.cut (Lib.cut s [32]).2.1 [32]).1==sumI (txtL s))):=Xb rfl;unfold txtL at *;generalize wholeB s=wh at *;generalize puV (Lib.cut s [32]).1=p1 at *;generalize puV (Lib.cut (Lib.cut s [32]).2.1 [32]).1=p2 at *;generalize Lib.cut s [32]=x1 at *;obtain⟨n1,r1,f1⟩:=x1;simp only at *;generalize Lib.cut r1 [32]=x2 at *;obtain⟨n2,r2,f2⟩:=x2;simp only at *;generalize sumI r2=sm at *
 obtain⟨ln,hln⟩:∃ ln:Int,(r2.length:Int)=ln:=⟨_,rfl⟩
 simp only [hln] at hM hw;clear hln a1 a2 l0 l1 l2 l3 ha hs;have bT0:=BoxN.new w 269 #[.int .u64 0,.int .u64 0];have hB0:Below w.heap.size w (w.alloc (.cells #[.int .u64 0,.int .u64 0] 269)):=(Below.refl _ w).alloc (Nat.le_refl _) _;go_enter func185,ntmps185;go_wp2;refine wp_loop_rounds 3 ?_;rw [rounds_succ]
 go_wp2_with (first
  | (go_at_call 213;refine(hC1 _ hB0).mono ?_;rintro e w1 ⟨rfl,hb1⟩;have hB1:=hB0.trans (hb1.mono (by simp));have bT1:=bT0.below hb1 (by simp))
  | (go_at_call 118;refine(hU1 _ hB1).mono ?_;rintro e w2 ⟨er,rfl,hb2⟩;have hB2:=hB1.trans (hb2.mono hB1.size);have bT2:=bT1.below hb2 bT1.lt;have c0:=bT2.cell 0 (v:=.int .u64 0) rfl;have g0:=bT2.frozen 0))
 have hB3:=hB2.setCell (p:=⟨w.heap.size,0,none⟩) (Nat.le_refl _) (.int .u64 p1);have bT3:=bT2.set 0 (.int .u64 p1);clear c0 g0 hC1 hU1;rw [rounds_succ]
 go_wp2_with (first
  | (go_at_call 213;refine(hC2 _ hB3).mono ?_;rintro e w4 ⟨rfl,hb4⟩;have hB4:=hB3.trans (hb4.mono (by simpa using hB2.size));have bT4:=bT3.below hb4 (by simpa using bT2.lt))
  | (go_at_call 118;refine(hU2 _ hB4).mono ?_;rintro e w5 ⟨er2,rfl,hb5⟩;have hB5:=hB4.trans (hb5.mono hB4.size);have bT5:=bT4.below hb5 bT4.lt;have c1:=bT5.cell 1 (v:=.int .u64 0) rfl;have g1:=bT5.frozen 1))
 have hB6:=hB5.setCell (p:=⟨w.heap.size,1,none⟩) (Nat.le_refl _) (.int .u64 p2);have bT6:=bT5.set 1 (.int .u64 p2);have hP6:TxP w.heap.size p1 p2 (w5.setCell ⟨w.heap.size,1,none⟩ (.int .u64 p2)).drew:=TxP.of (t:=269) bT6;have l6:=bT6.lt;clear c1 g1 hC2 hU2;rw [rounds_succ];go_wp2
 go_region_held3 (TxP w.heap.size p1 p2) (first
  | with_reducible exact hP6
  | with_reducible exact hP7
  | with_reducible assumption) (first
  | (go_at_call 177;refine(hM _).mono ?_;rintro e w7 ⟨rfl,hb7⟩;have hP7:TxP w.heap.size p1 p2 w7:=TxP.of (t:=269) (BoxN.below (W:=(w5.setCell ⟨w.heap.size,1,none⟩ (.int .u64 p2)).drew) bT6 hb7 l6);have hB7:=hB6.drew.trans (hb7.mono (by simpa using hB5.size))))
 all_goals
  go_wp2
  go_ret2
  exact⟨by rw [Xa hw];rfl,hB7⟩
attribute [local go_sem] Oper.semAt_some
theorem Tryz.J8 (db:Nat) (w:World):Sem.run prog (method 517 74 (.pointer (some ⟨db,0,none⟩)) "Names") w=.ok (306,.pointer (some ⟨db,0,none⟩)) w:=by kernel_rfl
theorem Tryz.Xak (db:Nat) (w:World):Sem.run prog (method 517 74 (.pointer (some ⟨db,0,none⟩)) "Read") w=.ok (307,.pointer (some ⟨db,0,none⟩)) w:=by kernel_rfl
theorem Tryz.Xii:(prog.info? (Vi.t 9)).map (fun i=>(i.zero,i.size,i.bytes))=some (some (.string ByteArray.empty),1,16):=by kernel_rfl
theorem Tryz.Xff (tv:Value) (w:World) (hE:Env w) (h9:9<=w.heap.size) (hG:Z1 w) :
  Calls prog 147 #[.string ⟨#[]⟩,tv] w fun e w'=>e=.returned (.tuple #[])/\Below w.heap.size w w':=by
 have hG':=hG;obtain⟨-,m,hm⟩:=hG';have hSp:=Any.strings_Split Xdd Xii ⟨#[]⟩ ⟨#[10]⟩ m w (by decide) hm (by decide);rw [show Lib.countB ⟨#[]⟩ ⟨#[10]⟩=0 by decide,show Lib.splitB ⟨#[10]⟩ 0 0 ⟨#[]⟩ = [⟨#[]⟩] by rfl] at hSp
 change Calls prog 184 _ _ _ at hSp
 have hTx:=fun W (hb:Below w.heap.size w W)=>textOf [] W (by decide) (by simp) (hE.below hb (by omega)) (Nat.le_trans h9 hb.size) (hG.below (hb.mono h9))
 rw [show wholeB []=false by decide,show txtL [] = [] by rfl] at hTx;have bS:=BoxN.new w 9 #[.string ⟨#[]⟩];have hB0:Below w.heap.size w (w.alloc (.cells #[.string ⟨#[]⟩] 9)):=(Below.refl _ w).alloc (Nat.le_refl _) _;have s0:=bS.cell 0 (v:=.string ⟨#[]⟩) rfl;go_enter func147,ntmps147
 go_wp2_with (go_at_call 184;refine hSp.mono ?_;rintro e w1 ⟨rfl,rfl⟩)
 refine wp_loop_rounds 2 ?_;rw [rounds_succ]
 go_wp2_with (go_at_call 185;refine(hTx _ hB0).mono ?_;rintro e w2 ⟨rfl,hb2⟩)
 rw [rounds_succ];go_wp2
 go_end0
 exact⟨rfl,hB0.trans (hb2.mono (by simp))⟩
theorem Tryz.Xcv (db md mn:Nat) (fd:Option (Nat × List UInt8)) (l f:Int) (w:World) (hD:Xk jName w db md mn fd none (.slice none 0 0) l f) :
  Calls prog 180 #[Xw db] w fun e w'=>e=.returned (.tuple #[.slice none 0 0,.nilIface])/\Below w.heap.size w w':=by
 have hm:=fun W=>J8 db W
 have hN:=Xhq db md mn fd l f w hD
 have hS:=fun W=>Xez W
 unfold Xw;go_enter func180,ntmps180
 go_wp2_with (go_at_call 306;refine hN.mono ?_;rintro e w1 ⟨rfl,hb1⟩)
 refine wp_loop_rounds 1 ?_;rw [rounds_succ]
 go_wp2_with (go_at_call 211;refine(hS _).mono ?_;rintro e w2 ⟨rfl,rfl⟩)
 go_ret2
 exact⟨rfl,hb1⟩
theorem Tryz.Xf9 (jb db md mn:Nat) (c1 c2:Value) (fd:Option (Nat × List UInt8)) (l f:Int) (w:World) (hJ:BoxN w jb 212 #[Xw db,c1,c2]) (hD:Xk jName w db md mn fd none (.slice none 0 0) l f) :
  Calls prog 183 #[.pointer (some ⟨jb,0,none⟩)] w fun e w'=>e=.returned (.tuple #[.string ⟨#[]⟩,.nilIface])/\w'=w:=by
 have hm:=fun W=>Xak db W
 have hR:=Xgp db md mn fd l f w hD
 have hI:=fun W=>Xo0 6 (by simp [Xo4]) W
 have j0:=hJ.cell 0 (v:=Xw db) rfl;unfold Xw at j0;go_enter func183,ntmps183
 go_wp2_with (first
  | (go_at_call 307;refine hR.mono ?_;rintro e w1 ⟨rfl,rfl⟩)
  | (go_at_call 70;refine(hI _).mono ?_;rintro e w2 ⟨rfl,rfl⟩))
 go_ret2
 exact⟨rfl,rfl⟩
theorem Tryz.Xem (w:World):Calls prog 181 #[.slice none 0 0] w fun e w'=>e=.returned (.func (.func 212) #[] #[.pointer (some ⟨w.heap.size,0,none⟩)])/\w'=w.alloc (.cells #[.slice none 0 0] 272):=by
 go_enter func181,ntmps181;go_wp2;go_ret;exact⟨rfl,rfl⟩
theorem Tryz.Xcr (y:Value) (b:Nat) (w:World) (hb:BoxN w b 272 #[.slice none 0 0]):Calls prog 212 #[y,.pointer (some ⟨b,0,none⟩)] w fun e w'=>e=.returned (.tuple #[])/\w'=w:=by
 have c0:=hb.cell 0 (v:=.slice none 0 0) rfl;go_enter func212,ntmps212;go_wp2;refine wp_loop_rounds 1 ?_;rw [rounds_succ];go_wp2
 go_end0
 exact⟨rfl,rfl⟩
theorem Xo5 (ps:Array Tmp) (x:Empty):((fun y:Empty=>(nomatch y:Array Value)) x).size=ps.size:=nomatch x
theorem Tryz.Xj0 (jb db md mn:Nat) (c1 c2:Value) (fd:Option (Nat × List UInt8)) (l f:Int) (w:World) (hJ:BoxN w jb 212 #[Xw db,c1,c2]) (hD:Xk jName w db md mn fd none (.slice none 0 0) l f) :
  CallsIn Fence.wide 9 prog 146 #[.pointer (some ⟨jb,0,none⟩)] w fun e w'=>e=.returned (.tuple #[.string ⟨#[]⟩,.nilIface])/\Below w.heap.size w w':=by
 have j0:=hJ.cell 0 (v:=Xw db) rfl;unfold Xw at j0;have lJ:=hJ.lt;have hB0:Below w.heap.size w (((w.alloc (.cells #[.pointer (some ⟨jb,0,none⟩)] 117)).alloc (.cells #[.string ⟨#[]⟩] 9)).alloc (.cells #[.nilIface] 81)):=(((Below.refl _ w).alloc (Nat.le_refl _) _).alloc (by simp) _).alloc (by simp;omega) _;have bP:=((BoxN.new w 117 #[.pointer (some ⟨jb,0,none⟩)]).alloc (.cells #[.string ⟨#[]⟩] 9)).alloc (.cells #[.nilIface] 81);have bS:=(BoxN.new (w.alloc (.cells #[.pointer (some ⟨jb,0,none⟩)] 117)) 9 #[.string ⟨#[]⟩]).alloc (.cells #[.nilIface] 81);have bE:=BoxN.new ((w.alloc (.cells #[.pointer (some ⟨jb,0,none⟩)] 117)).alloc (.cells #[.string ⟨#[]⟩] 9)) 81 #[.nilIface];simp only [World.size_alloc] at bS bE;have hN:=Xcv db md mn fd l f _ (hD.below hB0);unfold Xw at hN;have j0w:=cell_later hB0 j0;have hf1:Fence.wide.fn 180:=trivial;have hf2:Fence.wide.fn 181:=trivial;have hf3:Fence.wide.fn 183:=trivial;refine callsIn_of_wp_marks func146 rfl trivial ?_ rfl;simp only [ntmps146,List.size_toArray,List.length_cons,List.length_nil,Nat.reduceAdd,Nat.reduceSub,Array.replicate_succ,Array.replicate_zero,List.push_toArray,List.append_toArray,List.nil_append,List.cons_append]
 gi_wp2_with (first
  | (gi_at_call 180;refine(callsIn_wide.2 hN).mono ?_;rintro e w1 ⟨rfl,hb1⟩)
  | (gi_at_call 181;refine(callsIn_wide.2 (Xem _)).mono ?_;rintro e w2 ⟨rfl,rfl⟩))
 have hB1:=hB0.trans (hb1.mono (by simp;omega));have bP1:=(bP.below hb1 (by simp;omega)).alloc (.cells #[.slice none 0 0] 272);have bS1:=(bS.below hb1 (by simp)).alloc (.cells #[.slice none 0 0] 272);have bE1:=(bE.below hb1 (by simp)).alloc (.cells #[.slice none 0 0] 272);have bX1:=BoxN.new w1 272 #[.slice none 0 0];have hB2:=hB1.alloc hB1.size (.cells #[.slice none 0 0] 272)
 have hsz:(w1.alloc (.cells #[.slice none 0 0] 272)).heap.size=w1.heap.size+1:=by simp
 have hz1:=hB1.size
 obtain⟨W2,hW2⟩:∃ W2,w1.alloc (.cells #[.slice none 0 0] 272)=W2:=⟨_,rfl⟩
 rw [hW2] at bP1 bS1 bE1 bX1 hB2 hsz ⊢;clear hW2 bP bS bE hN j0w
 have hseq:Xny (α:=Empty) 8 prog 212 #[.pointer (some ⟨w1.heap.size,0,none⟩)] (fun x=>nomatch x) (fun _=>True) (fun _ _=>True) (fun xs=>xs = []) (fun _=>False) 0 W2:=by
  intro l J Jx W hb _ _ _ _ h0;refine(callsIn_wide.2 (Xcr (.func (.yield l) #[] #[]) w1.heap.size W (bX1.below hb bX1.lt))).mono ?_;rintro e W' ⟨rfl,rfl⟩;exact⟨⟨_,rfl⟩,.inl ⟨[],rfl,h0⟩⟩
 refine Uv (n:=9) (by omega) (gf:=212) (lb:=#[.pointer (some ⟨w1.heap.size,0,none⟩)]) rfl (enters_of func212 (by kernel_rfl) rfl) hseq (fun _ _=>trivial) (fun _ _ _ _ _ _ _ _=>trivial) (Below.refl _ _) (fun x=>nomatch x)
  (fun _ V=>((BoxN V w.heap.size 117 #[.pointer (some ⟨jb,0,none⟩)]/\BoxN V (w.heap.size+1) 9 #[.string ⟨#[]⟩])/\BoxN V (w.heap.size+1+1) 81 #[.nilIface])/\Below w.heap.size w V)
  (fun _ _ _=>False)
  (OwnFrom.and (OwnFrom.and (OwnFrom.and (Own.from (X6 _ _ (fun _=>#[.pointer (some ⟨jb,0,none⟩)])) _) (Own.from (X6 _ _ (fun _=>#[.string ⟨#[]⟩])) _)) (Own.from (X6 _ _ (fun _=>#[.nilIface])) _)) (ownFrom_below (Nat.le_refl _) (by omega)))
  (fun _ _ _ _ _ hs _ _=>hs)
  (fun _ _ _=>trivial)
  ⟨⟨⟨bP1,bS1⟩,bE1⟩,hB2⟩
  (fun x _ _=>nomatch x) (fun x=>nomatch x)
  (fun _ _ x=>nomatch x) (fun _ _ x=>nomatch x) ?done ?stop
 case done =>
  rintro D zs V hD0 rfl ⟨⟨⟨bPV,bSV⟩,bEV⟩,hBV⟩ hK;have hF:=Xf9 jb db md mn c1 c2 fd l f V (hJ.below hBV hJ.lt) (hD.below hBV);have p0:=bPV.cell 0 (v:=.pointer (some ⟨jb,0,none⟩)) rfl;have s0:=bSV.cell 0 (v:=.string ⟨#[]⟩) rfl;have s0f:=bSV.frozen 0;have e0:=bEV.cell 0 (v:=.nilIface) rfl;have e0f:=bEV.frozen 0
  gi_wp2_with (gi_at_call 183;refine(callsIn_wide.2 hF).mono ?_;rintro e w3 ⟨rfl,rfl⟩)
  have bS2:=(bSV.set 0 (.string ⟨#[]⟩)).other (B':=w.heap.size+1+1) (by omega) 0 .nilIface;have bE2:=(bEV.other (B':=w.heap.size+1) (by omega) 0 (.string ⟨#[]⟩)).set 0 .nilIface
  have hK2:((w3.setCell ⟨w.heap.size+1,0,none⟩ (.string ⟨#[]⟩)).setCell ⟨w.heap.size+1+1,0,none⟩ .nilIface).heap[D]? = some (.deferred (some [])):=by
   have:=bE1.lt;rw [Yh _ _ _ _ _ (by omega),Yh _ _ _ _ _ (by omega)];exact hK
  have hB5:=(hBV.setCell (p:=⟨w.heap.size+1,0,none⟩) (by simp) (.string ⟨#[]⟩)).setCell (p:=⟨w.heap.size+1+1,0,none⟩) (by simp;omega) .nilIface;generalize (w3.setCell ⟨w.heap.size+1,0,none⟩ (.string ⟨#[]⟩)).setCell ⟨w.heap.size+1+1,0,none⟩ .nilIface=W5 at *;refine⟨by simp,.inl ⟨_,_,rfl,run_takeDeferred hK2,?_⟩⟩;have bS6:BoxN (W5.putObj D (.deferred none)) (w.heap.size+1) 9 (#[.string ⟨#[]⟩].setIfInBounds 0 (.string ⟨#[]⟩)):=(World.putObj_heap_other (by have:=bE1.lt;omega)).trans bS2;have bE6:BoxN (W5.putObj D (.deferred none)) (w.heap.size+1+1) 81 (#[.nilIface].setIfInBounds 0 .nilIface):=(World.putObj_heap_other (by have:=bE1.lt;omega)).trans bE2;have q1:=bS6.cell 0 (v:=.string ⟨#[]⟩) rfl;have q2:=bE6.cell 0 (v:=.nilIface) rfl;exact⟨.tuple #[.string ⟨#[]⟩,.nilIface],by simp [results,results146,go_sem,q1,q2],rfl,hB5.trans (belowK_b (w:=w) (Nat.le_refl _) W5 D _ _ (by omega) hK2 rfl rfl)⟩
 case stop =>
  rintro D c pre V _ _ h _;exact h.elim
end Go.Proofs
