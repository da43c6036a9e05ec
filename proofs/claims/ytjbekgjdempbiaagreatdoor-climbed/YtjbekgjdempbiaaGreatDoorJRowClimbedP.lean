import Derived.Test.YtjbekgjdempbiaaGreatDoorJRowClimbedO
import Derived.Test.YtjbekgjdempbiaaGreatDoorJClJ
import Derived.ChangeSlices
import Derived.Carry
import Derived.ChangeMaps5
set_option maxRecDepth 100000
set_option maxHeartbeats 8000000
namespace Go.Proofs.YtjbekgjdempbiaaGreatDoor
open Go.ChangeShapes Go.WideShapes Go.ChangeAt Go.RowKit Go.Proofs
theorem i64_range {n:Int} (h:(Lit.int .i64 n).wf=true) : -9223372036854775808≤n∧n≤9223372036854775807:=by
 simp [Lit.wf,IntKind.min,IntKind.max,IntKind.bits,IntKind.signed] at h;omega
theorem cell_lt {W:World} {a:Addr} {v:Value} (h:W.cell? a=some v):a.block<W.heap.size:=by
 rcases Nat.lt_or_ge a.block W.heap.size with hl | hl
 ·exact hl
 ·simp [World.cell?,Array.getElem?_eq_none hl] at h
theorem openInts {H:Type} {enc:TypeId × Value→H} {W:World} {fuel:Nat} {a0:Option Addr} {len cap:Nat} {x:DataW H × List MemPlace} (h:DataW.trod enc Tryz.prog W 0 (fun _=>true) true fuel 24 [.slice a0 len cap]=some x) :
  ∃ us:List Int,us.length=len∧IntIn W a0 us∧len≤cap∧cap≤9223372036854775807∧∀ u∈us,-9223372036854775808≤u∧u≤9223372036854775807:=by
 rcases open_ints Tryz.underlying24 Tryz.underlying3 (by kernel_rfl) h with⟨e,-⟩ | ⟨a,len',cap',zs,e,-,hl,hc,hs,-,hcell,hsz⟩
 ·simp at e
  obtain⟨rfl,rfl,rfl⟩:=e;exact⟨[],rfl,fun i p hi=>by simp at hi,Nat.le_refl _,by decide,by simp⟩
 ·simp at e
  obtain⟨rfl,rfl,rfl⟩:=e;simp at hs;refine⟨zs.take len,by simp;omega,fun i u hi=>?_,hl,hc,fun u hu=>i64_range (hsz u (List.mem_of_mem_take hu))⟩
  have hil:i<len:=by have:=(List.getElem?_eq_some_iff.1 hi).1;simp at this;omega
  have hg:zs[i]? = some u:=by rwa [List.getElem?_take,if_pos hil] at hi
  have h1:=hcell i (by have:=(List.getElem?_eq_some_iff.1 hg).1;omega);rw [List.getD_eq_getElem?_getD,hg] at h1;obtain⟨b,off,spot⟩:=a
  have hspot:spot=none:=by
   have:=World.cell?_spot (hcell 0 (by have:=(List.getElem?_eq_some_iff.1 hg).1;omega))
   simpa [Addr.add] using this
  subst hspot
  have e2:(⟨b,off,none⟩:Addr).add i=⟨b,off+i,none⟩:=by
   by_cases h0:i=0
   ·subst h0;simp [Addr.add]
   ·simp [Addr.add,h0]
  rw [e2] at h1;exact⟨b,off,rfl,cell_lt h1,by simpa using h1⟩
theorem contract (H:Type) (enc:TypeId × Value→H) (W:World) (base:Nat) (args:Array Value) (ds gs:List (DataW H)) (before:List MemPlace)
  (hval:∀(j:Nat) t v,Tryz.f10.params[j]? = some t→args[j]? = some v→Value.okWide Tryz.prog W .any base t v)
  (hW:DataW.Whole enc Tryz.prog Tryz.f10.params.toList Rows.climbedSpec.vars false W args.toList ds gs before)
  (hL:laidMetH Tryz.prog Rows.climbedRow.laid W) (hsh:W.ShapedOpen Tryz.prog) :
  Calls Tryz.prog 10 args W fun e W'=>∃ v,e=.returned v∧Rows.climbedSpec.post enc Tryz.prog Tryz.f10 false true false false W args v W':=by
 have hW':=hW;obtain⟨p,q,hA0,hV0,rfl,hfz,hnd⟩:=hW;have hA:DataW.TrodAll enc Tryz.prog W 0 (fun _=>true) true Tryz.f10.params.toList args.toList ds p:=hA0;have hV:DataW.TrodVars enc Tryz.prog W (fun _=>true) [] gs q:=hV0;rw [Tryz.params10] at hA hval;obtain⟨v0,v1,v2,v3,d0,d1,d2,d3,p0,p1,p2,p3,rfl,rfl,rfl,h0,h1,h2,h3⟩:=trodAll_four hA;obtain⟨rfl,rfl⟩:=trodVars_none hV;obtain⟨a0,len,cap,rfl⟩:=okWide_slice Tryz.underlying24 (hval 0 24 v0 rfl rfl);obtain⟨x,rfl,rfl,rfl,wx⟩:=open_int Tryz.underlying3 (hval 1 3 v1 rfl rfl) h1;obtain⟨y,rfl,rfl,rfl,wy⟩:=open_int Tryz.underlying3 (hval 2 3 v2 rfl rfl) h2;obtain⟨z,rfl,rfl,rfl,wz⟩:=open_int Tryz.underlying3 (hval 3 3 v3 rfl rfl) h3;have h0k:=h0;obtain⟨fuel,hf⟩:=h0;simp only [List.append_nil] at hW'
 have hlt:∀ y∈p0,y.block<W.heap.size:=fun y hy=>by simpa using hW'.lt y (by simp [hy])
 have harg0:∀ W':World,Below W.heap.size W W'→DataW.Trod enc Tryz.prog W' 0 (fun b=>decide (b<W.heap.size)) true 24 (.slice a0 len cap) d0 p0:=
  fun W' hn=>Below.trod laidOut (by kernel_rfl) (of_decide_eq_true (by kernel_rfl)) h0k hn hlt
 obtain⟨us,rfl,hus,hl,hc,hub⟩:=openInts (x:=(d0,p0)) hf;obtain⟨hE,h9⟩:=env hL;obtain⟨x0,x1⟩:=i64_range wx;obtain⟨y0,y1⟩:=i64_range wy;obtain⟨z0,z1⟩:=i64_range wz;refine(Tryz.climbed a0 cap us x y z x0 x1 y0 y1 z0 z1 W hus hub hl hc h9 hE (errT hL hsh)).mono ?_;rintro e W' ⟨rfl,hn⟩;exact⟨_,rfl,_,_,_,[],_,[],hW',trodAll_mk1 (shut_bool Tryz.underlying4 true),trodAll_mk4 (harg0 _ hn) (shut_int Tryz.underlying3 wx) (shut_int Tryz.underlying3 wy) (shut_int Tryz.underlying3 wz),rfl,hn.frame _,fun h=>by cases h⟩
end Go.Proofs.YtjbekgjdempbiaaGreatDoor
