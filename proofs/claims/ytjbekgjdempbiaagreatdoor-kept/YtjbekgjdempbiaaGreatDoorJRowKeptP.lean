import Derived.Test.YtjbekgjdempbiaaGreatDoorJRowKeptO
set_option maxRecDepth 100000
set_option maxHeartbeats 8000000
namespace Go.Proofs.YtjbekgjdempbiaaGreatDoor
open Go.ChangeShapes Go.WideShapes Go.ChangeAt Go.RowKit Go.Proofs
theorem Xre (H:Type) (enc:TypeId × Value->H) (W:World) (base:Nat) (args:Array Value) (ds gs:List (DataW H)) (before:List MemPlace)
  (hval:∀(j:Nat) t v,Tryz.f5.params[j]? = some t->args[j]? = some v->Value.okWide Tryz.prog W .any base t v)
  (hW:DataW.Whole enc Tryz.prog Tryz.f5.params.toList Rows.keptSpec.vars false W args.toList ds gs before)
  (hsz0:(DataW.weightsEach Tryz.prog (Tryz.f5.params.toList++(OpenSpec.ofChange Rows.keptSpec).bare.plain.varTypes Tryz.prog) (ds++gs)).all (· <= reachBytes)=true) (hL:laidMetH Tryz.prog Rows.keptRow.laid W) (hsh:W.ShapedOpen Tryz.prog) :
  Calls Tryz.prog 5 args W fun e W'=>∃ v,e=.returned v/\Rows.keptSpec.post enc Tryz.prog Tryz.f5 false true false false W args v W':=by
 have hW':=hW;obtain⟨p,q,hA0,hV0,rfl,hfz,hnd⟩:=hW;have hA:DataW.TrodAll enc Tryz.prog W 0 (fun _=>true) true Tryz.f5.params.toList args.toList ds p:=hA0;have hV:DataW.TrodVars enc Tryz.prog W (fun _=>true) [] gs q:=hV0;rw [Tryz.params5] at hA hval hsz0;obtain⟨v0,d0,rfl,rfl,h0⟩:=trodAll_one hA;obtain⟨rfl,rfl⟩:=trodVars_none hV;obtain⟨a0,len,cap,rfl⟩:=okWide_slice Tryz.underlying22 (hval 0 22 v0 rfl rfl);have h0k:=h0;obtain⟨fuel,hf⟩:=h0;simp only [List.append_nil] at hW'
 have hlt:∀ y∈p,y.block<W.heap.size:=fun y hy=>by simpa using hW'.lt y (by simp [hy])
 have harg0:∀ W':World,Below W.heap.size W W'->DataW.Trod enc Tryz.prog W' 0 (fun b=>decide (b<W.heap.size)) true 22 (.slice a0 len cap) d0 p:=
  fun W' hn=>Below.trod laidOut (by kernel_rfl) (of_decide_eq_true (by kernel_rfl)) h0k hn hlt
 have hsz:∀ y∈d0.weights Tryz.prog 22,y<=reachBytes:=fun y hy=>by
  have:=List.all_eq_true.1 hsz0 y (DataW.weights_mem_each (j:=0) (t:=22) (d:=d0) rfl rfl y hy)
  simpa using this
 obtain⟨S,rfl,hS,hpl,hl,hz,hok⟩:=Tryz.Xks (x:=(d0,p)) hf hsz;obtain⟨hE,h6⟩:=env hL;refine(Tryz.kept a0 cap S W hS hpl hl hz hok h6 hE (errT hL hsh)).mono ?_;rintro e W' ⟨rfl,hn⟩;exact⟨_,rfl,_,_,_,[],_,[],hW',trodAll_mk1 (shut_bool Tryz.underlying4 true),trodAll_mk1 (harg0 _ hn),rfl,hn.frame _,fun h=>by cases h⟩
end Go.Proofs.YtjbekgjdempbiaaGreatDoor
