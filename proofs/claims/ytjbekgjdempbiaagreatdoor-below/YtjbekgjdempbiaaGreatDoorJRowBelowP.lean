import Derived.Test.YtjbekgjdempbiaaGreatDoorJRowBelowO
import Derived.Test.YtjbekgjdempbiaaGreatDoorJBlC
import Derived.SliceStrings
import Derived.ChangeMaps5
set_option maxRecDepth 100000
set_option maxHeartbeats 8000000
namespace Go.Proofs.YtjbekgjdempbiaaGreatDoor
open Go.ChangeShapes Go.WideShapes Go.ChangeAt Go.RowKit Go.Proofs
theorem i64_range {n:Int} (h:(Lit.int .i64 n).wf=true) : -9223372036854775808≤n∧n≤9223372036854775807:=by
 simp [Lit.wf,IntKind.min,IntKind.max,IntKind.bits,IntKind.signed] at h;omega
theorem cell_lt {W:World} {a:Addr} {v:Value} (h:W.cell? a=some v):a.block<W.heap.size:=by
 rcases Nat.lt_or_ge a.block W.heap.size with hl | hl
 ·exact hl
 ·simp [World.cell?,Array.getElem?_eq_none hl] at h
theorem openStrs {H:Type} {enc:TypeId × Value→H} {W:World} {fuel:Nat} {a0:Option Addr} {len cap:Nat} {x:DataW H × List MemPlace} (h:DataW.trod enc Tryz.prog W 0 (fun _=>true) true fuel 40 [.slice a0 len cap]=some x) :
  ∃ ps:List (List UInt8),ps.length=len∧StrIn W a0 ps∧len≤cap∧cap≤9223372036854775807∧∀ p∈ps,p.length≤9223372036854775807:=by
 rcases open_strings Tryz.underlying40 Tryz.underlying9 (by kernel_rfl) h with⟨e,-⟩ | ⟨a,len',cap',ss,e,-,hl,hc,hs,-,hcell,hsz⟩
 ·simp at e
  obtain⟨rfl,rfl,rfl⟩:=e;exact⟨[],rfl,fun i p hi=>by simp at hi,Nat.le_refl _,by decide,by simp⟩
 ·simp at e
  obtain⟨rfl,rfl,rfl⟩:=e;simp at hs;refine⟨(ss.take len).map (·.data.toList),by simp;omega,fun i p hi=>?_,hl,hc,fun p hp=>?_⟩
  ·rw [List.getElem?_map] at hi
   obtain⟨s,hsi,rfl⟩:=Option.map_eq_some_iff.1 hi
   have hil:i<len:=by have:=(List.getElem?_eq_some_iff.1 hsi).1;simp at this;omega
   have hg:ss[i]? = some s:=by rwa [List.getElem?_take,if_pos hil] at hsi
   have h1:=hcell i (by have:=(List.getElem?_eq_some_iff.1 hg).1;omega);rw [List.getD_eq_getElem?_getD,hg] at h1;obtain⟨b,off,spot⟩:=a
   have hspot:spot=none:=by
    have:=World.cell?_spot (hcell 0 (by have:=(List.getElem?_eq_some_iff.1 hg).1;omega))
    simpa [Addr.add] using this
   subst hspot
   have e2:(⟨b,off,none⟩:Addr).add i=⟨b,off+i,none⟩:=by
    by_cases h0:i=0
    ·subst h0;simp [Addr.add]
    ·simp [Addr.add,h0]
   rw [e2] at h1;refine⟨b,off,rfl,cell_lt h1,?_⟩;obtain⟨⟨sl⟩⟩:=s
   simpa using h1
  ·obtain⟨s,hs',rfl⟩:=List.mem_map.1 hp
   exact hsz s (List.mem_of_mem_take hs')
theorem contract (H:Type) (enc:TypeId × Value→H) (W:World) (base:Nat) (args:Array Value) (ds gs:List (DataW H)) (before:List MemPlace)
  (hval:∀(j:Nat) t v,Tryz.f12.params[j]? = some t→args[j]? = some v→Value.okWide Tryz.prog W .any base t v)
  (hW:DataW.Whole enc Tryz.prog Tryz.f12.params.toList Rows.belowSpec.vars false W args.toList ds gs before)
  (hL:laidMetH Tryz.prog Rows.belowRow.laid W) (hsh:W.ShapedOpen Tryz.prog) :
  Calls Tryz.prog 12 args W fun e W'=>∃ v,e=.returned v∧Rows.belowSpec.post enc Tryz.prog Tryz.f12 false true false false W args v W':=by
 have hW':=hW;obtain⟨p,q,hA0,hV0,rfl,hfz,hnd⟩:=hW;have hA:DataW.TrodAll enc Tryz.prog W 0 (fun _=>true) true Tryz.f12.params.toList args.toList ds p:=hA0;have hV:DataW.TrodVars enc Tryz.prog W (fun _=>true) [] gs q:=hV0;rw [Tryz.params12] at hA hval;obtain⟨v0,v1,v2,d0,d1,d2,p0,p1,p2,rfl,rfl,rfl,h0,h1,h2⟩:=trodAll_three hA;obtain⟨rfl,rfl⟩:=trodVars_none hV;obtain⟨a0,len,cap,rfl⟩:=okWide_slice Tryz.underlying40 (hval 0 40 v0 rfl rfl);obtain⟨s,rfl,rfl,rfl,ws⟩:=Go.ChangeMaps.open_string Tryz.underlying9 (hval 1 9 v1 rfl rfl) h1;obtain⟨u,rfl,rfl,rfl,wu⟩:=open_int Tryz.underlying3 (hval 2 3 v2 rfl rfl) h2;have h0k:=h0;obtain⟨fuel,hf⟩:=h0;simp only [List.append_nil] at hW'
 have hlt:∀ y∈p0,y.block<W.heap.size:=fun y hy=>by simpa using hW'.lt y (by simp [hy])
 have harg0:∀ W':World,Below W.heap.size W W'→DataW.Trod enc Tryz.prog W' 0 (fun b=>decide (b<W.heap.size)) true 40 (.slice a0 len cap) d0 p0:=
  fun W' hn=>Below.trod laidOut (by kernel_rfl) (of_decide_eq_true (by kernel_rfl)) h0k hn hlt
 obtain⟨ps,rfl,hps,hl,hc,hpl⟩:=openStrs (x:=(d0,p0)) hf;obtain⟨hE,h9⟩:=env hL;obtain⟨u0,u1⟩:=i64_range wu;have ws':s.data.toList.length≤9223372036854775807:=ws;obtain⟨⟨sl⟩⟩:=s;refine(Tryz.below a0 cap ps sl u u0 u1 W hps hl hc ws' hpl h9 hE (errT hL hsh)).mono ?_;rintro e W' ⟨rfl,hn⟩;exact⟨_,rfl,_,_,_,[],_,[],hW',trodAll_mk1 (shut_bool Tryz.underlying4 true),trodAll_mk3 (harg0 _ hn) (Go.ChangeMaps.shut_string Tryz.underlying9 ws) (shut_int Tryz.underlying3 wu),rfl,hn.frame _,fun h=>by cases h⟩
end Go.Proofs.YtjbekgjdempbiaaGreatDoor
