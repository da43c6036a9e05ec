import Derived.Test.YtjbekgjdempbiaaGreatDoorJRefB
import Derived.Test.YtjbekgjdempbiaaGreatDoorJMapOps
import Derived.Stop.RegionWithIn
set_option maxRecDepth 100000
set_option maxHeartbeats 8000000
namespace Go.Proofs
open Go.RowKit Go.Sort Go.Lib Go.Shelf
def ofStr (o:Int):List UInt8:=if 0≤o then 116 :: Lib.decDigits o.toNat else []
def ThingD.info (tm:Int) (t:ThingD):InfoD:=⟨t.id,t.state tm,t.at_,t.tries,ofStr t.of_,t.pth⟩
theorem BoxN.c6 {W:World} {b:Nat} {t:TypeId} {c0 c1 c2 c3 c4 c5:Value} (h:BoxN W b t #[c0,c1,c2,c3,c4,c5]) :
  (W.cell? ⟨b,0,none⟩=some c0∧W.cell? ⟨b,1,none⟩=some c1∧W.cell? ⟨b,2,none⟩=some c2∧W.cell? ⟨b,3,none⟩=some c3∧W.cell? ⟨b,4,none⟩=some c4∧W.cell? ⟨b,5,none⟩=some c5) ∧
  (W.frozen? ⟨b,0,none⟩=false∧W.frozen? ⟨b,1,none⟩=false∧W.frozen? ⟨b,2,none⟩=false∧W.frozen? ⟨b,3,none⟩=false∧W.frozen? ⟨b,4,none⟩=false∧W.frozen? ⟨b,5,none⟩=false):=
 ⟨⟨h.cell 0 rfl,h.cell 1 rfl,h.cell 2 rfl,h.cell 3 rfl,h.cell 4 rfl,h.cell 5 rfl⟩,h.frozen 0,h.frozen 1,h.frozen 2,h.frozen 3,h.frozen 4,h.frozen 5⟩
abbrev zero6:Array Value:=#[.string ⟨#[]⟩,.int .i64 0,.int .u64 0,.int .i64 0,.string ⟨#[]⟩,.string ⟨#[]⟩]
def allInfos (tm:Int) (L:List ThingD):List InfoD:=((L.filter (fun t=>t.token))++(L.filter (fun t=>!t.token))).map (ThingD.info tm)
end Go.Proofs
namespace Go.Proofs
open Go.RowKit Go.Sort
def noDefer (ops:Array Oper):Bool:=ops.all fun o=>match o.op with | .defer _=>false | _=>true
theorem noDefer_spec {ops:Array Oper} (h:noDefer ops=true) {i:Nat} {o:Oper} (ho:ops[i]? = some o):∀ c,o.op ≠ .defer c:=fun c hc=>by
 obtain⟨hi,he⟩:=Array.getElem?_eq_some_iff.1 ho;have:=(Array.all_eq_true.1 h) i hi;rw [he,hc] at this;cases this
section
variable {n:Nat} {P:Program} {md:Region.Mode} {ops:Array Oper} {Q:Exit→Act→World→Prop}
theorem oper_inRound (l:Nat) {o:Oper} (hd:∀ c,o.op ≠ .defer c) {a:Act} {w:World} {K:Act→World→Prop} (h:o.wpIn Fence.wide n P a w K Q):o.wpIn (Fence.wide.inRound l) n P a w K Q:=by
 unfold Oper.wpIn at h ⊢;rw [Oper.semAt_eq _ _ _ hd] at h ⊢;exact h
theorem wpAnyIn_inRound (l:Nat) (hd:noDefer ops=true):∀(fuel:Nat) (listed:Array Bool) (a:Act) (w:World),wpAnyIn Fence.wide n P md ops Q fuel listed a w→wpAnyIn (Fence.wide.inRound l) n P md ops Q fuel listed a w
 | 0,_,_,_,h=>h
 | fuel+1,listed,a,w,h=>by
  refine⟨h.1,fun i hi=>?_⟩;have hs:=h.2 i hi;unfold wpOpIn at hs ⊢
  cases ho:ops[i]? with
  | none=>rw [ho] at hs;exact wpAnyIn_inRound l hd fuel _ _ _ hs
  | some o =>
   rw [ho] at hs;simp only at hs ⊢
   split
   ·rename_i hw
    rw [if_pos hw] at hs;exact oper_inRound l (noDefer_spec hd ho) (Oper.wpIn_mono (fun a w=>wpAnyIn_inRound l hd fuel _ a w) hs)
   ·rename_i hw
    rw [if_neg hw] at hs;exact⟨hs.1,wpAnyIn_inRound l hd fuel _ _ _ hs.2⟩
end
end Go.Proofs
