import Derived.Test.YtjbekgjdempbiaaGreatDoorJRefP
import Derived.Test.YtjbekgjdempbiaaGreatDoorJCCodeE
import Derived.Test.YtjbekgjdempbiaaGreatDoorJCVIssue
set_option maxRecDepth 100000
set_option maxHeartbeats 8000000
namespace Go.Proofs
open Go.RowKit Go.Sort Go.Lib Go.Shelf Go.Maps
theorem Tryz.wait (n:Nat) (f:Int) (hf:f=(n:Int)+1) (hn:f<=9223372036854775807) (w:World):Calls prog 199 #[.int .i64 f] w fun e w'=>e=.returned (.int .u64 (waitN n))/\w'=w:=by
 have Hf:=Xb hf
 obtain⟨r,hr⟩:∃ r,waitN n=r:=⟨_,rfl⟩
 rw [hr];have Hr:=Xb hr
 have h1:1<=f:=by omega
 clear hf hr;go_enter func199,ntmps199;go_wp2
 go_loopw [3,4] (fun x i wr=>∃ k:Nat,(k:Int)+1<=f/\k<=4/\i=.int .i64 ((k:Int)+1)/\x=.int .u64 (waitN k)/\wr=w) (fun _ i _=>5-(intOf i).toNat)
 case atStart=>exact⟨0,by omega,by omega,rfl,rfl,rfl⟩
 case round =>
  obtain⟨k,hk,hk4,rfl,rfl,rfl⟩:=hrel
  by_cases hlt:(k:Int)+1<f
  ·by_cases h4:k<4
   ·obtain⟨hx,hx0,hx2⟩:=Xfj h4
    have HX:=Xb hx2;generalize waitN k=x at *;clear hx2;go_wp2;exact⟨⟨k+1,by omega,by omega,congrArg (Value.int .i64) (by omega),by rw [<- Xa HX];exact⟨rfl,trivial⟩⟩,by simp [intOf];omega⟩
   have hx:waitN k=32:=M9 (by omega);have hfin:Hid (32=r):=Xb (by rw [<- Xa Hr];exact(M9 (by have:=Xa Hf;omega)).symm);rw [hx];clear hx;go_wp2;go_ret;exact⟨Yj (Xa hfin),rfl⟩
  have hfin:Hid (waitN k=r):=Xb (by rw [<- Xa Hr,show n=k by have:=Xa Hf;omega]);have hxl:=Xbi k;generalize waitN k=x at *;go_wp2;go_ret;exact⟨Yj (by rw [<- Xa hfin];omega),rfl⟩
theorem Tryz.Xoa (b:Nat) (ty:TypeId) (ak au at_ tr tm:Int) (pd:Bool) (rest:List Value) (w:World) (hB:BoxN w b ty (#[.int .i64 ak,.int .u64 au,.int .u64 at_,.int .i64 tr,.bool pd] ++ rest.toArray)) (h0:0<=tr) (h1:tr<9223372036854775807) (t0:0<=tm) (t1:tm<=18446744073709551615) :
  Calls prog 168 #[.pointer (some ⟨b,0,none⟩),.int .u64 tm] w fun e w'=>e=.returned (.tuple #[])/\BoxN w' b ty (#[.int .i64 ak,.int .u64 au,.int .u64 (plusI tm (waitN tr.toNat)),.int .i64 (tr+1),.bool true] ++ rest.toArray)/\Spares [b] w w':=by
 have hW:=fun W=>wait tr.toNat (tr+1) (by omega) (by omega) W
 have hwl:=Xbi tr.toNat
 have hL:=fun W=>later tm (waitN tr.toNat) t0 t1 (by omega) (by omega) W
 generalize plusI tm (waitN tr.toNat)=at2 at *;generalize waitN tr.toNat=wn at *;have c2:=hB.cell 2 (v:=.int .u64 at_) (by simp);have c3:=hB.cell 3 (v:=.int .i64 tr) (by simp);have c4:=hB.cell 4 (v:=.bool pd) (by simp);have f2:=hB.frozen 2;have f3:=hB.frozen 3;have f4:=hB.frozen 4;have hfin:=((hB.set 4 (.bool true)).set 3 (.int .i64 (tr+1))).set 2 (.int .u64 at2);have HF:=Xb hfin;clear hfin;go_enter func168,ntmps168
 go_wp2_with (first
  | (go_at_call 199;refine(hW _).mono ?_;rintro e w1 ⟨rfl,rfl⟩)
  | (go_at_call 65;refine(hL _).mono ?_;rintro e w2 ⟨rfl,rfl⟩))
 go_end0
 refine⟨rfl,?_,(((Spares.of_below (Below.refl _ w)).set (by simp) _ _).set (by simp) _ _).set (by simp) _ _⟩;have:=Xa HF
 simpa using this
end Go.Proofs
