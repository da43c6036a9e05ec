import Derived.Test.YtjbekgjdempbiaaGreatDoorJCodeA
import Derived.Test.YtjbekgjdempbiaaGreatDoorJSpare
set_option maxRecDepth 100000
set_option maxHeartbeats 8000000
namespace Go.Proofs
open Go.RowKit Go.Sort Go.Lib Go.Shelf Go.Maps Go.WideMaps
def putTok (t:TokE) (l:List TokE):List TokE:=if l.any (fun x=>x.n==t.n) then l.map (fun x=>if x.n=t.n then t else x) else l ++ [t]
def delTok (n:Nat) (l:List TokE):List TokE:=l.filter (fun x=>x.n != n)
theorem keyTok_iff (x t:TokE):(TokE.key x).1=(TokE.key t).1↔x.n=t.n:=by
 simp [TokE.key];omega
theorem putTok_split {t:TokE} {l:List TokE} (hs:l.Pairwise (fun a b=>a.n<b.n)):(∃ a x b,l=a++x :: b∧x.n=t.n∧putTok t l=a++t :: b∧(∀ y∈a++b,y.n≠t.n))∨((∀ y∈l,y.n≠t.n)∧putTok t l=l ++ [t]):=by
 by_cases h:l.any (fun x=>x.n==t.n)=true
 ·obtain⟨x,hx,hn⟩:=List.any_eq_true.1 h
  have hn:x.n=t.n:=by simpa using hn
  obtain⟨a,b,rfl⟩:=List.append_of_mem hx;obtain⟨h1,h2,h3⟩:=List.pairwise_append.1 hs;obtain⟨h4,h5⟩:=List.pairwise_cons.1 h2
  have hne:∀ y∈a++b,y.n≠t.n:=fun y hy=>by
   rcases List.mem_append.1 hy with hy | hy
   ·have:=h3 y hy x (by simp);omega
   ·have:=h4 y hy;omega
  refine .inl ⟨a,x,b,rfl,hn,?_,hne⟩;unfold putTok;rw [if_pos h,List.map_append,List.map_cons,if_pos hn]
  have m:∀ c:List TokE,(∀ y∈c,y.n≠t.n)→c.map (fun x=>if x.n=t.n then t else x)=c:=fun c hc=>by
   conv=>rhs;rw [← List.map_id c]
   exact List.map_congr_left fun y hy=>by simp [hc y hy]
  rw [m a (fun y hy=>hne y (by simp [hy])),m b (fun y hy=>hne y (by simp [hy]))]
 ·have hf:l.any (fun x=>x.n==t.n)=false:=by simpa using h
  refine .inr ⟨fun y hy e=>?_,by unfold putTok;rw [if_neg h]⟩;exact h (List.any_eq_true.2 ⟨y,hy,by simpa using e⟩)
theorem putTok_perm {l:List TokE} (hs:l.Pairwise (fun a b=>a.n<b.n)) (t:TokE):((TokE.key t) :: ((l.map TokE.key).reverse.filter (fun p=>decide (p.1≠(TokE.key t).1)))).Perm ((putTok t l).map TokE.key).reverse:=by
 have keep:∀ c:List TokE,(∀ y∈c,y.n≠t.n)→(c.map TokE.key).reverse.filter (fun p=>decide (p.1≠(TokE.key t).1))=(c.map TokE.key).reverse:=fun c hc=>List.filter_eq_self.2 fun p hp=>by
  obtain⟨y,hy,rfl⟩:=List.mem_map.1 (List.mem_reverse.1 hp)
  simpa using fun e=>hc y hy ((keyTok_iff y t).1 e)
 rcases putTok_split (t:=t) hs with⟨a,x,b,rfl,hn,hp,hne⟩ | ⟨hne,hp⟩
 ·rw [hp]
  simp only [List.map_append,List.map_cons,List.reverse_append,List.reverse_cons,List.filter_append,List.append_assoc];rw [keep a (fun y hy=>hne y (by simp [hy])),keep b (fun y hy=>hne y (by simp [hy]))]
  have e : [TokE.key x].filter (fun p=>decide (p.1≠(TokE.key t).1)) = []:=by
   simp [(keyTok_iff x t).2 hn]
  rw [e,List.nil_append];exact List.perm_middle.symm
 ·rw [hp,keep l hne,List.map_append,List.reverse_append]
  exact List.Perm.refl _
theorem delTok_filter (n:Nat) (l:List TokE) (t:TokE) (ht:t.n=n):(l.map TokE.key).reverse.filter (fun p=>decide (p.1≠(TokE.key t).1))=((delTok n l).map TokE.key).reverse:=by
 unfold delTok;rw [List.filter_reverse,List.filter_map]
 congr 2
 refine List.filter_congr fun x _=>?_
 have:=keyTok_iff x t;rw [ht] at this
 by_cases e:x.n=n
 ·simp [e,this.2 e]
 ·have h2:(TokE.key x).1≠(TokE.key t).1:=fun h=>e (this.1 h)
  simp [e,h2]
theorem putTok_mem {t y:TokE} {l:List TokE} (hs:l.Pairwise (fun a b=>a.n<b.n)) (h:y∈putTok t l):y=t∨y∈l:=by
 rcases putTok_split (t:=t) hs with⟨a,x,b,rfl,hn,hp,hne⟩ | ⟨hne,hp⟩
 ·rw [hp] at h
  simp at h ⊢
  rcases h with h | h | h
  ·exact .inr (.inl h)
  ·exact .inl h
  ·exact .inr (.inr (.inr h))
 ·rw [hp] at h
  simp at h
  rcases h with h | h
  ·exact .inr h
  ·exact .inl h
theorem putTok_len {t:TokE} {l:List TokE} (hs:l.Pairwise (fun a b=>a.n<b.n)):(putTok t l).length≤l.length+1:=by
 rcases putTok_split (t:=t) hs with⟨a,x,b,rfl,hn,hp,hne⟩ | ⟨hne,hp⟩
 ·rw [hp];simp
 ·rw [hp];simp
def FitsTok (t:TokE) (l:List TokE):Prop:=(∃ x∈l,x.n=t.n)∨∀ x∈l,x.n<t.n
theorem putTok_inc {t:TokE} {l:List TokE} (hs:l.Pairwise (fun a b=>a.n<b.n)) (hf:FitsTok t l):(putTok t l).Pairwise (fun a b=>a.n<b.n):=by
 rcases putTok_split (t:=t) hs with⟨a,x,b,rfl,hn,hp,hne⟩ | ⟨hne,hp⟩
 ·rw [hp]
  obtain⟨h1,h2,h3⟩:=List.pairwise_append.1 hs;obtain⟨h4,h5⟩:=List.pairwise_cons.1 h2;refine List.pairwise_append.2 ⟨h1,List.pairwise_cons.2 ⟨fun y hy=>by rw [← hn];exact h4 y hy,h5⟩,fun y hy z hz=>?_⟩
  rcases List.mem_cons.1 hz with rfl | hz
  ·rw [← hn];exact h3 y hy x (by simp)
  ·exact h3 y hy z (List.mem_cons_of_mem _ hz)
 ·rw [hp]
  refine List.pairwise_append.2 ⟨hs,by simp,fun y hy z hz=>?_⟩;rw [List.mem_singleton.1 hz]
  rcases hf with⟨x,hx,e⟩ | h
  ·exact absurd e (hne x hx)
  ·exact h y hy
def putLea (t:LeaE) (l:List LeaE):List LeaE:=if l.any (fun x=>x.n==t.n) then l.map (fun x=>if x.n=t.n then t else x) else l ++ [t]
def delLea (n:Nat) (l:List LeaE):List LeaE:=l.filter (fun x=>x.n != n)
theorem keyLea_iff (x t:LeaE):(LeaE.key x).1=(LeaE.key t).1↔x.n=t.n:=by
 simp [LeaE.key];omega
theorem putLea_split {t:LeaE} {l:List LeaE} (hs:l.Pairwise (fun a b=>a.n<b.n)):(∃ a x b,l=a++x :: b∧x.n=t.n∧putLea t l=a++t :: b∧(∀ y∈a++b,y.n≠t.n))∨((∀ y∈l,y.n≠t.n)∧putLea t l=l ++ [t]):=by
 by_cases h:l.any (fun x=>x.n==t.n)=true
 ·obtain⟨x,hx,hn⟩:=List.any_eq_true.1 h
  have hn:x.n=t.n:=by simpa using hn
  obtain⟨a,b,rfl⟩:=List.append_of_mem hx;obtain⟨h1,h2,h3⟩:=List.pairwise_append.1 hs;obtain⟨h4,h5⟩:=List.pairwise_cons.1 h2
  have hne:∀ y∈a++b,y.n≠t.n:=fun y hy=>by
   rcases List.mem_append.1 hy with hy | hy
   ·have:=h3 y hy x (by simp);omega
   ·have:=h4 y hy;omega
  refine .inl ⟨a,x,b,rfl,hn,?_,hne⟩;unfold putLea;rw [if_pos h,List.map_append,List.map_cons,if_pos hn]
  have m:∀ c:List LeaE,(∀ y∈c,y.n≠t.n)→c.map (fun x=>if x.n=t.n then t else x)=c:=fun c hc=>by
   conv=>rhs;rw [← List.map_id c]
   exact List.map_congr_left fun y hy=>by simp [hc y hy]
  rw [m a (fun y hy=>hne y (by simp [hy])),m b (fun y hy=>hne y (by simp [hy]))]
 ·have hf:l.any (fun x=>x.n==t.n)=false:=by simpa using h
  refine .inr ⟨fun y hy e=>?_,by unfold putLea;rw [if_neg h]⟩;exact h (List.any_eq_true.2 ⟨y,hy,by simpa using e⟩)
theorem putLea_perm {l:List LeaE} (hs:l.Pairwise (fun a b=>a.n<b.n)) (t:LeaE):((LeaE.key t) :: ((l.map LeaE.key).reverse.filter (fun p=>decide (p.1≠(LeaE.key t).1)))).Perm ((putLea t l).map LeaE.key).reverse:=by
 have keep:∀ c:List LeaE,(∀ y∈c,y.n≠t.n)→(c.map LeaE.key).reverse.filter (fun p=>decide (p.1≠(LeaE.key t).1))=(c.map LeaE.key).reverse:=fun c hc=>List.filter_eq_self.2 fun p hp=>by
  obtain⟨y,hy,rfl⟩:=List.mem_map.1 (List.mem_reverse.1 hp)
  simpa using fun e=>hc y hy ((keyLea_iff y t).1 e)
 rcases putLea_split (t:=t) hs with⟨a,x,b,rfl,hn,hp,hne⟩ | ⟨hne,hp⟩
 ·rw [hp]
  simp only [List.map_append,List.map_cons,List.reverse_append,List.reverse_cons,List.filter_append,List.append_assoc];rw [keep a (fun y hy=>hne y (by simp [hy])),keep b (fun y hy=>hne y (by simp [hy]))]
  have e : [LeaE.key x].filter (fun p=>decide (p.1≠(LeaE.key t).1)) = []:=by
   simp [(keyLea_iff x t).2 hn]
  rw [e,List.nil_append];exact List.perm_middle.symm
 ·rw [hp,keep l hne,List.map_append,List.reverse_append]
  exact List.Perm.refl _
theorem delLea_filter (n:Nat) (l:List LeaE) (t:LeaE) (ht:t.n=n):(l.map LeaE.key).reverse.filter (fun p=>decide (p.1≠(LeaE.key t).1))=((delLea n l).map LeaE.key).reverse:=by
 unfold delLea;rw [List.filter_reverse,List.filter_map]
 congr 2
 refine List.filter_congr fun x _=>?_
 have:=keyLea_iff x t;rw [ht] at this
 by_cases e:x.n=n
 ·simp [e,this.2 e]
 ·have h2:(LeaE.key x).1≠(LeaE.key t).1:=fun h=>e (this.1 h)
  simp [e,h2]
theorem putLea_mem {t y:LeaE} {l:List LeaE} (hs:l.Pairwise (fun a b=>a.n<b.n)) (h:y∈putLea t l):y=t∨y∈l:=by
 rcases putLea_split (t:=t) hs with⟨a,x,b,rfl,hn,hp,hne⟩ | ⟨hne,hp⟩
 ·rw [hp] at h
  simp at h ⊢
  rcases h with h | h | h
  ·exact .inr (.inl h)
  ·exact .inl h
  ·exact .inr (.inr (.inr h))
 ·rw [hp] at h
  simp at h
  rcases h with h | h
  ·exact .inr h
  ·exact .inl h
theorem putLea_len {t:LeaE} {l:List LeaE} (hs:l.Pairwise (fun a b=>a.n<b.n)):(putLea t l).length≤l.length+1:=by
 rcases putLea_split (t:=t) hs with⟨a,x,b,rfl,hn,hp,hne⟩ | ⟨hne,hp⟩
 ·rw [hp];simp
 ·rw [hp];simp
def FitsLea (t:LeaE) (l:List LeaE):Prop:=(∃ x∈l,x.n=t.n)∨∀ x∈l,x.n<t.n
theorem putLea_inc {t:LeaE} {l:List LeaE} (hs:l.Pairwise (fun a b=>a.n<b.n)) (hf:FitsLea t l):(putLea t l).Pairwise (fun a b=>a.n<b.n):=by
 rcases putLea_split (t:=t) hs with⟨a,x,b,rfl,hn,hp,hne⟩ | ⟨hne,hp⟩
 ·rw [hp]
  obtain⟨h1,h2,h3⟩:=List.pairwise_append.1 hs;obtain⟨h4,h5⟩:=List.pairwise_cons.1 h2;refine List.pairwise_append.2 ⟨h1,List.pairwise_cons.2 ⟨fun y hy=>by rw [← hn];exact h4 y hy,h5⟩,fun y hy z hz=>?_⟩
  rcases List.mem_cons.1 hz with rfl | hz
  ·rw [← hn];exact h3 y hy x (by simp)
  ·exact h3 y hy z (List.mem_cons_of_mem _ hz)
 ·rw [hp]
  refine List.pairwise_append.2 ⟨hs,by simp,fun y hy z hz=>?_⟩;rw [List.mem_singleton.1 hz]
  rcases hf with⟨x,hx,e⟩ | h
  ·exact absurd e (hne x hx)
  ·exact h y hy
theorem ListsOk.putT {tks:List TokE} {lks:List LeaE} (h:ListsOk tks lks) {t:TokE} (hf:FitsTok t tks) (hl:tks.length<500) (h1:t.n<u64lim) (h2:t.au<u64lim):ListsOk (putTok t tks) lks:=
 ⟨by have:=putTok_len (t:=t) h.incT;omega,h.lenL,putTok_inc h.incT hf,h.incL,fun x hx=>by rcases putTok_mem h.incT hx with rfl | hx;exact⟨h1,h2⟩;exact h.limT x hx,h.limL⟩
theorem ListsOk.putL {tks:List TokE} {lks:List LeaE} (h:ListsOk tks lks) {t:LeaE} (hf:FitsLea t lks) (hl:lks.length<500) (h1:t.n<u64lim) (h2:t.au<u64lim):ListsOk tks (putLea t lks):=
 ⟨h.lenT,by have:=putLea_len (t:=t) h.incL;omega,h.incT,putLea_inc h.incL hf,h.limT,fun x hx=>by rcases putLea_mem h.incL hx with rfl | hx;exact⟨h1,h2⟩;exact h.limL x hx⟩
theorem ListsOk.delT {tks:List TokE} {lks:List LeaE} (h:ListsOk tks lks) (n:Nat):ListsOk (delTok n tks) lks:=
 ⟨Nat.le_trans (List.length_filter_le _ _) h.lenT,h.lenL,h.incT.filter _,h.incL,fun x hx=>h.limT x (List.mem_filter.1 hx).1,h.limL⟩
theorem ListsOk.delL {tks:List TokE} {lks:List LeaE} (h:ListsOk tks lks) (n:Nat):ListsOk tks (delLea n lks):=
 ⟨h.lenT,Nat.le_trans (List.length_filter_le _ _) h.lenL,h.incT,h.incL.filter _,h.limT,fun x hx=>h.limL x (List.mem_filter.1 hx).1⟩
theorem ownsMap_tight {H:Type} {P:Program} {k:TypeId} {R:Value→Option (DataW H × List MemPlace)} {D:DataW H} {W:World} {b n:Nat} (h:W.ownsMap P k R b n D):W.ownsMap P k R b (Maps.size D) D:=by
 obtain⟨es,clock,hb,F,hs,rfl⟩:=h;exact⟨es,clock,hb,F,by simp [Maps.size,length_sorted],rfl⟩
section
variable {W:World} {mt ml:Nat} {tks:List TokE} {lks:List LeaE}
theorem Tryz.storeT (hH:Held W mt ml tks lks) (ok:ListsOk tks lks) {t:TokE} (hf:FitsTok t tks) (hl:tks.length<500) (h1:t.n<u64lim) (h2:t.au<u64lim) :
  ∃ w',(Instr.mapUpdate 120 (.map (some mt)) (nmV (1,(t.n:Int))) (.agg t.cells)).run prog W=.ok () w'∧(∃ n,n≤1000∧w'.ownsMap prog 114 valR mt n (mapD ((putTok t tks).map TokE.key).reverse))∧W.grownBy w' (some mt):=by
 obtain⟨n,hn,hm⟩:=hH.mapT;have hx:NmWf (1,(t.n:Int)):=wfNm (.inl rfl) h1;have ok2:=ok.putT hf hl h1 h2;obtain⟨w',hrun,hM,hT⟩:=hm.store (Keyed.of_law nmType.law) underlying120 (by unfold maxLen;omega) (key:=nmV (1,(t.n:Int))) (val:=.agg t.cells) (nmType.keyOf hx) (d:=.held (.agg t.cells)) (ps:=[]) rfl;refine⟨w',hrun,⟨Maps.size (mapD ((putTok t tks).map TokE.key).reverse),?_,?_⟩,hT.grown⟩
 ·rw [nmType.size_mapD _ ok2.ksT.1];have:=ok2.lenT;simp;omega
 ·have e:=nmType.mapD_put ok.ksT.1 hx (.agg t.cells)
  have e2:mapD (((1,(t.n:Int)),Value.agg t.cells) :: (tks.map TokE.key).reverse.filter (fun p=>decide (p.1≠(1,(t.n:Int)))))=mapD ((putTok t tks).map TokE.key).reverse:=
   (nmType.mapD_perm ok2.ksT.1 (putTok_perm ok.incT t).symm).symm
  rw [e2] at e;have hM':=ownsMap_tight hM;rw [show Lit.string (nmB (1,(t.n:Int)))=nmL (1,(t.n:Int)) from rfl,e] at hM';exact hM'
theorem Tryz.storeL (hH:Held W mt ml tks lks) (ok:ListsOk tks lks) {t:LeaE} (hf:FitsLea t lks) (hl:lks.length<500) (h1:t.n<u64lim) (h2:t.au<u64lim) :
  ∃ w',(Instr.mapUpdate 121 (.map (some ml)) (nmV (2,(t.n:Int))) (.agg t.cells)).run prog W=.ok () w'∧(∃ n,n≤1000∧w'.ownsMap prog 114 valR ml n (mapD ((putLea t lks).map LeaE.key).reverse))∧W.grownBy w' (some ml):=by
 obtain⟨n,hn,hm⟩:=hH.mapL;have hx:NmWf (2,(t.n:Int)):=wfNm (.inr rfl) h1;have ok2:=ok.putL hf hl h1 h2;obtain⟨w',hrun,hM,hT⟩:=hm.store (Keyed.of_law nmType.law) underlying121 (by unfold maxLen;omega) (key:=nmV (2,(t.n:Int))) (val:=.agg t.cells) (nmType.keyOf hx) (d:=.held (.agg t.cells)) (ps:=[]) rfl;refine⟨w',hrun,⟨Maps.size (mapD ((putLea t lks).map LeaE.key).reverse),?_,?_⟩,hT.grown⟩
 ·rw [nmType.size_mapD _ ok2.ksL.1];have:=ok2.lenL;simp;omega
 ·have e:=nmType.mapD_put ok.ksL.1 hx (.agg t.cells)
  have e2:mapD (((2,(t.n:Int)),Value.agg t.cells) :: (lks.map LeaE.key).reverse.filter (fun p=>decide (p.1≠(2,(t.n:Int)))))=mapD ((putLea t lks).map LeaE.key).reverse:=
   (nmType.mapD_perm ok2.ksL.1 (putLea_perm ok.incL t).symm).symm
  rw [e2] at e;have hM':=ownsMap_tight hM;rw [show Lit.string (nmB (2,(t.n:Int)))=nmL (2,(t.n:Int)) from rfl,e] at hM';exact hM'
end
end Go.Proofs
