import Derived.Test.YtcgjliflnnklnaaGreatJ30
import Derived.Test.YtcgjliflnnklnaaGreatRows
import Derived.WalkKit
import Derived.ProofKit
import Derived.OpenShut
import Derived.JoinedCond
import Derived.Carry
import Derived.Deep.Slices
import Derived.Deep.SlicePairs
namespace Go.Proofs.YtcgjliflnnklnaaGreat.alls
open Go.ChangeShapes Go.WideShapes Go.ChangeAt Go.RowKit Go.Deep
set_option maxRecDepth 100000
theorem own:ownKnob Tryz.prog.godebug=none:=by kernel_rfl
theorem laid:laidOutB Tryz.prog=true:=by kernel_rfl
theorem cOp:Tryz.prog.cellsOf 29=8:=by kernel_rfl
theorem cCfg:Tryz.prog.cellsOf 26=2:=by kernel_rfl
theorem ziL:Tryz.prog.cellsOf 24=1:=by kernel_rfl
theorem zfF:Tryz.prog.cellsOf 3=1:=by kernel_rfl
theorem zke:Tryz.prog.cellsOf 4=1:=by kernel_rfl
theorem cStr:Tryz.prog.cellsOf 9=1:=by kernel_rfl
theorem zlC:Tryz.prog.cellsOf 51=2:=by kernel_rfl
theorem zlD:Tryz.prog.cellsOf 35=1:=by kernel_rfl
theorem cU8:Tryz.prog.cellsOf 5=1:=by kernel_rfl
def zfG:Value->UInt8
 |.int _ k=>UInt8.ofNat k.toNat
 |_=>0
def zkf:Value->Int
 |.int _ k=>k
 |_=>0
theorem zlE{H:Type}(d:DataW H):1<=Rows.uptoBulk d:=by
 cases d with
 |lit l=>cases l<;>simp [Rows.uptoBulk]
 |_=>simp [Rows.uptoBulk]
theorem GE{H:Type}{d:DataW H}:∀ {l:List (DataW H)},d∈l->Rows.uptoBulk d<=Rows.uptoBulkAll l
 | [],h=>by cases h
 |x::r,h=>by
  rw [Rows.uptoBulkAll];rcases List.mem_cons.1 h with e|e
  ·rw [e];omega
  ·have:=GE e;omega
theorem UV{H:Type}:∀l:List (DataW H),l.length<=Rows.uptoBulkAll l
 | []=>by simp
 |x::r=>by have h1:=zlE x;have h2:=UV r;rw [Rows.uptoBulkAll];simp only [List.length_cons];omega
theorem zfH{H:Type}(f:Nat->Nat)(D:Nat->DataW H):∀l:List Nat,(∀i∈l,f i<=Rows.uptoBulk (D i))->(l.map f).sum<=Rows.uptoBulkAll (l.map D)
 | [],_=>by simp [Rows.uptoBulkAll]
 |x::r,h=>by
  have h1:=h x zzc;have h2:=zfH f D r (fun i hi=>h i (by simp [hi]));simp only [List.map_cons,List.sum_cons,Rows.uptoBulkAll];omega
section
variable {H:Type} {enc:TypeId × Value->H}
theorem zaJ{W:World}{sp:Nat->Bool}{fuel:Nat}{v:Value}{x:DataW H × List MemPlace}(h:DataW.trod enc Tryz.prog W 0 sp true fuel 35 [v]=some x):∃bs,ChV W.heap.size W v bs/\bs.length<=Rows.uptoBulk x.1:=by
 rcases open_slice1 Tryz.underlying35 cU8 h with ⟨e,rfl⟩|⟨a,len,cap,m,n,V,D,Pl,e,_,hl,_,hmm,rfl,hx⟩
 ·simp only [List.cons.injEq,and_true] at e;subst e;exact ⟨[],⟨none,0,rfl,fun h=>absurd rfl h⟩,by simp⟩
 ·simp only [List.cons.injEq,and_true] at e;subst e;have hlm:len<=m:=by rw [hmm];split<;>omega
  refine ⟨(List.range len).map (fun i=>zfG (V i)),⟨some a,cap,by simp,fun h0=>?_⟩,?_⟩
  ·have hpos:0<len:=by
    rcases Nat.eq_zero_or_pos len with z|z
    ·subst z;exact absurd rfl h0
    ·exact z
   obtain ⟨sb,so,spot⟩:=a;have hspot:spot=none:=by
    have h1:=(hx 0 zza).1;simpa [Addr.add] using World.cell?_spot h1
   subst hspot;refine ⟨sb,so,rfl,World.block_lt_of_cell? W _ (hx 0 zza).1,fun i hi=>?_⟩;have hi2:i<len:=by simpa using hi
   obtain ⟨h1,h2⟩:=hx i zza;obtain ⟨q,e0,_,wq⟩:=DataW.trod_int Tryz.underlying5 h2;simp only [List.cons.injEq,and_true] at e0;have h3:W.cell? ⟨sb,so+i,none⟩=some (V i):=by rw [add_plain] at h1;exact h1
   rw [h3,e0];have hq:=bounds_u8 wq;simp only [List.getElem_map,List.getElem_range,e0,zfG];congr 2
   have:q.toNat%256=q.toNat:=Nat.mod_eq_of_lt zza;simp only [UInt8.toNat_ofNat'];omega
  ·have h1:=UV ((List.range len).map D);simp only [List.length_map,List.length_range] at h1⊢;simp only [Rows.uptoBulk];omega
theorem zfI{W:World}{sp:Nat->Bool}{fuel:Nat}{v:Value}{x:DataW H × List MemPlace}(h:DataW.trod enc Tryz.prog W 0 sp true fuel 24 [v]=some x)(hb:Rows.uptoBulk x.1<=1048576):CfG W.heap.size W v:=by
 rcases open_slice_pairs Tryz.underlying24 Tryz.underlying51 zlC rfl rfl zfF zlD h with ⟨e,rfl⟩|⟨a,len,cap,m,n,V0,V1,D0,D1,P0,P1,e,_,hl,_,hmm,rfl,hx⟩
 ·simp only [List.cons.injEq,and_true] at e;subst e;exact Gt _ _
 ·simp only [List.cons.injEq,and_true] at e;subst e;have hlm:len<=m:=by rw [hmm];split<;>omega
  have hB:∀i,∃bs,i<len->ChV W.heap.size W (V1 i) bs/\bs.length<=Rows.uptoBulk (D1 i):=fun i=>by
   by_cases q:i<len
   ·obtain ⟨_,_,_,h4⟩:=hx i zza;obtain ⟨bs,b1,b2⟩:=zaJ h4;exact ⟨bs,fun _=>⟨b1,b2⟩⟩
   ·exact ⟨[],fun z=>absurd z q⟩
  obtain ⟨B,hB⟩:=Classical.axiomOfChoice hB;simp only [Rows.uptoBulk] at hb;have hsum:((List.range len).map (fun i=>(B i).length)).sum<=Rows.uptoBulkAll ((List.range len).map fun i=>DataW.agg [D0 i,D1 i]):=zfH _ _ _ fun i hi=>by
   have:=(hB i (List.mem_range.1 hi)).2;simp only [Rows.uptoBulk,Rows.uptoBulkAll];omega
  have hlen:=UV ((List.range len).map fun i=>DataW.agg [D0 i,D1 i]);simp only [List.length_map,List.length_range] at hlen;refine ⟨(List.range len).map (fun i=>⟨zkf (V0 i),V1 i,B i⟩),⟨some a,cap,by simp,fun h0=>?_⟩,by simp;omega,?_,?_⟩
  ·have hpos:0<len:=by
    rcases Nat.eq_zero_or_pos len with z|z
    ·subst z;exact absurd rfl h0
    ·exact z
   obtain ⟨sb,so,spot⟩:=a;have hspot:spot=none:=by
    have h1:=(hx 0 zza).1;simpa [Addr.add] using World.cell?_spot h1
   subst hspot;refine ⟨sb,so,rfl,World.block_lt_of_cell? W _ (hx 0 zza).1,fun i hi=>?_⟩;have hi2:i<len:=by simpa using hi
   obtain ⟨h1,h2,h3,h4⟩:=hx i zza;obtain ⟨q,e0,_,_⟩:=DataW.trod_int Tryz.underlying3 h3;simp only [List.cons.injEq,and_true] at e0;have g1:W.cell? ⟨sb,so+i*2,none⟩=some (V0 i):=by rw [add_plain] at h1;exact h1
   have g2:W.cell? ⟨sb,so+i*2+1,none⟩=some (V1 i):=by rw [add_plain] at h2;exact h2
   simp only [List.getElem_map,List.getElem_range];exact ⟨by rw [g1,e0];rfl,g2,(hB i hi2).1⟩
  ·intro c hc;obtain ⟨i,hi,rfl⟩:=List.mem_map.1 hc;have h1:=(hB i (List.mem_range.1 hi)).2;have h2:Rows.uptoBulk (DataW.agg [D0 i,D1 i])<=Rows.uptoBulkAll ((List.range len).map fun i=>DataW.agg [D0 i,D1 i]):=GE (List.mem_map.2 ⟨i,hi,rfl⟩);simp only [Rows.uptoBulk,Rows.uptoBulkAll] at h2;show (B i).length<=2000000;omega
  ·simp only [yq,List.map_map];have e:((fun c:Chn=>c.bs.length) ∘ fun i=>(⟨zkf (V0 i),V1 i,B i⟩:Chn))=fun i=>(B i).length:=rfl
   rw [e];omega
theorem ziM{W:World}{sp:Nat->Bool}{fuel sb so:Nat}{cs:List Value}{x:DataW H × List MemPlace}(h:DataW.trod enc Tryz.prog W 0 sp true fuel 29 cs=some x)
  (hc:∀i,i<8->W.cell? ⟨sb,so+i,none⟩=cs[i]?) (hb:Rows.uptoBulk x.1<=1048576):OpU W.heap.size W sb so:=by
 obtain ⟨xs,n,_,rfl,hlen,hxl,hf⟩:=DataW.trod_struct Tryz.underlying29 h;rw [cOp] at hlen;match cs,hlen,xs,hxl with
 | [v0,v1,v2,v3,v4,v5,v6,v7],_,[y0,y1,y2,y3,y4,y5,y6],_=>
  have f0:DataW.trod enc Tryz.prog W 0 sp true n 3 (([v0,v1,v2,v3,v4,v5,v6,v7].drop 0).take (Tryz.prog.cellsOf 3))=some y0:=hf 0 _ rfl;have f1:DataW.trod enc Tryz.prog W 0 sp true n 3 (([v0,v1,v2,v3,v4,v5,v6,v7].drop 1).take (Tryz.prog.cellsOf 3))=some y1:=hf 1 _ rfl;have f2:DataW.trod enc Tryz.prog W 0 sp true n 3 (([v0,v1,v2,v3,v4,v5,v6,v7].drop 2).take (Tryz.prog.cellsOf 3))=some y2:=hf 2 _ rfl;have f3:DataW.trod enc Tryz.prog W 0 sp true n 9 (([v0,v1,v2,v3,v4,v5,v6,v7].drop 3).take (Tryz.prog.cellsOf 9))=some y3:=hf 3 _ rfl;have f4:DataW.trod enc Tryz.prog W 0 sp true n 4 (([v0,v1,v2,v3,v4,v5,v6,v7].drop 4).take (Tryz.prog.cellsOf 4))=some y4:=hf 4 _ rfl;have f5:DataW.trod enc Tryz.prog W 0 sp true n 4 (([v0,v1,v2,v3,v4,v5,v6,v7].drop 5).take (Tryz.prog.cellsOf 4))=some y5:=hf 5 _ rfl;have f6:DataW.trod enc Tryz.prog W 0 sp true n 26 (([v0,v1,v2,v3,v4,v5,v6,v7].drop 6).take (Tryz.prog.cellsOf 26))=some y6:=hf 6 _ rfl;rw [zfF] at f0;rw [zfF] at f1;rw [zfF] at f2;rw [cStr] at f3;rw [zke] at f4;rw [zke] at f5;rw [cCfg] at f6;simp only [List.drop,List.take] at f0 f1 f2 f3 f4 f5 f6;obtain ⟨k,e0,_,_⟩:=DataW.trod_int Tryz.underlying3 f0;obtain ⟨a,e1,_,wa⟩:=DataW.trod_int Tryz.underlying3 f1;obtain ⟨b,e2,_,wb0⟩:=DataW.trod_int Tryz.underlying3 f2;obtain ⟨S,e3,g3,_⟩:=DataW.trod_string Tryz.underlying9 f3;obtain ⟨p,e4,_⟩:=DataW.trod_bool Tryz.underlying4 f4;obtain ⟨q,e5,_⟩:=DataW.trod_bool Tryz.underlying4 f5;obtain ⟨z0,z1,n2,g6,_,u0,u1⟩:=trod_struct2 Tryz.underlying26 f6
  simp only [zfF,ziL,List.drop,List.take] at u0 u1;obtain ⟨rom,e7,_,_⟩:=DataW.trod_int Tryz.underlying3 u1;have e6:∃ca cl cc,v6=.slice ca cl cc:=by
   rcases open_slice Tryz.underlying24 u0 with ⟨e,_⟩|⟨ad,l,c,_,_,_,_,e,_⟩
   ·simp only [List.cons.injEq,and_true] at e;exact ⟨_,_,_,e⟩
   ·simp only [List.cons.injEq,and_true] at e;exact ⟨_,_,_,e⟩
  obtain ⟨ca,cl,cc,rfl⟩:=e6;simp only [List.cons.injEq,and_true] at e0 e1 e2 e3 e4 e5 e7;subst e0;subst e1;subst e2;subst e3;subst e4;subst e5;subst e7;have wb:=bounds_i64 wa;have wc:=bounds_i64 wb0;have g3':y3.1=.lit (.string S.data.toList):=by rw [g3]
  have hS:S.size<=1100000:=by
   have h1:Rows.uptoBulk y3.1<=Rows.uptoBulkAll (List.map (·.1) [y0,y1,y2,y3,y4,y5,y6]):=GE zzc;rw [g3'] at h1;have e:S.data.toList.length=S.size:=by rw [Array.length_toList];rfl
   simp only [Rows.uptoBulk] at h1 hb;omega
  have hz:Rows.uptoBulk z0.1<=1048576:=by
   have h1:Rows.uptoBulk y6.1<=Rows.uptoBulkAll (List.map (·.1) [y0,y1,y2,y3,y4,y5,y6]):=GE zzc;have h2:Rows.uptoBulk z0.1<=Rows.uptoBulk y6.1:=by rw [g6];simp only [Rows.uptoBulk,Rows.uptoBulkAll];omega
   simp only [Rows.uptoBulk] at hb;omega
  exact ⟨k,a,b,S,p,q,.slice ca cl cc,rom,⟨hc 0 zza,hc 1 zza,hc 2 zza,hc 3 zza,hc 4 zza,hc 5 zza,hc 6 zza,hc 7 zza⟩,fun z=>⟨z,by omega,by omega,by omega,by omega,hS,zfI u0 hz⟩,_,_,_,rfl⟩
theorem zfJ{W:World}{fuel:Nat}{v:Value}{x:DataW H × List MemPlace}(h:DataW.trod enc Tryz.prog W 0 (fun _=>true) true fuel 22 [v]=some x)(hb:Rows.uptoBulk x.1<=1048576):∃sa sb so len cap,v=.slice sa len cap/\len<=1048576/\(len=0\/(sa=some ⟨sb,so,none⟩/\∀i,i<len->OpU W.heap.size W sb (so+i*8))):=by
 rcases open_slice Tryz.underlying22 h with ⟨e,_⟩|⟨a,len,cap,m,n,D,Pl,e,_,hl,_,hmm,rfl,hx⟩
 ·simp only [List.cons.injEq,and_true] at e;exact ⟨none,0,0,0,0,e,by omega,.inl rfl⟩
 ·simp only [List.cons.injEq,and_true] at e;subst e;simp only [if_true] at hmm;subst hmm;simp only [Rows.uptoBulk] at hb;have hlen:len<=1048576:=by
   have h1:=UV ((List.range len).map D);simp only [List.length_map,List.length_range] at h1;omega
  have one:∀i,i<len->W.cell? (a.add (i*8))≠none/\(∀sb so,a=⟨sb,so,none⟩->OpU W.heap.size W sb (so+i*8)):=by
   intro i hi;obtain ⟨cs',h1,h2⟩:=hx i zza;rw [cOp] at h1;obtain ⟨_,hlen8,hcell⟩:=World.cells?_some h1;refine ⟨?_,?_⟩
   ·have h0:=hcell 0 zza;rw [add_add,Nat.add_zero] at h0;rw [h0];simp [hlen8]
   ·rintro sb so rfl;refine ziM h2 (fun j hj=>?_) ?_
    ·have:=hcell j hj;rw [add_add,add_plain] at this;rw [<-this,Nat.add_assoc]
    ·show Rows.uptoBulk (D i)<=1048576;have h3:Rows.uptoBulk (D i)<=Rows.uptoBulkAll ((List.range len).map D):=GE (List.mem_map.2 ⟨i,List.mem_range.2 hi,rfl⟩);omega
  by_cases h0:len=0
  ·exact ⟨some a,0,0,len,_,rfl,hlen,.inl h0⟩
  ·obtain ⟨sb,so,spot⟩:=a;have hspot:spot=none:=by
    have h1:=(one 0 zza).1;rcases hq:W.cell? ((⟨sb,so,spot⟩:Addr).add (0*8)) with _|u
    ·exact absurd hq h1
    ·simpa [Addr.add] using World.cell?_spot hq
   subst hspot;exact ⟨_,sb,so,len,_,rfl,hlen,.inr ⟨rfl,fun i hi=>(one i hi).2 sb so rfl⟩⟩
end
theorem lifted(os:Os)(started:os.Started)(H:Type)(enc:TypeId × Value->H)(F:Stop.Interp):ReturnsInHanded {} Tryz.checked os 6 .any ((Rows.OpenSpec.upto Rows.allSpec).pre6 enc Tryz.prog Tryz.f6 Rows.allUptoRow.domain false) (((Rows.OpenSpec.upto Rows.allSpec).at F).post enc Tryz.prog Tryz.f6 false true false false):=by
 refine returnsInHanded_of_cond (C:=Tryz.checked) (s:=Rows.OpenSpec.upto Rows.allSpec) (k:=Rows.uptoSmall) rfl own started zzf Tryz.func6
  (OpenSpec.witness (enc:=enc) (C:=Tryz.checked) (s:=Rows.OpenSpec.upto Rows.allSpec) (k:=Rows.uptoSmall) rfl false ⟨#[],#[.slice none 0 0],[]⟩ 8 zzf zzf zzf
   (x:=([.nil],[],[])) zzf rfl zzf) ?_
 intro W base args ds gs before hval0 hW _ hk _;have hval:∀ (j:Nat) t v,Tryz.f6.params[j]?=some t->args[j]?=some v->Value.okWide Tryz.prog W .any base t v:=hval0
 have hW':=hW;obtain ⟨p,q,hA0,hV,rfl,hfz,hnd⟩:=hW;have hA:DataW.TrodAll enc Tryz.prog W 0 (fun _=>true) true Tryz.f6.params.toList args.toList ds p:=hA0;rw [Tryz.params6] at hA hval;obtain ⟨v0,d0,rfl,rfl,h0⟩:=trodAll_one hA;obtain ⟨rfl,rfl⟩:=trodVars_none hV;clear hA0 hval0;simp only [List.append_nil] at hW' hk;have hlt:∀x∈p,x.block<W.heap.size:=fun x hx=>hW'.lt x hx
 have hargs:∀ (W':World),Below W.heap.size W W'->DataW.Trod enc Tryz.prog W' 0 (fun b=>decide (b<W.heap.size)) true 22 v0 d0 p:=
  fun W' hn=>Below.trod laid zzf (of_decide_eq_true zzf) h0 hn hlt
 have hbulk:Rows.uptoBulk d0<=1048576:=by
  have h:Rows.uptoBulkAll [d0]<=1048576:=of_decide_eq_true hk;simp only [Rows.uptoBulkAll] at h;omega
 obtain ⟨a0,l0,c0,rfl⟩:=okWide_slice Tryz.underlying22 (hval 0 22 v0 rfl rfl);obtain ⟨fuel,hf⟩:=h0;obtain ⟨sa,sb,so,len,cap,e,hlen,hops⟩:=zfJ (v:=.slice a0 l0 c0) (x:=(d0,p)) (by simpa [Value.cells] using hf) hbulk;injection e with e1 e2 e3;subst e1;subst e2;subst e3;refine (zpG W a0 sb so l0 c0 hops hlen).mono fun e W' ⟨he,bel⟩=>?_
 subst he;exact ⟨_,rfl,_,_,_,[],p,[],hW',trodAll_mk1 (shut_bool Tryz.underlying4 _),trodAll_mk1 (hargs W' bel),rfl,bel.frame _,fun h=>by cases h⟩
end Go.Proofs.YtcgjliflnnklnaaGreat.alls
