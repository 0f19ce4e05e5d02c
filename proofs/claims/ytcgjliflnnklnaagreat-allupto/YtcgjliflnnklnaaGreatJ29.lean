import Derived.Deep.RegionHeld3
import Derived.Deep.Cut
import Derived.Deep.QuietTactic
import Derived.BigQuiet
import Derived.Test.YtcgjliflnnklnaaGreatJ19
import Derived.Test.YtcgjliflnnklnaaGreatJ24
import Derived.Test.YtcgjliflnnklnaaGreatJ20
import Derived.Test.YtcgjliflnnklnaaGreatJ28
namespace Go.Proofs.YtcgjliflnnklnaaGreat
open Go.RowKit Tryz
set_option maxRecDepth 100000
set_option maxHeartbeats 8000000
def LV(w:World)(lo:Nat)(bs:List UInt8)(v:Value):Prop:=(bs=[]/\v=Nq)\/ ∃g,lo<=g/\v=Sq g bs.length (bs.length+8)/\LentAt w g bs
theorem LentAt.same{w w':World}{g:Nat}{l:List UInt8}(h:LentAt w g l)(e:w'.heap[g]?=w.heap[g]?):LentAt w' g l:=
 ⟨by obtain ⟨cur,h1,h2⟩:=h.row;exact ⟨cur,e.trans h1,h2⟩,fun i hi=>(World.cell?_of_block (a:=⟨g,0+i,none⟩) e).trans (h.bytes i hi),fun j hj=>(World.cell?_of_block (a:=⟨g,l.length+j,none⟩) e).trans (h.spare j hj)⟩
theorem LV.blk{w:World}{lo g:Nat}{bs:List UInt8}{v:Value}(h:LV w lo bs v)(hg:v.ownBlock=some g):lo<=g/\g<w.heap.size:=by
 rcases h with ⟨_,rfl⟩|⟨g',h1,rfl,h2⟩
 ·simp [Value.ownBlock] at hg
 ·simp [Value.ownBlock] at hg;subst hg;exact ⟨h1,h2.row.lt⟩
theorem LV.same{w w':World}{lo:Nat}{bs:List UInt8}{v:Value}(h:LV w lo bs v)(hk:∀g,v.ownBlock=some g->w'.heap[g]?=w.heap[g]?):LV w' lo bs v:=by
 rcases h with h|⟨g',h1,rfl,h2⟩
 ·exact .inl h
 ·exact .inr ⟨g',h1,rfl,h2.same (hk g' rfl)⟩
theorem LV.chv{w:World}{lo:Nat}{bs:List UInt8}{v:Value}(h:LV w lo bs v):ChV w.heap.size w v bs:=by
 rcases h with ⟨rfl,rfl⟩|⟨g,_,rfl,h2⟩
 ·exact ⟨none,0,rfl,fun q=>absurd rfl q⟩
 ·exact ⟨_,_,rfl,fun _=>⟨g,0,rfl,h2.row.lt,h2.bytes⟩⟩
structure Lnt (w:World) (lo:Nat) (tag:Nat->Nat) (cs:List Chn) (kc ko:Nat) (vs:List Value) (G:Nat) (V:Value):Prop where
 len:vs.length=ko
 kn:kc<=ko/\ko<=cs.length
 row:RowAt w G 51 2 (cs.length+8)
 c:∀i,(h:i<cs.length)->i<kc->w.cell? ⟨G,i*2,none⟩=some (Iq cs[i].at_)/\w.cell? ⟨G,i*2+1,none⟩=vs[i]?
 own:w.ownsRow lo 35 1 V ko vs
 lv:∀i,(h:i<cs.length)->i<ko->∃v,vs[i]?=some v/\LV w lo cs[i].bs v
 loG:lo<=G
 tG:tag G=1
 tV:∀g,V.ownBlock=some g->tag g=2
 tv:∀ (i:Nat) v g,vs[i]?=some v->v.ownBlock=some g->tag g=3+i
section
variable {w w':World} {lo:Nat} {tag tag':Nat->Nat} {cs:List Chn} {kc ko:Nat} {vs:List Value} {G:Nat} {V:Value}
theorem RowAt.same{g e size cap:Nat}(h:RowAt w g e size cap)(q:w'.heap[g]?=w.heap[g]?):RowAt w' g e size cap:=by
 obtain ⟨cur,h1,h2⟩:=h;exact ⟨cur,q.trans h1,h2⟩
theorem Lnt.vlt(h:Lnt w lo tag cs kc ko vs G V){i g:Nat}{v:Value}(hi:vs[i]?=some v)(hg:v.ownBlock=some g):lo<=g/\g<w.heap.size:=by
 have hl:i<ko:=by
  have:=h.len;rcases Nat.lt_or_ge i vs.length with q|q
  ·omega
  ·rw [List.getElem?_eq_none q] at hi;cases hi
 obtain ⟨v',e,q⟩:=h.lv i (by have:=h.kn.2;omega) hl;rw [hi] at e;injection e with e;subst e;exact q.blk hg
theorem Lnt.kept(h:Lnt w lo tag cs kc ko vs G V)(hk:∀g,g<w.heap.size->tag g≠0->w'.heap[g]?=w.heap[g]?)(ht:∀g,g<w.heap.size->tag' g=tag g):Lnt w' lo tag' cs kc ko vs G V:=by
 have hG:w'.heap[G]?=w.heap[G]?:=hk G h.row.lt (by rw [h.tG];decide);refine ⟨h.len,h.kn,h.row.same hG,fun i hi hc=>?_,zG h.own (fun g hg=>hk g (h.own.lt g hg).2 (by rw [h.tV g hg];decide)),fun i hi hc=>?_,h.loG,(ht G h.row.lt).trans h.tG,fun g hg=>(ht g (h.own.lt g hg).2).trans (h.tV g hg),fun i v g hi hg=>(ht g (h.vlt hi hg).2).trans (h.tv i v g hi hg)⟩
 ·rw [World.cell?_of_block (a:=⟨G,i*2,none⟩) hG,World.cell?_of_block (a:=⟨G,i*2+1,none⟩) hG];exact h.c i hi hc
 ·obtain ⟨v,e,q⟩:=h.lv i hi hc;exact ⟨v,e,q.same (fun g hg=>hk g (h.vlt e hg).2 (by rw [h.tv i v g e hg];omega))⟩
theorem Lnt.below(h:Lnt w lo tag cs kc ko vs G V)(hb:Bq w w'):Lnt w' lo tag cs kc ko vs G V:=h.kept (fun g hg _=>hb.block g hg) (fun _ _=>rfl)
theorem Lnt.app{g' cap':Nat}{v:Value}(h:Lnt w lo tag cs kc ko vs G V)(hko:(q:ko<cs.length)->LV w lo cs[ko].bs v)(hlt:ko<cs.length)(htv:∀g,v.ownBlock=some g->tag g=3+ko)
  (hgrow:w.grownBy w' V.ownBlock) (hown:w'.ownsRow lo 35 1 (Sq g' (ko+1) cap') (ko+1) (vs++ [v])) (hat:V.ownBlock=some g'\/g'=w.heap.size):
  Lnt w' lo (fun g=>if w.heap.size<=g then 2 else tag g) cs kc (ko+1) (vs++ [v]) G (Sq g' (ko+1) cap'):=by
 have hk:∀g,g<w.heap.size->tag g≠2->w'.heap[g]?=w.heap[g]?:=fun g hg ht=>hgrow.block g hg (fun e=>ht (h.tV g e.symm))
 have tt:∀g,g<w.heap.size->(if w.heap.size<=g then 2 else tag g)=tag g:=fun g hg=>if_neg zza
 have hG:=hk G h.row.lt (by rw [h.tG];decide);have hvb:∀g,v.ownBlock=some g->g<w.heap.size:=fun g hg=>((hko hlt).blk hg).2
 refine ⟨by simp [h.len],⟨Nat.le_succ_of_le h.kn.1,hlt⟩,h.row.same hG,fun i hi hc=>?_,hown,fun i hi hc=>?_,h.loG,(tt G h.row.lt).trans h.tG,fun g hg=>?_,fun i u g hi hg=>?_⟩
 ·rw [World.cell?_of_block (a:=⟨G,i*2,none⟩) hG,World.cell?_of_block (a:=⟨G,i*2+1,none⟩) hG];exact ⟨(h.c i hi hc).1,(h.c i hi hc).2.trans (List.getElem?_append_left (by rw [h.len];have:=h.kn.1;omega)).symm⟩
 ·by_cases q:i<ko
  ·obtain ⟨u,e,r⟩:=h.lv i hi q;exact ⟨u,by rw [List.getElem?_append_left (by rw [h.len];exact q)];exact e,r.same (fun g hg=>hk g (h.vlt e hg).2 (by rw [h.tv i u g e hg];omega))⟩
  ·obtain rfl:i=ko:=by omega
   exact ⟨v,by rw [List.getElem?_append_right (by rw [h.len];exact Nat.le_refl _),h.len,Nat.sub_self];rfl,(hko hlt).same (fun g hg=>hk g (hvb g hg) (by rw [htv g hg];omega))⟩
 ·have e1:g'=g:=by simp [Value.ownBlock] at hg;exact hg
  subst e1;rcases hat with q|q
  ·rw [tt g' (h.own.lt g' q).2];exact h.tV g' q
  ·exact if_pos zza
 ·by_cases q:i<ko
  ·rw [List.getElem?_append_left (by rw [h.len];exact q)] at hi;rw [tt g (h.vlt hi hg).2];exact h.tv i u g hi hg
  ·rw [List.getElem?_append_right (by rw [h.len];omega),h.len] at hi;have:i-ko=0:=by
    rcases Nat.eq_zero_or_pos (i-ko) with z|z
    ·exact z
    ·rw [List.getElem?_eq_none zzd] at hi;cases hi
   rw [this] at hi;injection hi with hi;subst hi;rw [tt g (hvb g hg)];have e:i=ko:=by omega
   rw [e];exact htv g hg
theorem Lnt.lay(h:Lnt w lo tag cs kc (kc+1) vs G V)(q:kc<cs.length){v:Value}(hv:vs[kc]?=some v):Lnt ((w.setCell ⟨G,kc*2,none⟩ (Iq cs[kc].at_)).setCell ⟨G,kc*2+1,none⟩ v) lo tag cs (kc+1) (kc+1) vs G V:=by
 have hk:∀g,g≠G->((w.setCell ⟨G,kc*2,none⟩ (Iq cs[kc].at_)).setCell ⟨G,kc*2+1,none⟩ v).heap[g]?=w.heap[g]?:=fun g hg=>(Below.heap_setCell _ _ _ _ hg).trans (Below.heap_setCell _ _ _ _ hg)
 have nG:∀g t,tag g=t->t≠1->g≠G:=fun g t e1 e2 e=>by rw [e,h.tG] at e1;exact e2 e1.symm
 refine ⟨h.len,⟨Nat.le_refl _,h.kn.2⟩,(h.row.setCell _ _ _).setCell _ _ _,fun i hi hc=>?_,zG h.own (fun g hg=>hk g (nG g 2 (h.tV g hg) zzb)),fun i hi hc=>?_,h.loG,h.tG,h.tV,h.tv⟩
 ·obtain ⟨u1,hu1⟩:=h.row.there (kc*2) zza;obtain ⟨u2,hu2⟩:=(h.row.setCell G (kc*2) (Iq cs[kc].at_)).there (kc*2+1) zza;by_cases e:i=kc
  ·subst e;exact ⟨by rw [World.cell?_setCell_other _ _ _ _ (zQ _ _ _ zza),World.cell?_setCell_same _ _ _ hu1],by rw [World.cell?_setCell_same _ _ _ hu2,hv]⟩
  ·have:=h.c i hi zza;refine ⟨?_,?_⟩
   ·rw [World.cell?_setCell_other _ _ _ _ (zQ _ _ _ zza),World.cell?_setCell_other _ _ _ _ (zQ _ _ _ zza)];exact this.1
   ·rw [World.cell?_setCell_other _ _ _ _ (zQ _ _ _ zza),World.cell?_setCell_other _ _ _ _ (zQ _ _ _ zza)];exact this.2
 ·obtain ⟨u,e,r⟩:=h.lv i hi hc;exact ⟨u,e,r.same (fun g hg=>hk g (nG g _ (h.tv i u g e hg) zza))⟩
end
theorem zce:(prog.info? 51).map (fun i=>(i.zero,i.size,i.bytes))=some (some (.agg #[Iq 0,Nq]),2,32):=by kernel_rfl
theorem H6:prog.underlying 24=some (.slice 51):=by kernel_rfl
theorem zcf:(prog.info? 35).map (fun i=>(i.zero,i.size,i.bytes))=some (some (Nq),1,24):=by kernel_rfl
theorem H7:prog.underlying 154=some (.slice 35):=by kernel_rfl
theorem KO{w:World}{base g n e size:Nat}{xs:List Value}(h:w.ownsRow base e size (Sq g n n) n xs):RowAt w g e size n:=by
 exact zmh
theorem zbd{w:World}{p:Option Addr}{cap:Nat}{l:List UInt8}(h:l≠ [] ->∃b off,p=some (Aq b off)/\zy w b off l):(convert 35 9 (.slice p l.length cap)).run prog w=.ok (Zq ⟨l.toArray⟩) w:=by
 cases p with
 |none=>
  have e:l=[]:=by
   by_cases q:l=[]
   ·exact q
   ·obtain ⟨_,_,z,_⟩:=h q;cases z
  subst e;exact run_convert_bytes_nil w 35 5 zx zoj 0 cap 9 vj
 |some a=>
  refine run_convert_bytes_back (P:=prog) w 35 9 5 a cap l zx zoj vj (fun j hj=>?_);obtain ⟨b,off,z,hB⟩:=h (by intro e;rw [e] at hj;simp at hj);injection z with z;subst z;rw [show ((Aq b off):Addr).add j=⟨b,off+j,none⟩ from by unfold Addr.add;split<;>simp_all];exact hB j hj
theorem zhu(p:Option Addr)(l:List UInt8)(hl:l.length<=2000000)(hp:p=none->l=[])(w:World):Calls prog 70 #[Zq ⟨l.toArray⟩,Tq p.isNone] w fun e w'=> ∃q c,e=.returned (.slice q l.length c)/\LV w' w.heap.size l (.slice q l.length c)/\Bq w w':=by
 have hs:(⟨l.toArray⟩:ByteArray).size=l.length:=by simp [ByteArray.size]
 cases p with
 |none=>
  obtain rfl:=hp rfl;refine (Kz w).mono ?_;rintro e w' ⟨rfl,rfl⟩;exact ⟨_,_,rfl,.inl ⟨rfl,rfl⟩,Below.refl _ _⟩
 |some a=>
  refine (Kv ⟨l.toArray⟩ false w (by rw [hs];omega) zzc).mono ?_;rintro e w' ⟨rfl,h1,h2⟩;rw [hs];exact ⟨_,_,rfl,.inr ⟨w.heap.size,Nat.le_refl _,rfl,by simpa using h1⟩,h2⟩
theorem LV.mono{w:World}{lo lo':Nat}{bs:List UInt8}{v:Value}(h:LV w lo bs v)(hl:lo'<=lo):LV w lo' bs v:=by
 rcases h with h|⟨g,h1,h2⟩
 ·exact .inl h
 ·exact .inr ⟨g,Nat.le_trans hl h1,h2⟩
theorem LV.one{w:World}{lo:Nat}{bs:List UInt8}{v:Value}(h:LV w lo bs v):∀u∈[v],u.oneCell'=true:=by
 intro u hu;simp at hu;subst hu;rcases h with ⟨_,rfl⟩|⟨g,_,rfl,_⟩ <;>rfl
theorem vD{w:World}{lo e size k:Nat}{V:Value}{xs:List Value}(h:w.ownsRow lo e size V k xs):∃p c,V=.slice p k c:=by
 rcases h.2 with ⟨e,e2⟩|⟨g,cap,_,e,_⟩
 ·exact ⟨none,0,by rw [e,e2]⟩
 ·exact ⟨_,cap,e⟩
theorem bel7{w0 w5 w7:World}{o:Obj}{r:Option Nat}(hb:Bq w0 w5)(hg:(w5.alloc o).grownBy w7 r)(hr:∀g,r=some g->w0.heap.size<=g):Bq w0 w7:=
 (hb.alloc hb.size o).grown hg (by have q:=hb.size;have q2:=World.size_alloc w5 o;omega) hr
theorem Lnt.beyond{w:World}{lo:Nat}{tag:Nat->Nat}{cs:List Chn}{kc ko:Nat}{vs:List Value}{G:Nat}{V:Value}(h:Lnt w lo tag cs kc ko vs G V){o:Nat}{u:Value}(ho:cs.length*2<=o):Lnt (w.setCell (Aq G o) u) lo tag cs kc ko vs G V:=by
 have nG:∀g t,tag g=t->t≠1->g≠G:=fun g t e1 e2 e=>by rw [e,h.tG] at e1;exact e2 e1.symm
 refine ⟨h.len,h.kn,h.row.setCell _ _ _,fun i hi hc=>?_,zG h.own (fun g hg=>Below.heap_setCell _ _ _ _ (nG g 2 (h.tV g hg) zzb)),fun i hi hc=>?_,h.loG,h.tG,h.tV,h.tv⟩
 ·rw [World.cell?_setCell_other _ _ _ _ (zQ _ _ _ zza),World.cell?_setCell_other _ _ _ _ (zQ _ _ _ zza)];exact h.c i hi hc
 ·obtain ⟨v,e,r⟩:=h.lv i hi hc;exact ⟨v,e,r.same (fun g hg=>Below.heap_setCell _ _ _ _ (nG g _ (h.tv i v g e hg) zza))⟩
structure Lg (w:World) (cs:List Chn) (v:Value) (rom:Int) (G X0 k:Nat) (wr:World) (vs:List Value) (V:Value) (tag:Nat->Nat):Prop where
 l:Lnt wr w.heap.size tag cs k k vs G V
 x:Blk wr X0 #[Sq G (cs.length+8) (cs.length+8),V] 156
 c:Blk wr w.heap.size #[v,Iq rom] 26
 r1:Blk wr (w.heap.size+1) #[Nq,Iq 0] 26
 r2:Blk wr (w.heap.size+1+1) #[Nq,Nq] 156
 b:Bq w wr
 lx:w.heap.size<=X0
 nx:X0≠w.heap.size/\X0≠w.heap.size+1/\X0≠w.heap.size+1+1
 tx:tag X0=0
 tc:tag w.heap.size=0
 t1:tag (w.heap.size+1)=0
 t2:tag (w.heap.size+1+1)=0
 tl:∀g,g<w.heap.size->tag g=0
theorem zj1(w:World)(N:Nat)(v:Value)(cs:List Chn)(rom:Int)(hc:CfAt N w v cs)(hN:N<=w.heap.size)(hl:cs.length<=2000000)(hb:∀c∈cs,c.bs.length<=2000000):Calls prog 59 #[.agg #[v,Iq rom]] w fun e w'=> ∃G V vs tag,e=.returned (.tuple #[.agg #[Sq G cs.length (cs.length+8),Iq rom],.agg #[Sq G (cs.length+8) (cs.length+8),V]])/\
   Lnt w' w.heap.size tag cs cs.length cs.length vs G V/\(∀j,j<8->w'.cell? ⟨G,(cs.length+j)*2,none⟩=some (Iq (-77))/\w'.cell? ⟨G,(cs.length+j)*2+1,none⟩=some (Nq))/\Bq w w'/\∀g,g<w.heap.size->tag g=0:=by
 have HC:=qH3 hN hc hb;obtain ⟨p,cap,rfl, -⟩:=hc;obtain ⟨i0,hi,hz0,hz1,hz2⟩:=info_parts zce;have hm:i0.bytes*(cs.length+8)<=281474976710656:=by rw [hz2];omega
 clear hN hb;go_enter func59,ntmps59;go_upto_region 2 with (first|(at_make;go_must (refine wpList_make_full _ rfl _ _ 24 rfl w.heap.size 51 i0 _ 2 H6 hi hz0 hz1 .i64 .i64 _ _ (cs.length+8) rfl rfl zza zza hm zze zzd ?_;intro w1 hown1 hgrow1)));have hsz:(((w.alloc (.cells #[.slice p cs.length cap,Iq rom] 26)).alloc (.cells #[Nq,Iq 0] 26)).alloc (.cells #[Nq,Nq] 156)).heap.size=w.heap.size+1+1+1:=by simp
 rw [hsz] at hown1;have hb1:Below (((w.alloc (.cells #[.slice p cs.length cap,Iq rom] 26)).alloc (.cells #[Nq,Iq 0] 26)).alloc (.cells #[Nq,Nq] 156)).heap.size (((w.alloc (.cells #[.slice p cs.length cap,Iq rom] 26)).alloc (.cells #[Nq,Iq 0] 26)).alloc (.cells #[Nq,Nq] 156)) w1:=⟨hgrow1.os,hgrow1.tape,hgrow1.output,hgrow1.size,fun k hk=>hgrow1.block k hk zzc⟩;have hrow:=KO hown1;have hG1:=hrow.lt;have HL:Hid (Lg w cs (.slice p cs.length cap) rom (w.heap.size+1+1+1) w1.heap.size 0 (w1.alloc (.cells #[.slice (some ⟨w.heap.size+1+1+1,0,none⟩) (cs.length+8) (cs.length+8),Nq] 156)) [] (Nq) (fun g=>if g=w.heap.size+1+1+1 then 1 else 0)):=by
  refine ⟨⟨rfl,⟨Nat.le_refl _,Nat.zero_le _⟩,hrow.same (Below.heap_alloc _ _ _ hG1),fun i _ hc=>absurd hc zza,World.ownsRow_nil _ _ _ _,fun i _ hc=>absurd hc zza,by omega,if_pos rfl,fun g hg=>by simp [Value.ownBlock] at hg,fun i v g hi=>by simp at hi⟩,Blk.new _ _ _,?_,?_,?_,?_,by omega,⟨by omega,by omega,by omega⟩,if_neg zza,if_neg zza,if_neg zza,if_neg zza,fun g hg=>if_neg zza⟩
  ·exact ((((Blk.new w _ _).alloc _).alloc _).below hb1).alloc _
  ·exact (((Yh (w.alloc (.cells #[.slice p cs.length cap,Iq rom] 26)) _ _ _ zzc).alloc _).below hb1).alloc _
  ·exact ((Yh ((w.alloc (.cells #[.slice p cs.length cap,Iq rom] 26)).alloc (.cells #[Nq,Iq 0] 26)) _ _ _ zzc).below hb1).alloc _
  ·exact ((((qBa.alloc zzc _).alloc zzd _).trans (hb1.mono zzd)).alloc zza _)
 generalize w1.alloc (.cells #[.slice (some ⟨w.heap.size+1+1+1,0,none⟩) (cs.length+8) (cs.length+8),Nq] 156)=W1 at*;generalize w1.heap.size=X0 at*;obtain ⟨G,hG⟩:∃G,w.heap.size+1+1+1=G:=⟨_,rfl⟩
 rw [hG] at HL⊢;clear hown1 hgrow1 hsz hb1 hrow hG1 hG hm hi hz0 hz1 hz2;obtain ⟨i1,hj,hj0,hj1,hj2⟩:=info_parts zcf;have hnil:=fun (w:World) (a:Option Addr) (n c:Nat)=>Lib.run_eql_slice_nil (P:=prog) w 35 5 a n c 0 0 zx
 go_wp2_with fail;go_loopw [5] (fun i wr=> ∃(k:Nat) (vs:List Value) (V:Value) (tag:Nat->Nat),k<=cs.length/\i=Iq k/\Lg w cs (.slice p cs.length cap) rom G X0 k wr vs V tag) (fun i _=>cs.length-(intOf i).toNat);case atStart=>exact ⟨0,[],_,_,Nat.zero_le _,rfl,HL.out⟩
 case round=>
  clear HL;obtain ⟨k,vs,V,tag,hk,rfl,hL⟩:=hrel;have HL:=qH1 hL;have e0:=hL.c.cq 0;have lc:=hL.c.lt;by_cases hlt:k<cs.length
  ·obtain ⟨p',cap',ev,H⟩:=HC.out.2.1;injection ev with ev1 ev2 ev3;subst ev1;subst ev3;obtain ⟨b,off,rfl,hbN,HQ⟩:=H (by intro e;rw [e] at hlt;simp at hlt);obtain ⟨c1,c2,hcv⟩:=HQ k hlt;have hlen:=HC.out.2.2 _ (List.getElem_mem hlt);have hN:=HC.out.1;have d1:=(hL.b.cell (p:=⟨b,off+k*2,none⟩) (yc (by rw [c1];simp))).trans c1;have d2:=(hL.b.cell (p:=⟨b,off+k*2+1,none⟩) (yc (by rw [c2];simp))).trans c2;obtain ⟨p2,cap2,hv2,hB2⟩:=hcv;rw [hv2] at d2;clear HQ H c1 c2 hL;generalize hat:cs[k].at_=A at*;generalize hbs:cs[k].bs=l at*;have hpn:p2=none->l=[]:=fun e=>by
    by_cases z:l=[]
    ·exact z
    ·obtain ⟨_,_,z2,_⟩:=hB2 z;rw [e] at z2;cases z2
   have LC:=fun w=>zhu p2 l hlen hpn w
   have HCV:Hid (∀w',Bq w w'->(convert 35 9 (.slice p2 l.length cap2)).run prog w'=.ok (Zq ⟨l.toArray⟩) w'):=fun w' hw=>zbd (fun z=>by
    obtain ⟨b',off',z1,z2,z3⟩:=hB2 z;exact ⟨b',off',z1,fun i hi=>(hw.cell (p:=⟨b',off'+i,none⟩) (yc (by rw [z3 i hi];simp))).trans (z3 i hi)⟩)
   have hcw:=HCV.out wr.drew HL.out.b.drew;have hbr:b<wr.heap.size:=by omega
   have HR:=qH2 hat hbs;clear hat hbs hv2 hB2;go_wp2_with fail;go_region_held3 (fun w'=>w'.cell? (Aq w.heap.size 0)=some (.slice (some (Aq b off)) cs.length cap)/\w'.cell? ⟨b,off+k*2+1,none⟩=some (.slice p2 l.length cap2)/\(convert 35 9 (.slice p2 l.length cap2)).run prog w'=.ok (Zq ⟨l.toArray⟩) w') (go_keep) (first|(go_at_call 70;have Q9:=LC wr.drew;refine Calls.mono Q9 ?_;clear Q9;rintro e w5 ⟨uq,uc,rfl,hu,hb5⟩;obtain ⟨cA,fA,sz5,bl5⟩:=jL hb5;have k0:=(cA _ 0 lc).trans e0;have k1:=(cA _ _ hbr).trans d1;have k2:=(cA _ _ hbr).trans d2;have HL5:=qH2 bl5 hu;have hcw5:=HCV.out w5 (HL.out.b.trans (bl5.mono HL.out.b.size));clear hu hb5 cA fA bl5 sz5));obtain ⟨aV,cV,rfl⟩:=vD HL.out.l.own;obtain ⟨tag1,htag1⟩:∃tag1:Nat->Nat,tag1=fun g=>if wr.heap.size<=g then 3+k else tag g:=⟨_,rfl⟩
   have tlow:∀g,g<wr.heap.size->tag1 g=tag g:=fun g hg=>by rw [htag1];exact if_neg zza
   have hb5:=HL5.out.1;have lo5:w.heap.size<=wr.heap.size:=HL.out.b.size;have HB5:Hid (Bq w w5):=HL.out.b.trans (hb5.mono lo5);have lo6:w.heap.size<=w5.heap.size:=HB5.out.size;have H5:Hid (Lnt w5 w.heap.size tag1 cs k k vs G (.slice aV k cV)/\Blk w5 X0 #[(Sq G (cs.length+8) (cs.length+8)),.slice aV k cV] 156/\Blk w5 w.heap.size #[.slice (some (Aq b off)) cs.length cap,Iq rom] 26/\Blk w5 (w.heap.size+1) #[Nq,Iq 0] 26/\Blk w5 (w.heap.size+1+1) #[Nq,Nq] 156):=
    ⟨HL.out.l.kept (fun g hg _=>hb5.block g hg) tlow,HL.out.x.below hb5,HL.out.c.below hb5,HL.out.r1.below hb5,HL.out.r2.below hb5⟩
   have HT1:Hid ((∀g,(Value.slice uq l.length uc).ownBlock=some g->tag1 g=3+k)/\(tag1 X0=0/\tag1 w.heap.size=0/\tag1 (w.heap.size+1)=0/\tag1 (w.heap.size+1+1)=0)):=
    ⟨fun g hg=>by rw [htag1];exact if_pos (HL5.out.2.blk hg).1,(tlow _ HL.out.x.lt).trans HL.out.tx,(tlow _ HL.out.c.lt).trans HL.out.tc,(tlow _ HL.out.r1.lt).trans HL.out.t1,(tlow _ HL.out.r2.lt).trans HL.out.t2⟩
   have HU:=qH1 HL5.out.2;have HTL1:Hid (∀g,g<w.heap.size->tag1 g=0):=fun g hg=>(tlow g zza).trans (HL.out.tl g hg)
   have HX:=qH1 HL.out.nx;have hbr5:b<w5.heap.size:=Nat.lt_of_lt_of_le hbr hb5.size;have x0:=H5.out.2.1.cq 0;have x1:=H5.out.2.1.cq 1;have xl:=H5.out.2.1.lt;clear htag1 tlow hb5 HL5 e0 d1 d2 hcw hcw5 LC hpn;have nv:∀g,(Value.slice aV k cV).ownBlock=some g->g≠X0/\g≠w.heap.size/\g≠w.heap.size+1/\g≠w.heap.size+1+1/\w.heap.size<=g:=fun g hg=>by
    have h2:=H5.out.1.tV g hg;refine ⟨fun e=>?_,fun e=>?_,fun e=>?_,fun e=>?_,(H5.out.1.own.lt g hg).1⟩
    ·rw [e,HT1.out.2.1] at h2;cases h2
    ·rw [e,HT1.out.2.2.1] at h2;cases h2
    ·rw [e,HT1.out.2.2.2.1] at h2;cases h2
    ·rw [e,HT1.out.2.2.2.2] at h2;cases h2
   go_upto_region 7 with (first|(at_builtin;go_must (refine wpList_append_lies _ rfl (.tmp 37) (.tmp 39) 154 rfl w.heap.size 35 i1 _ 1 24 H7 hj hj0 hj1 hj2 rfl zzb (.slice aV k cV) k vs rfl ?_ (Aq w5.heap.size 0) 1 1 [.slice uq l.length uc] rfl rfl (ye _ _ _) HU.out.one zzb ?_ ?_ ?_ _ rfl ?_;exact (H5.out.1.below qBa).own;(unfold maxLen;omega);omega;(simp;omega);intro g' cap' w7 hown hgrow hat hlt7;have hs7:w5.heap.size<w7.heap.size:=(by have q1:=hgrow.size;have q2:=World.size_alloc w5 (.cells #[.slice uq l.length uc] 35);omega);have hk7:∀n,n<w5.heap.size->some n≠(Value.slice aV k cV).ownBlock->w7.heap[n]?=w5.heap[n]?:=(fun n hn hv=>(hgrow.block n (by have q2:=World.size_alloc w5 (.cells #[.slice uq l.length uc] 35);omega) hv).trans (Below.heap_alloc _ _ _ hn));have HQ7:Hid ((∀n,n<w5.heap.size->some n≠(Value.slice aV k cV).ownBlock->w7.heap[n]?=w5.heap[n]?)/\Bq w w7):=⟨hk7,bel7 HB5.out hgrow (fun g hg=>(nv g hg).2.2.2.2)⟩;have HL7:Hid (Lnt w7 w.heap.size (fun g=>if (w5.alloc (.cells #[.slice uq l.length uc] 35)).heap.size<=g then 2 else tag1 g) cs k (k+1) (vs++ [.slice uq l.length uc]) G (Sq g' (k+1) cap')):=Lnt.app (H5.out.1.below qBa) (fun _=>by rw [HR.out.2];exact (HU.out.mono lo5).same (fun g hg=>Below.heap_alloc _ _ _ (HU.out.blk hg).2)) hlt HT1.out.1 hgrow hown hat;have hx7:=H5.out.2.1.same (hk7 _ xl (fun e=>(nv _ e.symm).1 rfl));have hc7:=H5.out.2.2.1.same (hk7 _ H5.out.2.2.1.lt (fun e=>(nv _ e.symm).2.1 rfl));have j0:=hx7.cq 0;have j1:=hx7.cq 1;have jf:=hx7.free 1;have jl:=hx7.lt;have j2:=hc7.cq 0;have jl2:=hc7.lt;have j3:w7.cell? ⟨b,off+k*2,none⟩=some (Iq A):=(World.cell?_of_block (a:=⟨b,off+k*2,none⟩) (hk7 b hbr5 (fun e=>by have:=(nv _ e.symm).2.2.2.2;omega))).trans k1;have hbr7:b<w7.heap.size:=zza;clear hown hgrow hat hlt7 hk7 hx7 hc7)))
   obtain ⟨tag2,htag2⟩:∃tag2:Nat->Nat,(fun g=>if (w5.alloc (.cells #[.slice uq l.length uc] 35)).heap.size<=g then 2 else tag1 g)=tag2:=⟨_,rfl⟩
   rw [htag2] at HL7;have t2:∀g,g<w5.heap.size->tag2 g=tag1 g:=fun g hg=>by rw [<-htag2];exact if_neg (by have:=World.size_alloc w5 (.cells #[.slice uq l.length uc] 35);omega)
   have h7:=HQ7.out.1;have nvo:∀n,n=X0\/n=w.heap.size\/n=w.heap.size+1\/n=w.heap.size+1+1->some n≠(Value.slice aV k cV).ownBlock:=fun n hn e=>by
    obtain ⟨z1,z2,z3,z4, -⟩:=nv n e.symm;omega
   have hx7:=H5.out.2.1.same (h7 _ xl (nvo _ (.inl rfl)));have HT2:Hid (tag2 X0=0/\tag2 w.heap.size=0/\tag2 (w.heap.size+1)=0/\tag2 (w.heap.size+1+1)=0):=
    ⟨(t2 _ xl).trans HT1.out.2.1,(t2 _ H5.out.2.2.1.lt).trans HT1.out.2.2.1,(t2 _ H5.out.2.2.2.1.lt).trans HT1.out.2.2.2.1,(t2 _ H5.out.2.2.2.2.lt).trans HT1.out.2.2.2.2⟩
   have HTL2:Hid (∀g,g<w.heap.size->tag2 g=0):=fun g hg=>(t2 g zza).trans (HTL1.out g hg)
   have hXG:X0≠G:=fun e=>by have z:=HT2.out.1;rw [e,HL7.out.tG] at z;cases z
   have hxw:X0≠w.heap.size/\X0≠w.heap.size+1/\X0≠w.heap.size+1+1:=HX.out;have H8:Hid (Lnt (w7.setCell (Aq X0 1) (Sq g' (k+1) cap')) w.heap.size tag2 cs k (k+1) (vs++ [.slice uq l.length uc]) G (Sq g' (k+1) cap')/\Blk (w7.setCell (Aq X0 1) (Sq g' (k+1) cap')) X0 #[(Sq G (cs.length+8) (cs.length+8)),(Sq g' (k+1) cap')] 156/\Blk (w7.setCell (Aq X0 1) (Sq g' (k+1) cap')) w.heap.size #[.slice (some (Aq b off)) cs.length cap,Iq rom] 26/\Blk (w7.setCell (Aq X0 1) (Sq g' (k+1) cap')) (w.heap.size+1) #[Nq,Iq 0] 26/\Blk (w7.setCell (Aq X0 1) (Sq g' (k+1) cap')) (w.heap.size+1+1) #[Nq,Nq] 156/\Bq w (w7.setCell (Aq X0 1) (Sq g' (k+1) cap'))):=
    ⟨HL7.out.kept (fun g hg ht=>Below.heap_setCell _ _ _ _ (fun e=>ht (by rw [e];exact HT2.out.1))) (fun _ _=>rfl),hx7.put 1 _,(H5.out.2.2.1.same (h7 _ H5.out.2.2.1.lt (nvo _ (.inr (.inl rfl))))).set hxw.1.symm,(H5.out.2.2.2.1.same (h7 _ H5.out.2.2.2.1.lt (nvo _ (.inr (.inr (.inl rfl)))))).set hxw.2.1.symm,(H5.out.2.2.2.2.same (h7 _ H5.out.2.2.2.2.lt (nvo _ (.inr (.inr (.inr rfl)))))).set hxw.2.2.symm,HQ7.out.2.setCell HL.out.lx _⟩
   have y3:(w7.setCell (Aq X0 1) (Sq g' (k+1) cap')).cell? ⟨b,off+k*2,none⟩=some (Iq A):=(World.cell?_of_block (a:=⟨b,off+k*2,none⟩) (Below.heap_setCell _ _ _ _ (fun e:b=X0=>by have:=HL.out.lx;omega))).trans j3;have hlx:=HL.out.lx;clear h7 hx7 t2 htag2 HQ7 HL7 HT1 H5 HU nv nvo j0 j1 jf jl j2 jl2 j3 HL x0 x1 xl k0 k1 k2;generalize w7.setCell (Aq X0 1) (Sq g' (k+1) cap')=W8 at*;have y0:=H8.out.2.1.cq 0;have y2:=H8.out.2.2.1.cq 0;obtain ⟨u1,hu1⟩:=H8.out.1.row.there (k*2) zza;obtain ⟨u2,hu2⟩:=H8.out.1.row.there (k*2+1) zza;have gf:=H8.out.1.row.free;have gl:=H8.out.1.row.lt;have yl1:=H8.out.2.1.lt;have yl2:=H8.out.2.2.1.lt;have hkI:(k:Int)<(cs.length:Int)+8:=by omega
   have hkI2:(k:Int)<(cs.length:Int):=by omega
   go_wp2_with fail;have ne1:∀n,tag2 n=0->n≠G:=fun n h e=>by rw [e,H8.out.1.tG] at h;cases h
   have HN:Hid (Lg w cs (.slice (some (Aq b off)) cs.length cap) rom G X0 (k+1) ((W8.setCell ⟨G,k*2,none⟩ (Iq A)).setCell ⟨G,k*2+1,none⟩ (.slice uq l.length uc)).drew (vs++ [.slice uq l.length uc]) (Sq g' (k+1) cap') tag2):=by
    have hv:(vs++ [.slice uq l.length uc])[k]?=some (.slice uq l.length uc):=by
     have e:=H8.out.1.len;rw [List.getElem?_append_right (by simp at e;omega)];have e2:k-vs.length=0:=by simp at e;omega
     rw [e2];rfl
    have hlay:=H8.out.1.lay hlt hv;rw [HR.out.1] at hlay;exact ⟨hlay.below (Below.refl _ _).drew,((H8.out.2.1.set hXG).set hXG).drew,((H8.out.2.2.1.set (ne1 _ HT2.out.2.1)).set (ne1 _ HT2.out.2.1)).drew,((H8.out.2.2.2.1.set (ne1 _ HT2.out.2.2.1)).set (ne1 _ HT2.out.2.2.1)).drew,((H8.out.2.2.2.2.1.set (ne1 _ HT2.out.2.2.2)).set (ne1 _ HT2.out.2.2.2)).drew,((H8.out.2.2.2.2.2.setCell H8.out.1.loG _).setCell H8.out.1.loG _).drew,hlx,hxw,HT2.out.1,HT2.out.2.1,HT2.out.2.2.1,HT2.out.2.2.2,HTL2.out⟩
   go_region
   all_goals
    clear H8 HT2 HR HX ne1;go_wp2;go_roundw;case rel=>exact ⟨k+1,_,_,_,by omega,by go_num,HN.out⟩
    case measure=>simp [intOf];omega
  ·obtain rfl:k=cs.length:=by omega
   clear hL hlt;go_wp2_with fail;go_loopw [7] (fun i wq=> ∃j:Nat,j<=8/\i=Iq ((cs.length:Int)+(j:Int))/\Lg w cs (.slice p cs.length cap) rom G X0 cs.length wq vs V tag/\∀m,m<j->wq.cell? ⟨G,(cs.length+m)*2,none⟩=some (Iq (-77))/\wq.cell? ⟨G,(cs.length+m)*2+1,none⟩=some (Nq)) (fun i _=>cs.length+8-(intOf i).toNat);case atStart=>exact ⟨0,by omega,by go_num,HL.out,fun m hm=>absurd hm zza⟩
   case round=>
    clear HL e0 lc;obtain ⟨j,hj,rfl,hL,hsp⟩:=hrel;have HL:=qH2 hL hsp;have y0:=hL.x.cq 0;have yl1:=hL.x.lt;have gf:=hL.l.row.free;have gl:=hL.l.row.lt;by_cases h8:j<8
    ·obtain ⟨u1,hu1⟩:=hL.l.row.there ((cs.length+j)*2) zza;obtain ⟨u2,hu2⟩:=hL.l.row.there ((cs.length+j)*2+1) zza;have ne1:∀n,tag n=0->n≠G:=fun n h e=>by rw [e,hL.l.tG] at h;cases h
     have HN:Hid (Lg w cs (.slice p cs.length cap) rom G X0 cs.length ((wr.setCell ⟨G,(cs.length+j)*2,none⟩ (Iq (-77))).setCell ⟨G,(cs.length+j)*2+1,none⟩ (Nq)) vs V tag/\∀m,m<j+1->((wr.setCell ⟨G,(cs.length+j)*2,none⟩ (Iq (-77))).setCell ⟨G,(cs.length+j)*2+1,none⟩ (Nq)).cell? ⟨G,(cs.length+m)*2,none⟩=some (Iq (-77))/\((wr.setCell ⟨G,(cs.length+j)*2,none⟩ (Iq (-77))).setCell ⟨G,(cs.length+j)*2+1,none⟩ (Nq)).cell? ⟨G,(cs.length+m)*2+1,none⟩=some (Nq)):=by
      refine ⟨⟨(hL.l.beyond zza).beyond zza,(hL.x.set (ne1 _ hL.tx)).set (ne1 _ hL.tx),(hL.c.set (ne1 _ hL.tc)).set (ne1 _ hL.tc),(hL.r1.set (ne1 _ hL.t1)).set (ne1 _ hL.t1),(hL.r2.set (ne1 _ hL.t2)).set (ne1 _ hL.t2),(hL.b.setCell hL.l.loG _).setCell hL.l.loG _,hL.lx,hL.nx,hL.tx,hL.tc,hL.t1,hL.t2,hL.tl⟩,fun m hm=>?_⟩;obtain ⟨v2,hv2⟩:=(hL.l.row.setCell G ((cs.length+j)*2) (Iq (-77))).there ((cs.length+j)*2+1) zza;by_cases e:m=j
      ·subst e;exact ⟨by rw [World.cell?_setCell_other _ _ _ _ (zQ _ _ _ zza),World.cell?_setCell_same _ _ _ hu1],World.cell?_setCell_same _ _ _ hv2⟩
      ·obtain ⟨z1,z2⟩:=hsp m zza;exact ⟨by rw [World.cell?_setCell_other _ _ _ _ (zQ _ _ _ zza),World.cell?_setCell_other _ _ _ _ (zQ _ _ _ zza)];exact z1,by rw [World.cell?_setCell_other _ _ _ _ (zQ _ _ _ zza),World.cell?_setCell_other _ _ _ _ (zQ _ _ _ zza)];exact z2⟩
     clear hL hsp HL ne1;have hkI:(cs.length:Int)+(j:Int)<(cs.length:Int)+8:=by omega
     go_wp2;go_roundw;case rel=>exact ⟨j+1,by omega,by go_num,HN.out⟩
     case measure=>simp [intOf];omega
    ·obtain rfl:j=8:=by omega
     have y1:=hL.x.cq 1;have z0:=hL.c.cq 0;have z1:=hL.c.cq 1;have zl:=hL.c.lt;have a0:=hL.r1.cq 0;have a1:=hL.r1.cq 1;have af:=hL.r1.free;have al:=hL.r1.lt;have b0:=hL.r2.cq 0;have b1:=hL.r2.cq 1;have bf:=hL.r2.free;have bl:=hL.r2.lt;obtain ⟨aV,cV,rfl⟩:=vD hL.l.own;obtain ⟨n0,n1,n2⟩:=hL.nx;have n3:=n0.symm;have n4:=n1.symm;have n5:=n2.symm;clear hL hsp;go_wp2_with fail;go_region
     all_goals
      iterate 3 go_step
      try simp only [Exit.then]
      show bodyPost _ _ _ _ _ _;have m1:w.heap.size+1≠w.heap.size+1+1:=by omega
      have hr1:Blk ((((wr.setCell ⟨w.heap.size+1,0,none⟩ (Sq G cs.length (cs.length+8))).setCell ⟨w.heap.size+1,1,none⟩ (Iq rom)).setCell ⟨w.heap.size+1+1,0,none⟩ (Sq G (cs.length+8) (cs.length+8))).setCell ⟨w.heap.size+1+1,1,none⟩ (.slice aV cs.length cV)).drew (w.heap.size+1) #[(Sq G cs.length (cs.length+8)),Iq rom] 26:=((((HL.out.1.r1.put 0 (Sq G cs.length (cs.length+8))).put 1 (Iq rom)).set m1).set m1).drew;have hr2:Blk ((((wr.setCell ⟨w.heap.size+1,0,none⟩ (Sq G cs.length (cs.length+8))).setCell ⟨w.heap.size+1,1,none⟩ (Iq rom)).setCell ⟨w.heap.size+1+1,0,none⟩ (Sq G (cs.length+8) (cs.length+8))).setCell ⟨w.heap.size+1+1,1,none⟩ (.slice aV cs.length cV)).drew (w.heap.size+1+1) #[(Sq G (cs.length+8) (cs.length+8)),.slice aV cs.length cV] 156:=((((HL.out.1.r2.set m1.symm).set m1.symm).put 0 (Sq G (cs.length+8) (cs.length+8))).put 1 (.slice aV cs.length cV)).drew;have q0:=hr1.cell 0;have q1:=hr1.cell 1;have p0:=hr2.cell 0;have p1:=hr2.cell 1;have ne1:∀n,tag n=0->n≠G:=fun n h e=>by rw [e,HL.out.1.l.tG] at h;cases h
      have hk:∀g,tag g≠0->((((wr.setCell ⟨w.heap.size+1,0,none⟩ (Sq G cs.length (cs.length+8))).setCell ⟨w.heap.size+1,1,none⟩ (Iq rom)).setCell ⟨w.heap.size+1+1,0,none⟩ (Sq G (cs.length+8) (cs.length+8))).setCell ⟨w.heap.size+1+1,1,none⟩ (.slice aV cs.length cV)).drew.heap[g]?=wr.heap[g]?:=fun g ht=>by
       have z1:g≠w.heap.size+1:=fun e=>ht (by rw [e];exact HL.out.1.t1)
       have z2:g≠w.heap.size+1+1:=fun e=>ht (by rw [e];exact HL.out.1.t2)
       exact (Below.heap_setCell _ _ _ _ z2).trans ((Below.heap_setCell _ _ _ _ z2).trans ((Below.heap_setCell _ _ _ _ z1).trans (Below.heap_setCell _ _ _ _ z1)))
      refine bodyPost_ret (v:=.tuple #[.agg #[(Sq G cs.length (cs.length+8)),Iq rom],.agg #[(Sq G (cs.length+8) (cs.length+8)),.slice aV cs.length cV]]) ?_ ?_ ?_
      ·simp [results,results59,go_sem,q0,q1,p0,p1]
      ·rfl
      refine ⟨G,.slice aV cs.length cV,vs,tag,rfl,HL.out.1.l.kept (fun g _ ht=>hk g ht) (fun _ _=>rfl),fun m hm=>?_,?_⟩
      ·have hG:=hk G (by rw [HL.out.1.l.tG];decide);exact ⟨(World.cell?_of_block (a:=⟨G,(cs.length+m)*2,none⟩) hG).trans (HL.out.2 m hm).1,(World.cell?_of_block (a:=⟨G,(cs.length+m)*2+1,none⟩) hG).trans (HL.out.2 m hm).2⟩
      ·exact ⟨((((HL.out.1.b.setCell zzc _).setCell zzc _).setCell zzd _).setCell zzd _).drew,HL.out.1.tl⟩
theorem zgR{w:World}{lo:Nat}{l:List UInt8}{u:Value}(h:LV w lo l u)(hl:l.length<=2000000):Cq 72 #[u,Zq ⟨l.toArray⟩] w (Tq true) fun w'=>w.grownBy w' u.ownBlock/\w'.heap.size=w.heap.size:=by
 have hs:(⟨l.toArray⟩:ByteArray).size=l.length:=by simp [ByteArray.size]
 rcases h with ⟨rfl,rfl⟩|⟨g,h1,rfl,h2⟩
 ·refine (KB w).mono ?_;rintro e w' ⟨rfl,rfl⟩;exact ⟨rfl,World.grownBy.refl _ _,rfl⟩
 ·have:=KE ⟨l.toArray⟩ g w (by rw [hs];omega) (by simpa using h2);rw [hs] at this;exact this
structure Bkt (w:World) (lo:Nat) (tag:Nat->Nat) (cs:List Chn) (vs:List Value) (G:Nat) (V:Value) (i:Nat) (wr:World):Prop where
 row:RowAt wr G 51 2 (cs.length+8)
 c:∀j,(h:j<cs.length)->i<=j->wr.cell? ⟨G,j*2,none⟩=some (Iq cs[j].at_)/\wr.cell? ⟨G,j*2+1,none⟩=vs[j]?
 sp:∀m,m<8->i<=cs.length+m->wr.cell? ⟨G,(cs.length+m)*2,none⟩=some (Iq (-77))/\wr.cell? ⟨G,(cs.length+m)*2+1,none⟩=some (Nq)
 own:wr.ownsRow lo 35 1 V cs.length vs
 lv:∀j,(h:j<cs.length)->i<=j->∃v,vs[j]?=some v/\LV wr lo cs[j].bs v
 os:wr.os=w.os
 tape:wr.tape=w.tape
 output:wr.output=w.output
 size:w.heap.size<=wr.heap.size
 keep:∀g,g<w.heap.size->tag g=0->wr.heap[g]?=w.heap[g]?
 tG:tag G=1
 tV:∀g,V.ownBlock=some g->tag g=2
 tv:∀ (j:Nat) v g,vs[j]?=some v->v.ownBlock=some g->tag g=3+j
section
variable {w wr w':World} {lo:Nat} {tag:Nat->Nat} {cs:List Chn} {vs:List Value} {G:Nat} {V:Value} {i:Nat}
theorem Bkt.start(h:Lnt w lo tag cs cs.length cs.length vs G V)(hs:∀j,j<8->w.cell? ⟨G,(cs.length+j)*2,none⟩=some (Iq (-77))/\w.cell? ⟨G,(cs.length+j)*2+1,none⟩=some (Nq)):Bkt w lo tag cs vs G V 0 w:=
 ⟨h.row,fun j q _=>h.c j q q,fun m hm _=>hs m hm,h.own,fun j q _=>h.lv j q q,rfl,rfl,rfl,Nat.le_refl _,fun _ _ _=>rfl,h.tG,h.tV,h.tv⟩
theorem Bkt.below(h:Bkt w lo tag cs vs G V i wr)(hb:Bq wr w'):Bkt w lo tag cs vs G V i w':=by
 have hG:=hb.block G h.row.lt;refine ⟨h.row.same hG,fun j q r=>?_,fun m q r=>?_,zG h.own (fun g hg=>hb.block g (h.own.lt g hg).2),fun j q r=>?_,hb.os.trans h.os,hb.tape.trans h.tape,hb.output.trans h.output,Nat.le_trans h.size hb.size,fun g q r=>(hb.block g (Nat.lt_of_lt_of_le q h.size)).trans (h.keep g q r),h.tG,h.tV,h.tv⟩
 ·rw [World.cell?_of_block (a:=⟨G,j*2,none⟩) hG,World.cell?_of_block (a:=⟨G,j*2+1,none⟩) hG];exact h.c j q r
 ·rw [World.cell?_of_block (a:=⟨G,(cs.length+m)*2,none⟩) hG,World.cell?_of_block (a:=⟨G,(cs.length+m)*2+1,none⟩) hG];exact h.sp m q r
 ·obtain ⟨v,e,z⟩:=h.lv j q r;exact ⟨v,e,z.same (fun g hg=>hb.block g (z.blk hg).2)⟩
theorem Bkt.step{w2:World}{a b:Value}(h:Bkt w lo tag cs vs G V i wr)(hos:w2.os=wr.os)(hta:w2.tape=wr.tape)(hou:w2.output=wr.output)(hsz:wr.heap.size<=w2.heap.size)
  (hk:∀n,n<wr.heap.size->tag n≠3+i->w2.heap[n]?=wr.heap[n]?):Bkt w lo tag cs vs G V (i+1) ((w2.setCell ⟨G,i*2,none⟩ a).setCell ⟨G,i*2+1,none⟩ b):=by
 have hG:w2.heap[G]?=wr.heap[G]?:=hk G h.row.lt (by rw [h.tG];omega);have hk2:∀n,n<wr.heap.size->tag n≠3+i->tag n≠1->((w2.setCell ⟨G,i*2,none⟩ a).setCell ⟨G,i*2+1,none⟩ b).heap[n]?=wr.heap[n]?:=fun n h1 h2 h3=>by
  have z:n≠G:=fun e=>h3 (by rw [e];exact h.tG)
  exact (Below.heap_setCell _ _ _ _ z).trans ((Below.heap_setCell _ _ _ _ z).trans (hk n h1 h2))
 have hc:∀o,o<i*2\/i*2+1<o->((w2.setCell ⟨G,i*2,none⟩ a).setCell ⟨G,i*2+1,none⟩ b).cell? (Aq G o)=wr.cell? (Aq G o):=fun o ho=>by
  rw [World.cell?_setCell_other _ _ _ _ (zQ _ _ _ zza),World.cell?_setCell_other _ _ _ _ (zQ _ _ _ zza)];exact World.cell?_of_block (a:=(Aq G o)) hG
 refine ⟨((h.row.same hG).setCell _ _ _).setCell _ _ _,fun j q r=>?_,fun m q r=>?_,zG h.own (fun g hg=>hk2 g (h.own.lt g hg).2 (by rw [h.tV g hg];omega) (by rw [h.tV g hg];decide)),fun j q r=>?_,hos.trans h.os,hta.trans h.tape,hou.trans h.output,?_,fun g q r=>(hk2 g (Nat.lt_of_lt_of_le q h.size) (by rw [r];omega) (by rw [r];decide)).trans (h.keep g q r),h.tG,h.tV,h.tv⟩
 ·rw [hc _ zza,hc _ zza];exact h.c j q zza
 ·rw [hc _ zza,hc _ zza];exact h.sp m q zza
 ·obtain ⟨v,e,z⟩:=h.lv j q zza;exact ⟨v,e,z.same (fun g hg=>hk2 g (z.blk hg).2 (by rw [h.tv j v g e hg];omega) (by rw [h.tv j v g e hg];omega))⟩
 ·have:=h.size;simp;omega
end
theorem zjZ(w:World)(N lo:Nat)(v:Value)(cs:List Chn)(rom:Int)(tag:Nat->Nat)(vs:List Value)(G:Nat)(V:Value)(hL:Lnt w lo tag cs cs.length cs.length vs G V)
  (hs:∀j,j<8->w.cell? ⟨G,(cs.length+j)*2,none⟩=some (Iq (-77))/\w.cell? ⟨G,(cs.length+j)*2+1,none⟩=some (Nq)) (ht0:∀g,g<lo->tag g=0) (htn:∀g,w.heap.size<=g->tag g=0)
  (hc:CfAt N w v cs) (hN:N<=lo) (hl:cs.length<=2000000) (hb:∀c∈cs,c.bs.length<=2000000):
  Cq 60 #[.agg #[(Sq G (cs.length+8) (cs.length+8)),V],.agg #[v,Iq rom]] w (Tq true) fun w'=>w'.os=w.os/\w'.tape=w.tape/\w'.output=w.output/\w.heap.size<=w'.heap.size/\∀g,g<w.heap.size->tag g=0->w'.heap[g]?=w.heap[g]?:=by
 have HC:=qH5 hN hc hb ht0 htn;obtain ⟨p,cap,rfl, -⟩:=hc;obtain ⟨aV,cV,rfl⟩:=vD hL.own;have loG:=hL.row.lt;have hLo:lo<=w.heap.size:=Nat.le_of_lt (Nat.lt_of_le_of_lt hL.loG loG);have hb2:Bq w ((w.alloc (.cells #[(Sq G (cs.length+8) (cs.length+8)),.slice aV cs.length cV] 156)).alloc (.cells #[.slice p cs.length cap,Iq rom] 26)):=qBa.alloc zzc _;have HB:Hid (Bkt w lo tag cs vs G (.slice aV cs.length cV) 0 ((w.alloc (.cells #[(Sq G (cs.length+8) (cs.length+8)),.slice aV cs.length cV] 156)).alloc (.cells #[.slice p cs.length cap,Iq rom] 26))/\Blk ((w.alloc (.cells #[(Sq G (cs.length+8) (cs.length+8)),.slice aV cs.length cV] 156)).alloc (.cells #[.slice p cs.length cap,Iq rom] 26)) w.heap.size #[(Sq G (cs.length+8) (cs.length+8)),.slice aV cs.length cV] 156/\Blk ((w.alloc (.cells #[(Sq G (cs.length+8) (cs.length+8)),.slice aV cs.length cV] 156)).alloc (.cells #[.slice p cs.length cap,Iq rom] 26)) (w.heap.size+1) #[.slice p cs.length cap,Iq rom] 26):=⟨(Bkt.start hL hs).below hb2,(Blk.new w _ _).alloc _,Yh _ _ _ _ zzc⟩;have hnil:=fun (w:World) (a:Option Addr) (n c:Nat)=>Lib.run_eql_slice_nil (P:=prog) w 35 5 a n c 0 0 zx
 clear hN hb hL hs hb2 ht0 htn;go_enter func60,ntmps60;go_wp2_with fail;generalize ((w.alloc (.cells #[(Sq G (cs.length+8) (cs.length+8)),.slice aV cs.length cV] 156)).alloc (.cells #[.slice p cs.length cap,Iq rom] 26))=W at*;go_loopw [5,6] (fun ok i wr=> ∃k:Nat,k<=cs.length+8/\ok=Tq true/\i=Iq k/\Bkt w lo tag cs vs G (.slice aV cs.length cV) k wr/\Blk wr w.heap.size #[(Sq G (cs.length+8) (cs.length+8)),.slice aV cs.length cV] 156/\Blk wr (w.heap.size+1) #[.slice p cs.length cap,Iq rom] 26) (fun _ i _=>cs.length+8-(intOf i).toNat);case atStart=>exact ⟨0,by omega,rfl,rfl,HB.out⟩
 case round=>
  clear HB;obtain ⟨k,hk,rfl,rfl,hB,hX,hK⟩:=hrel;have HB:=qH3 hB hX hK;have x0:=hX.cq 0;have x1:=hX.cq 1;have k0:=hK.cq 0;have xl:=hX.lt;have kl:=hK.lt;have gf:=hB.row.free;have gl:=hB.row.lt;by_cases h8:k<cs.length+8
  ·obtain ⟨u1,hu1⟩:=hB.row.there (k*2) zza;obtain ⟨u2,hu2⟩:=hB.row.there (k*2+1) zza;have n1:G≠w.heap.size:=by omega
   have n2:G≠w.heap.size+1:=by omega
   have n3:w.heap.size≠G:=by omega
   have n4:w.heap.size+1≠G:=by omega
   have hkI:(k:Int)<(cs.length:Int)+8:=by omega
   by_cases hlt:k<cs.length
   ·obtain ⟨p',cap',ev,H⟩:=HC.out.2.1;injection ev with ev1 ev2 ev3;subst ev1;subst ev3;obtain ⟨b,off,rfl,hbN,HQ⟩:=H (by intro e;rw [e] at hlt;simp at hlt);obtain ⟨c1,c2,hcv⟩:=HQ k hlt;have hlen:=HC.out.2.2.1 _ (List.getElem_mem hlt);have hN:=HC.out.1;have tb0:∀g,g<N->tag g=0:=fun g hg=>HC.out.2.2.2.1 g zza
    have hold:∀g o,g<N->w.cell? (Aq g o) ≠none->wr.cell? (Aq g o)=w.cell? (Aq g o):=fun g o hg hne=>World.cell?_of_block (a:=(Aq g o)) (hB.keep g (yc hne) (tb0 g hg))
    have d1:=(hold b (off+k*2) hbN (by rw [c1];simp)).trans c1;have d2:=(hold b (off+k*2+1) hbN (by rw [c2];simp)).trans c2;obtain ⟨p2,cap2,hv2,hB2⟩:=hcv;rw [hv2] at d2;obtain ⟨u,hu,hLV⟩:=hB.lv k hlt (Nat.le_refl _);obtain ⟨g1,g2⟩:=hB.c k hlt (Nat.le_refl _);rw [hu] at g2;obtain ⟨gV,rfl⟩:∃gV,aV=some (Aq gV 0):=by
     rcases hB.own.2 with ⟨_,e2⟩|⟨g,cap,_,e,_⟩
     ·omega
     ·injection e with e;exact ⟨g,e⟩
    have v1:wr.cell? (Aq gV k)=some u:=(hB.own.cellAt k zza).trans hu;have vl:=(hB.own.lt gV rfl).2;obtain ⟨uq,uc,rfl⟩:∃uq uc,u=.slice uq cs[k].bs.length uc:=by
     rcases hLV with ⟨e1,e2⟩|⟨g,_,e2,_⟩
     ·exact ⟨none,0,by rw [e2,e1];rfl⟩
     ·exact ⟨_,_,e2⟩
    have hbr:b<wr.heap.size:=by have:=hB.size;omega
    have HT:Hid (tag w.heap.size=0/\tag (w.heap.size+1)=0/\tag gV=2/\tag G=1/\∀g,g<N->tag g=0):=⟨HC.out.2.2.2.2 _ (Nat.le_refl _),HC.out.2.2.2.2 _ zza,hB.tV gV rfl,hB.tG,tb0⟩;have BC:=zgR (w:=wr.drew) (hLV.same (fun _ _=>rfl)) hlen;have HV:=qH1 hu;have HCV:Hid (∀w',(∀g,g<wr.heap.size->tag g≠3+k->w'.heap[g]?=wr.heap[g]?)->(convert 35 9 (.slice p2 cs[k].bs.length cap2)).run prog w'=.ok (Zq ⟨cs[k].bs.toArray⟩) w'):=fun w' hw=>zbd (fun z=>by
     obtain ⟨b',off',z1,z2,z3⟩:=hB2 z;refine ⟨b',off',z1,fun i hi=>?_⟩;have e1:=z3 i hi;have e2:=hold b' (off'+i) z2 (by rw [e1];simp);rw [World.cell?_of_block (a:=⟨b',off'+i,none⟩) (hw b' (yc (o:=off'+i) (by rw [e2,e1];simp)) (by rw [tb0 b' z2];omega)),e2];exact e1)
    have hcw:=HCV.out wr.drew (fun _ _ _=>rfl);have hltI:(k:Int)<(cs.length:Int):=by omega
    have hngI:¬(cs.length:Int)<=(k:Int):=by omega
    clear HQ H c1 c2 hold tb0 hB2 hv2 hu hLV hB hX hK hu1 hu2;generalize cs[k].at_=A at*;generalize cs[k].bs=l at*;go_wp2_with fail;go_region_held3 (fun w'=>w'.cell? (Aq w.heap.size 1)=some (Sq gV cs.length cV)/\w'.cell? (Aq gV k)=some (.slice uq l.length uc)/\w'.cell? ⟨w.heap.size+1,0,none⟩=some (.slice (some (Aq b off)) cs.length cap)/\w'.cell? ⟨b,off+k*2+1,none⟩=some (.slice p2 l.length cap2)/\(convert 35 9 (.slice p2 l.length cap2)).run prog w'=.ok (Zq ⟨l.toArray⟩) w') (go_keep) (first|(go_at_call 72;refine BC.mono ?_;rintro e w5 ⟨rfl,hg5,hs5⟩;have hk5:∀g,g<wr.heap.size->tag g≠3+k->w5.heap[g]?=wr.heap[g]?:=(fun g hg ht=>hg5.block g hg (fun e=>ht (HB.out.1.tv k _ g HV.out e.symm)));have cA:∀g o,g<wr.heap.size->tag g≠3+k->w5.cell? (Aq g o)=wr.cell? (Aq g o):=(fun g o h1 h2=>World.cell?_of_block (a:=(Aq g o)) (hk5 g h1 h2));have t0:=(cA _ 0 xl (by rw [HT.out.1];omega)).trans x0;have t1:=(cA _ 1 xl (by rw [HT.out.1];omega)).trans x1;have t2:=(cA _ _ vl (by rw [HT.out.2.2.1];omega)).trans v1;have t3:=(cA _ 0 kl (by rw [HT.out.2.1];omega)).trans k0;have t4:=(cA _ _ hbr (by rw [HT.out.2.2.2.2 b hbN];omega)).trans d1;have t5:=(cA _ _ hbr (by rw [HT.out.2.2.2.2 b hbN];omega)).trans d2;have t6:=(cA _ _ gl (by rw [HT.out.2.2.2.1];omega)).trans g1;have t7:=(cA _ _ gl (by rw [HT.out.2.2.2.1];omega)).trans g2;have hcw5:=HCV.out w5 hk5;have sl5:wr.heap.size=w5.heap.size:=hs5.symm;have H5:=qH4 hk5 hg5.os hg5.tape hg5.output;clear hk5 cA hg5 hs5))
    all_goals
     have HN:Hid (∀q,Bkt w lo tag cs vs G (Sq gV cs.length cV) (k+1) (((w5.drewN q).setCell ⟨G,k*2,none⟩ (Iq (-78))).setCell ⟨G,k*2+1,none⟩ (Nq))/\Blk (((w5.drewN q).setCell ⟨G,k*2,none⟩ (Iq (-78))).setCell ⟨G,k*2+1,none⟩ (Nq)) w.heap.size #[(Sq G (cs.length+8) (cs.length+8)),Sq gV cs.length cV] 156/\Blk (((w5.drewN q).setCell ⟨G,k*2,none⟩ (Iq (-78))).setCell ⟨G,k*2+1,none⟩ (Nq)) (w.heap.size+1) #[.slice (some (Aq b off)) cs.length cap,Iq rom] 26):=fun q=>
      ⟨HB.out.1.step H5.out.2.1 H5.out.2.2.1 H5.out.2.2.2 (Nat.le_of_eq sl5) H5.out.1,(((HB.out.2.1.same (H5.out.1 _ xl (by rw [HT.out.1];omega))).drewN q).set n3).set n3,(((HB.out.2.2.same (H5.out.1 _ kl (by rw [HT.out.2.1];omega))).drewN q).set n4).set n4⟩
     have gf5:∀o,w5.frozen? (Aq G o)=false:=fun o=>(World.frozen?_of_block (a:=(Aq G o)) (H5.out.1 G gl (by rw [HT.out.2.2.2.1];omega))).trans (gf o)
     have gl5:G<w5.heap.size:=by omega
     have xl5:w.heap.size<w5.heap.size:=by omega
     have kl5:w.heap.size+1<w5.heap.size:=by omega
     have bl5:b<w5.heap.size:=by omega
     clear HB H5 HT HCV HV x0 x1 k0 v1 vl d1 d2 g1 g2 gf gl xl kl hbr hcw hcw5 sl5 BC;go_wp2_with fail;go_quiet (fail);have HN2:=HN.out nq;have HN3:Hid _:=HN2;clear HN HN2;go_wp2;go_roundw;case rel=>exact ⟨k+1,by omega,rfl,by go_num,HN3.out⟩
     case measure=>simp [intOf];omega
   ·obtain ⟨m,rfl⟩:∃m,k=cs.length+m:=⟨k-cs.length,by omega⟩
    obtain ⟨s1,s2⟩:=hB.sp m zza zza;have hge:(cs.length:Int)<=((cs.length+m:Nat):Int):=by omega
    have HN:Hid (Bkt w lo tag cs vs G (.slice aV cs.length cV) (cs.length+m+1) ((wr.setCell ⟨G,(cs.length+m)*2,none⟩ (Iq (-78))).setCell ⟨G,(cs.length+m)*2+1,none⟩ (Nq))/\Blk ((wr.setCell ⟨G,(cs.length+m)*2,none⟩ (Iq (-78))).setCell ⟨G,(cs.length+m)*2+1,none⟩ (Nq)) w.heap.size #[(Sq G (cs.length+8) (cs.length+8)),.slice aV cs.length cV] 156/\Blk ((wr.setCell ⟨G,(cs.length+m)*2,none⟩ (Iq (-78))).setCell ⟨G,(cs.length+m)*2+1,none⟩ (Nq)) (w.heap.size+1) #[.slice p cs.length cap,Iq rom] 26):=
     ⟨hB.step rfl rfl rfl (Nat.le_refl _) (fun _ _ _=>rfl),(hX.set n3).set n3,(hK.set n4).set n4⟩
    clear hB hX hK HB hu1 hu2;go_wp2;go_roundw;case rel=>exact ⟨cs.length+m+1,by omega,rfl,by go_num,HN.out⟩
    case measure=>simp [intOf];omega
  ·obtain rfl:k=cs.length+8:=by omega
   clear hB hX hK;go_wp2;go_ret;exact ⟨rfl,HB.out.1.os,HB.out.1.tape,HB.out.1.output,HB.out.1.size,HB.out.1.keep⟩
def xq:List Chn->List Value->List Chn
 |c::cs,v::vs=>⟨c.at_,v,c.bs⟩::xq cs vs
 |_,_=>[]
theorem xX:∀ (cs:List Chn) (vs:List Value),vs.length=cs.length->(xq cs vs).length=cs.length
 | [],[],_=>rfl
 |c::cs,v::vs,h=>by simp [xq,xX cs vs (by simpa using h)]
theorem qw:∀ (cs:List Chn) (vs:List Value) (_:vs.length=cs.length) (i:Nat) (h:i<(xq cs vs).length) (h2:i<cs.length),(xq cs vs)[i].at_=cs[i].at_/\(xq cs vs)[i].bs=cs[i].bs/\vs[i]?=some (xq cs vs)[i].v
 | [],[],_,i,_,h2=>by simp at h2
 |c::cs,v::vs,e,0,_,_=>⟨rfl,rfl,rfl⟩
 |c::cs,v::vs,e,i+1,h,h2=>by
  have:=qw cs vs (by simpa using e) i (by simpa [xq] using h) (by simpa using h2);simpa [xq] using this
theorem Yo:∀ (cs:List Chn) (vs:List Value),vs.length=cs.length->yq (xq cs vs)=yq cs
 | [],[],_=>rfl
 |c::cs,v::vs,h=>by
  have:=Yo cs vs (by simpa using h);unfold yq at this⊢;simp [xq,this]
theorem Vl:∀ (cs:List Chn) (vs:List Value),vs.length=cs.length->(xq cs vs).all xO=cs.all xO
 | [],[],_=>rfl
 |c::cs,v::vs,h=>by
  have:=Vl cs vs (by simpa using h);simp only [xq,List.all_cons,this];rfl
theorem Xk:∀ (cs:List Chn) (vs:List Value) (m:Nat->Int),vs.length=cs.length->yW m (xq cs vs)=yW m cs
 | [],[],_,_=>rfl
 |c::cs,v::vs,m,h=>by
  have:=Xk cs vs (xS m c.at_ c.bs) (by simpa using h);unfold yW at this⊢;simp only [xq,List.foldl_cons];exact this
theorem Yp{rom:Int}{cs:List Chn}{vs:List Value}(h:vs.length=cs.length):yt rom (xq cs vs)=yt rom cs:=by
 unfold yt;rw [xX cs vs h,Vl cs vs h,Yo cs vs h]
theorem Un{rom:Int}{cs:List Chn}{vs:List Value}{R:Nat->Option Value}(h:vs.length=cs.length):PC.fresh rom (xq cs vs) R=PC.fresh rom cs R:=by
 unfold PC.fresh PC.start;rw [Xk cs vs _ h]
theorem zdY{w:World}{lo:Nat}{tag:Nat->Nat}{cs:List Chn}{vs:List Value}{G:Nat}{V:Value}(h:Lnt w lo tag cs cs.length cs.length vs G V):CfAt w.heap.size w (Sq G cs.length (cs.length+8)) (xq cs vs):=by
 have hl:=xX cs vs h.len;refine ⟨_,_,by rw [hl],fun _=>⟨G,0,rfl,h.row.lt,fun i hi=>?_⟩⟩;have hi2:i<cs.length:=by omega
 obtain ⟨e1,e2,e3⟩:=qw cs vs h.len i hi hi2;obtain ⟨c1,c2⟩:=h.c i hi2 hi2;obtain ⟨v,q1,q2⟩:=h.lv i hi2 hi2;rw [e3] at q1;injection q1 with q1;rw [Nat.zero_add,e1,e2,q1];exact ⟨c1,by rw [c2,e3,q1],q2.chv⟩
theorem zqc(N:Nat)(v:Value)(cs:List Chn)(rom:Int)(w:World)(hc:CfAt N w v cs)(hv:yt rom cs=false)(hl:cs.length<=140737488355328)(hb:∀c∈cs,c.bs.length<=140737488355328):Cq 22 #[.agg #[v,Iq rom]] w (.tuple #[.pointer none,Iq 1]) fun w'=>Bq w w':=by
 obtain ⟨R,zz,hz,hzs,HZ⟩:=zoE;have hne:zz≠ #[]:=by intro e;rw [e] at hzs;cases hzs
 have S:∀ (o:Obj) (t:TypeId),Calls prog 34 #[.pointer (some ⟨w.heap.size+1,0,none⟩),.agg #[v,Iq rom]] ((w.alloc o).alloc (.cells zz t)).drew fun e w'=>e=.returned (Iq 1)/\Below ((w.alloc o).alloc (.cells zz t)).drew.heap.size ((w.alloc o).alloc (.cells zz t)).drew w':=by
  intro o t;exact zeH N v cs rom ((hc.below (((Below.refl _ _).alloc (Nat.le_refl _) o).alloc zzc _)).below (qJ (Below.refl _ _))) hv hl hb
 clear HZ;obtain ⟨p,cap,rfl, -⟩:=hc;go_enter func22,ntmps22;go_wp2_with fail;go_region_with (first|(go_at_call 34;refine (S _ _).mono ?_;rintro e w2 ⟨rfl,T2⟩;have HT:Hid (Bq w w2):=(qBa.alloc zzc _).drew.trans (T2.mono zzd);clear T2 S));all_goals go_wp2
 all_goals go_ret2
 all_goals exact ⟨rfl,HT.out⟩
structure Mc where
 B:Nat
 R:Nat
 M:Nat
 s:PC
 t:RS
 vh:Value
def vy(n:Nat):Value:=Pq n
def mcs(ms:List Mc):List Value:=ms.flatMap fun m=>[vy m.B,vy m.R]
theorem zo6(ms:List Mc)(i:Nat)(h:i<ms.length):(mcs ms)[i*2]?=some (vy ms[i].B)/\(mcs ms)[i*2+1]?=some (vy ms[i].R):=by
 induction ms generalizing i with
 |nil=>simp at h
 |cons m r ih=>
  cases i with
  |zero=>exact ⟨rfl,rfl⟩
  |succ i=>
   have:=ih i (by simpa using h);have e:mcs (m::r)=[vy m.B,vy m.R]++mcs r:=by simp [mcs]
   rw [e,List.getElem?_append_right zzd,List.getElem?_append_right zzd];rw [show (i+1)*2- [vy m.B,vy m.R].length=i*2 from by simp;omega,show (i+1)*2+1- [vy m.B,vy m.R].length=i*2+1 from by simp;omega];simpa using this
theorem zdX(ms:List Mc)(m:Mc):mcs (ms++ [m])=mcs ms++ [vy m.B,vy m.R]:=by simp [mcs]
theorem zgI(ms:List Mc)(k:Nat)(h:k<ms.length)(m:Mc)(e1:m.B=ms[k].B)(e2:m.R=ms[k].R):mcs (ms.set k m)=mcs ms:=by
 induction ms generalizing k with
 |nil=>simp at h
 |cons x r ih=>
  cases k with
  |zero=>
   have e1:m.B=x.B:=e1;have e2:m.R=x.R:=e2;simp [mcs,e1,e2]
  |succ k=>
   have:=ih k (by simpa using h) (by simpa using e1) (by simpa using e2);unfold mcs at this⊢;simp [this]
theorem Pair.same{w w':World}{base B R M:Nat}{s:PC}{t:RS}{vh:Value}(p:Pair w base B R M s t vh)(h1:w'.heap[B]?=w.heap[B]?)(h2:w'.heap[R]?=w.heap[R]?)(h3:w'.heap[M]?=w.heap[M]?)(h4:∀g,vh.ownBlock=some g->w'.heap[g]?=w.heap[g]?):Pair w' base B R M s t vh:=
 ⟨p.x.same h1,p.y.same h2 h3,⟨zG p.o.o h4,p.o.ne⟩,p.al,p.nr,p.nm,p.nv⟩
theorem zpu:(prog.info? 134).map (fun i=>(i.zero,i.size,i.bytes))=some (some (.agg #[.pointer none,.pointer none]),2,16):=by kernel_rfl
theorem zqk:prog.underlying 73=some (.slice 134):=by kernel_rfl
theorem zpK(w:World)(x y:Value)(t:TypeId):∀j u,[x,y][j]?=some u->(w.alloc (.cells #[x,y] t)).cell? (((Aq w.heap.size 0):Addr).add j)=some u:=
 World.news_of_block (w:=w.alloc (.cells #[x,y] t)) (cs:=#[x,y]) (t:=t) (fr:=(0,0)) (heap_alloc_new w _)
theorem zpv(a b:Nat):∀u∈[vy a,vy b],u.oneCell'=true:=by
 intro u hu;simp at hu;rcases hu with rfl|rfl<;>rfl
theorem CfAt.old{N:Nat}{w w':World}{v:Value}{cs:List Chn}(h:CfAt N w v cs)(hk:∀g,g<N->g<w.heap.size->w'.heap[g]?=w.heap[g]?):CfAt N w' v cs:=h.kept fun b o hb hc=>World.cell?_of_block (a:=(Aq b o)) (hk b hb (yc hc))
def pkL(c n:Int):Int:=if c<0 then -(c+1).tmod n else c%n
theorem zmZ(c n:Int)(w:World)(h:1<=n)(h2:n<=9223372036854775807)(hc1: -9223372036854775808<=c)(hc2:c<=9223372036854775807):Cq 43 #[Iq c,Iq n] w (Iq (pkL c n)) fun w'=>w'=w:=by
 unfold pkL;go_enter func43,ntmps43;go_wp2;all_goals go_ret
 all_goals exact ⟨rfl,rfl⟩
theorem zey(c n:Int)(h:1<=n):0<=pkL c n/\pkL c n<n:=by
 unfold pkL;split
 ·rename_i hc;exact za9 c n h hc
 ·exact ⟨Int.emod_nonneg c zza,Int.emod_lt_of_pos c zza⟩
theorem zpq(w:World)(base B R M:Nat)(s:PC)(t:RS)(vh:Value)(h:Pair w base B R M s t vh)(hbs:base<=w.heap.size)(k a b:Int)(S:BA)(n q:Bool)(ca:Option Addr)(cl cc:Nat)(rom:Int)(hb1: -9223372036854775808<=b)(hb2:b<=9223372036854775807)(hk:k=2\/k=3\/k=4):Cq 42 #[.agg (opW k a b S n q ca cl cc rom),.agg #[Pq B,Pq R]] w (Tq true) fun w'=>Ran w base B R M vh w':=by
 rcases hk with rfl|rfl|rfl
 ·exact zo2 w base B R M s t vh h hbs a b S n q ca cl cc rom hb1 hb2
 ·exact zpi w base B R M s t vh h a b S n q ca cl cc rom
 ·exact zph w base B R M s t vh h a b S n q ca cl cc rom
structure OpC (N:Nat) (w:World) (k a b:Int) (v:Value):Prop where
 k:k=1\/k=2\/k=3\/k=4
 a1: -9223372036854775808<=a
 a2:a<=9223372036854775807
 b1: -9223372036854775808<=b
 b2:b<=9223372036854775807
 c:∃cs,CfAt N w v cs/\cs.length<=2000000/\(∀c∈cs,c.bs.length<=2000000)/\yq cs<=100000000
def OpL(N:Nat)(w:World)(g o:Nat):Prop:= ∃(k a b:Int) (S:ByteArray) (n q:Bool) (v:Value) (rom:Int),
 (w.cell? (Aq g o)=some (Iq k)/\w.cell? ⟨g,o+1,none⟩=some (Iq a)/\w.cell? ⟨g,o+2,none⟩=some (Iq b)/\w.cell? ⟨g,o+3,none⟩=some (Zq S)/\w.cell? ⟨g,o+4,none⟩=some (Tq n)/\w.cell? ⟨g,o+5,none⟩=some (Tq q)/\w.cell? ⟨g,o+6,none⟩=some v/\w.cell? ⟨g,o+7,none⟩=some (Iq rom))/\
 ((k=1\/k=2\/k=3\/k=4)->OpC N w k a b v)/\∃p l c,v=.slice p l c
theorem OpC.later{N:Nat}{w w':World}{k a b:Int}{v:Value}(h:OpC N w k a b v)(hb:Bq w w'):OpC N w' k a b v:=by
 obtain ⟨cs,c1,c2⟩:=h.c;exact ⟨h.k,h.a1,h.a2,h.b1,h.b2,cs,c1.below hb,c2⟩
theorem OpL.later{N:Nat}{w w':World}{g o:Nat}(h:OpL N w g o)(hb:Bq w w'):OpL N w' g o:=by
 obtain ⟨k,a,b,S,n,q,v,rom,⟨h0,h1,h2,h3,h4,h5,h6,h7⟩,r,sl⟩:=h;exact ⟨k,a,b,S,n,q,v,rom,⟨cell_later hb h0,cell_later hb h1,cell_later hb h2,cell_later hb h3,cell_later hb h4,cell_later hb h5,cell_later hb h6,cell_later hb h7⟩,fun z=>(r z).later hb,sl⟩
