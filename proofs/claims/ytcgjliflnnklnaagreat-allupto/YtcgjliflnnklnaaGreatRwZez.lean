import Derived.Deep.AppendLies
import Derived.Deep.RegionHeld3
import Derived.Deep.Cut
import Derived.Test.YtcgjliflnnklnaaGreatJ06
import Derived.Test.YtcgjliflnnklnaaGreatJ08
import Derived.Test.YtcgjliflnnklnaaGreatJ20
namespace Go.Proofs.YtcgjliflnnklnaaGreat
open Go.RowKit Tryz
set_option maxRecDepth 100000
set_option maxHeartbeats 20000000
theorem QQ(x:Int):wrap64 x=IntKind.wrap .i64 x:=by simp only [wrap64,IntKind.wrap_i64]
theorem zge:(prog.info? 3).map (fun i=>(i.zero,i.size,i.bytes))=some (some (Iq 0),1,8):=by kernel_rfl
theorem zdr:prog.underlying 30=some (.slice 3):=by kernel_rfl
theorem zgf(x:Int):∀u∈[Iq x],u.oneCell'=true:=by
 intro u hu;simp at hu;subst hu;rfl
theorem HV.slice{w:World}{base B M:Nat}{v:Value}{h:List Int}(o:HV w base B M v h):∃p c,v=.slice p h.length c:=by
 rcases o.shape with ⟨e,p,c,e2⟩|⟨_,g,c,e2⟩
 ·exact ⟨p,c,by rw [e2,e];rfl⟩
 ·exact ⟨_,c,e2⟩
theorem HV.ptr{w:World}{base B M:Nat}{p:Option Addr}{c:Nat}{h:List Int}(o:HV w base B M (.slice p h.length c) h)(hn:h≠ []):∃g,p=some (Aq g 0):=by
 rcases o.shape with ⟨e,_⟩|⟨_,g,c',e2⟩
 ·exact absurd e hn
 ·injection e2 with e2;exact ⟨g,e2⟩
theorem Blk.new'(w:World)(n:Nat)(vs:Array Value)(T:TypeId)(h:w.heap.size=n):Blk (w.alloc (.cells vs T)) n vs T:=h ▸ Blk.new w vs T
theorem Blk.put{w:World}{n:Nat}{vs:Array Value}{T:TypeId}(b:Blk w n vs T)(o:Nat)(u:Value):Blk (w.setCell (Aq n o) u) n (vs.setIfInBounds o u) T:=by
 have h:w.heap[n]?=some (.cells vs T (0,0)):=b;unfold Blk;simp only [World.setCell,Array.getElem?_modify,h];simp
theorem Blk.store{w:World}{n:Nat}{a b c d a' b' c' d':Value}{T:TypeId}(k:Blk w n #[a,b,c,d] T):Blk ((((w.setCell (Aq n 0) a').setCell (Aq n 1) b').setCell (Aq n 2) c').setCell (Aq n 3) d') n #[a',b',c',d'] T:=(((k.put 0 a').put 1 b').put 2 c').put 3 d'
theorem zgg{h:List Int}{x:Int}(hb:∀i,i<h.length->0<=hd h i/\hd h i<256)(hx:0<=x/\x<256):∀i,i<(h++ [x]).length->0<=hd (h++ [x]) i/\hd (h++ [x]) i<256:=by
 intro i hi;by_cases q:i<h.length
 ·have e:hd (h++ [x]) i=hd h i:=by unfold hd;simp [List.getD,List.getElem?_append_left q]
  rw [e];exact hb i q
 ·have e:hd (h++ [x]) i=x:=by
   have q2:i=h.length:=by simp at hi;omega
   subst q2;unfold hd;simp [List.getD]
  rw [e];exact hx
theorem TR.app{B M base g' cap':Nat}{L:List Value}{m:Nat->Int}{v:Value}{h:List Int}{w0 w3 w4:World}{o:Obj}{bd:Int}(x:TR B M base v.ownBlock L m v h w0 w3)(hgrow:(w3.alloc o).drew.grownBy w4 v.ownBlock)
  (hown:w4.ownsRow base 3 1 (Sq g' (h.length+1) cap') (h.length+1) ((h.map fun x=>Iq x)++ [Iq bd])) (hat:v.ownBlock=some g'\/g'=(w3.alloc o).drew.heap.size):
  TR B M base v.ownBlock L m (Sq g' (h.length+1) cap') (h++ [bd]) w0 w4/\(v.ownBlock=some g'\/w3.heap.size<g')/\(∀n,n<w3.heap.size->v.ownBlock≠some n->w4.heap[n]?=w3.heap[n]?)/\w3.heap.size<w4.heap.size:=by
 have e:(w3.alloc o).drew.heap.size=w3.heap.size+1:=World.size_alloc _ _;have hk:∀n,n<w3.heap.size->v.ownBlock≠some n->w4.heap[n]?=w3.heap[n]?:=fun n hn hv=>(hgrow.block n zza (fun q=>hv q.symm)).trans (Below.heap_alloc _ _ _ hn)
 have hB:v.ownBlock≠some B:=fun q=>(x.o.ne _ q).1 rfl
 have hM:v.ownBlock≠some M:=fun q=>(x.o.ne _ q).2 rfl
 have hs:=hgrow.size;refine ⟨⟨x.c.same (hk B x.c.lt hB) (hk M x.c.ltM hM),⟨hgrow.os.trans x.g.os,hgrow.tape.trans x.g.tape,hgrow.output.trans x.g.output,by have:=x.g.size;omega,fun k q1 q2 q3 q4=>(hk k (Nat.lt_of_lt_of_le q1 x.g.size) (fun q=>q4 q.symm)).trans (x.g.block k q1 q2 q3 q4)⟩,⟨?_,?_⟩⟩,?_,hk,by omega⟩
 ·have e1:(h++ [bd]).length=h.length+1:=by simp
  have e2:(h++ [bd]).map (fun x=>Iq x)=(h.map fun x=>Iq x)++ [Iq bd]:=by simp
  rw [e1,e2];exact hown
 ·intro g hg;have e1:g'=g:=by simp [Value.ownBlock] at hg;exact hg
  subst e1;rcases hat with q|q
  ·exact x.o.ne _ q
  ·have:=x.c.lt;have:=x.c.ltM;omega
 ·rcases hat with q|q
  ·exact .inl q
  ·exact .inr zza
theorem zkm{B M base:Nat}{t:RS}{vh:Value}{w:World}(h0:MAt w B M (MV M vh t) t.mem)(hv:HV w base B M vh t.h)(hbs:base<=w.heap.size)(hj:t.r.jam=false)(rg:RgR t.r)(k0:0<=t.cnt/\t.cnt<256)
  (hm:t.h≠ [] ->Cd t.op t.md) (hlen:t.h.length<=90) (hJ:t.op=b3 74 77 80->t.h.length<=4) (hby:∀i,i<t.h.length->0<=hd t.h i/\hd t.h i<256) (nmi irq:Bool)
  (hd0:0<=(t.cycle nmi irq).2.data/\(t.cycle nmi irq).2.data<256) (ha0:0<=(t.cycle nmi irq).2.addr/\(t.cycle nmi irq).2.addr<65536):
  Cq 63 #[Pq B,Tq nmi,Tq irq] w (.tuple #[(t.cycle nmi irq).2.val,Tq true]) fun w'=>∃vh',MAt w' B M (MV M vh' (t.cycle nmi irq).1) (t.cycle nmi irq).1.mem/\HV w' base B M vh' (t.cycle nmi irq).1.h/\Tri B M vh.ownBlock w w'/\∀g,vh'.ownBlock=some g->vh.ownBlock=some g\/w.heap.size<g:=by
 obtain ⟨p,c,rfl⟩:=hv.slice;obtain ⟨a,ea⟩:∃a,(if (t.pins nmi).h.length>0 then (zo (t.pins nmi).op (t.pins nmi).md (t.pins nmi).r (t.pins nmi).h).1 else ⟨(t.pins nmi).r.PC,false,0,true⟩)=a:=⟨_,rfl⟩
 obtain ⟨tb,b,eb⟩:∃tb b,(t.pins nmi).bus a=(tb,b):=⟨_,_,rfl⟩
 obtain ⟨t2,e2⟩:∃t2,(if (t.pins nmi).h.length=0 then tb.begins b.data irq else tb)=t2:=⟨_,rfl⟩
 obtain ⟨t3,e3⟩:∃t3,t2.counts b=t3:=⟨_,rfl⟩
 have HC:Hid (t.cycle nmi irq=if t3.r.jam=true then (t3,b) else if (zo t3.op t3.md t3.r (t3.h++ [b.data])).2=true then ({t3 with h:=t3.h++ [b.data] },b) else ({t3 with h:=[],r:=zV t3.op t3.md t3.r (t3.h++ [b.data])},b)):=by
  show _=_;rw [Zw];exact Gw ea eb e2 e3
 have hcb:(t.cycle nmi irq).2=b:=by rw [Zw];exact Gy ea eb
 rw [hcb] at hd0 ha0⊢;have HK:Hid (t3.h=t.h/\RgR t3.r/\(t3.r.jam=false->Cd t3.op t3.md)/\(t.h≠ [] ->t3.op=t.op)):=zaw rg hm eb e2 e3;have HN:Hid (0<=t2.cnt/\t2.cnt<256):=zcM k0 eb e2 hd0;have hax:0<=a.addr/\a.addr<65536:=by
  have:=Gx (t.pins nmi) a;rw [eb] at this;dsimp only at this;rw [<-this];exact ha0
 have HA:Hid ((if t.h.length>0 then (zo t.op t.md (t.pins nmi).r t.h).1 else ⟨t.r.PC,false,0,true⟩)=a):=ea;have HB:Hid ((t.pins nmi).bus a=(tb,b)):=eb;have H2:Hid ((if t.h.length=0 then tb.begins b.data irq else tb)=t2):=e2;have H3:Hid (t2.counts b=t3):=e3;have HM:Hid ((t.h≠ [] ->Cd t.op t.md)/\RgR t.r/\(t.op=b3 74 77 80->t.h.length<=4)/\(∀i,i<t.h.length->0<=hd t.h i/\hd t.h i<256)/\(0<=b.data/\b.data<256)):=⟨hm,rg,hJ,hby,hd0⟩;have HR:Hid (∀g,(Value.slice p t.h.length c).ownBlock=some g->g≠B/\g≠M/\g<w.heap.size):=fun g hg=>⟨(hv.ne g hg).1,(hv.ne g hg).2,(hv.o.lt g hg).2⟩
 clear e2 e3 eb ea hcb ha0 rg hm hJ hby hd0 k0;have lt1:=h0.lt;have lt2:=h0.ltM;have ne:=h0.ne;have ne2:=h0.ne.symm;have m1:w.heap.size≠B:=by omega
 have m2:w.heap.size≠M:=by omega
 have m3:B≠w.heap.size:=by omega
 have m4:M≠w.heap.size:=by omega
 have hTR:TR B M base (Value.slice p t.h.length c).ownBlock (MV M (.slice p t.h.length c) t) t.mem (.slice p t.h.length c) t.h w w:=⟨h0,Tri.refl _ _ _ _,hv⟩;obtain ⟨c0,c1,c2,c3,c4,c5,c6,c7,c8,c9,c10,c11,c12,c13,c14,c15,c16⟩:=h0.cs;rw [hj] at c9;go_enter func63,ntmps63;go_upto_region 3 with fail;have hT:=hTR.alloc (.cells #[Iq 0,Iq 0,Tq false,Tq false] 53);have hR:=Blk.new w #[Iq 0,Iq 0,Tq false,Tq false] 53;generalize w.alloc (.cells #[Iq 0,Iq 0,Tq false,Tq false] 53)=W at*;clear c0 c1 c2 c3 c4 c5 c6 c7 c8 c9 c10 c11 c12 c13 c14 c15 c16;obtain ⟨c0,c1,c2,c3,c4,c5,c6,c7,c8,c9,c10,c11,c12,c13,c14,c15,c16⟩:=hT.c.cs;have lt3:=hT.c.lt;go_cut [27] from 14 (fun s wx=>s=Tq (nmi&& !t.nmi)/\TR B M base (Value.slice p t.h.length c).ownBlock (MV M (.slice p t.h.length c) t) t.mem (.slice p t.h.length c) t.h w wx/\Blk wx w.heap.size #[Iq 0,Iq 0,Tq false,Tq false] 53)
 case first=>
  cases nmi
  ·go_wp2_with fail;go_meet;case rel=>exact ⟨rfl,hT,hR⟩
  ·cases hq:t.nmi
   all_goals
    rw [hq] at c12;go_wp2_with fail;go_meet;case rel=>exact ⟨by rw [hq];rfl,hT,hR⟩
 case rest=>
  clear hT hR lt3 c0 c1 c2 c3 c4 c5 c6 c7 c8 c9 c10 c11 c12 c13 c14 c15 c16;obtain ⟨rfl,hT,hR⟩:=hcut;obtain ⟨q,hq⟩:∃q,(nmi&& !t.nmi)=q:=⟨_,rfl⟩
  rw [hq];have HQ:Hid ((nmi&& !t.nmi)=q):=hq;clear hq;go_upto_if 27 with fail;go_cut [] from 14 (fun wx=>TR B M base (Value.slice p t.h.length c).ownBlock (MV M (.slice p t.h.length c) {t with due:=t.due||q}) t.mem (.slice p t.h.length c) t.h w wx/\Blk wx w.heap.size #[Iq 0,Iq 0,Tq false,Tq false] 53)
  case first=>
   obtain ⟨c0,c1,c2,c3,c4,c5,c6,c7,c8,c9,c10,c11,c12,c13,c14,c15,c16⟩:=hT.c.cs;have f13:=hT.c.fr 13;have lt3:=hT.c.lt;cases q
   ·go_wp2_with fail;go_meet;case rel=>exact ⟨hT.eq (by rw [Bool.or_false]) rfl,hR⟩
   ·go_wp2_with fail;go_meet;case rel=>exact ⟨(hT.set zzb).eq (by rw [Bool.or_true];rfl) rfl,hR.set m1⟩
  case rest=>
   clear hT hR;obtain ⟨hT,hR⟩:=hcut;have lt3:=hT.c.lt;have lt4:=hT.c.ltM;have f8:=hT.c.fr 8;have f12:=hT.c.fr 12;obtain ⟨c0,c1,c2,c3,c4,c5,c6,c7,c8,c9,c10,c11,c12,c13,c14,c15,c16⟩:=hT.c.cs;go_upto_if 55 with fail;rw [QQ];generalize hW:World.alloc _ _=W2;have hT2:TR B M base (Value.slice p t.h.length c).ownBlock (MV M (.slice p t.h.length c) (t.pins nmi)) t.mem (.slice p t.h.length c) t.h w W2:=by
    rw [<-hW];apply TR.eq;case x=>(repeat (first|with_reducible exact hT|with_reducible apply TR.drew|with_reducible apply TR.drewN|with_reducible apply TR.alloc|((with_reducible apply TR.set);(case hi=>decide))))
    case e=>unfold RS.pins;rw [HQ.out];rfl
    case e2=>rfl
   have hR2:Blk W2 w.heap.size #[Iq 0,Iq 0,Tq false,Tq false] 53:=by
    rw [<-hW];(repeat (first|with_reducible exact hR|with_reducible apply Blk.drew|with_reducible apply Blk.drewN|with_reducible apply Blk.alloc|((with_reducible apply Blk.set);(case h=>omega))))
   have hA2:Blk W2 wc.heap.size #[Iq t.r.PC,Tq false,Iq 0,Tq true] 200:=by
    rw [<-hW];exact Blk.new' _ _ _ _ zzc
   have hwA:w.heap.size<wc.heap.size:=hR.lt;clear hW hT hR HQ lt3 lt4 f8 f12 c0 c1 c2 c3 c4 c5 c6 c7 c8 c9 c10 c11 c12 c13 c14 c15 c16;obtain ⟨A0,hA0⟩:∃A0,wc.heap.size=A0:=⟨_,rfl⟩
   rw [hA0] at hA2 hwA⊢;clear hA0;have n1:A0≠B:=by omega
   have n2:A0≠M:=by omega
   have n3:B≠A0:=by omega
   have n4:A0≠w.heap.size:=by omega
   have n5:w.heap.size≠A0:=by omega
   go_cut [] from 14 (fun wx=>TR B M base (Value.slice p t.h.length c).ownBlock (MV M (.slice p t.h.length c) (t.pins nmi)) t.mem (.slice p t.h.length c) t.h w wx/\Blk wx w.heap.size #[Iq 0,Iq 0,Tq false,Tq false] 53/\Blk wx A0 #[Iq a.addr,Tq a.wr,Iq a.data,Tq a.ft] 200)
   case first=>
    by_cases hn:t.h=[]
    ·have z0:t.h.length=0:=by rw [hn];rfl
     have hz:decide (0<t.h.length)=false:=by rw [z0];rfl
     have HAe:Hid (a=⟨t.r.PC,false,0,true⟩):=by show _=_;rw [<-HA.out,z0];rfl
     have hz2:¬0<t.h.length:=by omega
     clear z0 hz hn;go_wp2_with fail;go_meet;case rel=>exact ⟨hT2,hR2,by rw [HAe.out];exact hA2⟩
    ·have z0:0<t.h.length:=List.length_pos_iff.2 hn;have hz:decide (0<t.h.length)=true:=decide_eq_true z0;have HAe:Hid ((zo (t.pins nmi).op (t.pins nmi).md (t.pins nmi).r t.h).1=a):=by show _=_;rw [<-HA.out,if_pos z0];rfl
     obtain ⟨g,rfl⟩:=hT2.o.ptr hn;have HD:Hid (HdAt W2 g t.h):=hT2.o.hd HM.out.2.2.2.1;have NX:=fun w' (hb:Bq W2 w')=>zkh (t.pins nmi).op (t.pins nmi).md (HM.out.1 hn) (t.pins nmi).r ⟨HM.out.2.1.a,HM.out.2.1.x,HM.out.2.1.y,HM.out.2.1.s,HM.out.2.1.p,HM.out.2.1.pc⟩ g c t.h z0 zza w' (HD.out.later hb)
     clear HA HB HC;generalize t.pins nmi=t1 at*;generalize zo t1.op t1.md t1.r t.h=nq at*;obtain ⟨⟨n_a,n_w,n_d,n_f⟩,n_ok⟩:=nq;obtain rfl:(⟨n_a,n_w,n_d,n_f⟩:Act)=a:=HAe.out;unfold zi Act.val cdV hdV RG.val at NX;dsimp only at NX;have z1:(0:Int)<(t.h.length:Int):=by omega
     clear HAe hn;obtain ⟨c0,c1,c2,c3,c4,c5,c6,c7,c8,c9,c10,c11,c12,c13,c14,c15,c16⟩:=hT2.c.cs;have lt3:=hT2.c.lt;have f0:=hR2.four;have fA:=hA2.four;go_upto_region 9 with fail;go_cut [9] from 14 (fun s wx=> ∃X0,s=Pq X0/\Blk wx X0 #[Iq n_a,Tq n_w,Iq n_d,Tq n_f] 200/\Bq W2 wx)
     case first=>
      have hX:=Blk.new W2 #[Iq 0,Tq false,Iq 0,Tq false] 200;have hT3:=hT2.alloc (.cells #[Iq 0,Tq false,Iq 0,Tq false] 200);have hL3:Bq W2 (W2.alloc (.cells #[Iq 0,Tq false,Iq 0,Tq false] 200)):=qBa;obtain ⟨d0,d1,d2,d3,d4,d5,d6,d7,d8,d9,d10,d11,d12,d13,d14,d15,d16⟩:=hT3.c.cs;have dl:=hT3.c.lt;obtain ⟨x0,x1,x2,x3,xf,xl⟩:=hX.four;have n6:W2.heap.size≠B:=by have:=hT2.c.lt;omega
      have n7:B≠W2.heap.size:=by have:=hT2.c.lt;omega
      go_region_held3 (fun w'=>w'.cell? (Aq B 2)=some (Iq t1.r.A)/\w'.cell? (Aq B 3)=some (Iq t1.r.X)/\w'.cell? (Aq B 4)=some (Iq t1.r.Y)/\w'.cell? (Aq B 5)=some (Iq t1.r.S)/\w'.cell? (Aq B 6)=some (Iq t1.r.P)/\w'.cell? (Aq B 7)=some (Iq t1.r.PC)/\w'.cell? (Aq B 8)=some (Iq t1.r.cyc)/\w'.cell? (Aq B 9)=some (Tq t1.r.jam)/\w'.cell? (Aq B 14)=some (Zq t1.op)/\w'.cell? (Aq B 15)=some (Zq t1.md)/\w'.cell? (Aq B 16)=some (Sq g t.h.length c)) (go_keep) (first|(go_at_call 92;(with_reducible refine (NX _ hL3.drew).mono ?_);rintro e w5 ⟨rfl,hb5⟩;obtain ⟨ca,fa,sz5,bl5⟩:=jL hb5;have k2:=(ca _ 2 dl).trans d2;have k3:=(ca _ 3 dl).trans d3;have k4:=(ca _ 4 dl).trans d4;have k5:=(ca _ 5 dl).trans d5;have k6:=(ca _ 6 dl).trans d6;have k7:=(ca _ 7 dl).trans d7;have k8:=(ca _ 8 dl).trans d8;have k9:=(ca _ 9 dl).trans d9;have k14:=(ca _ 14 dl).trans d14;have k15:=(ca _ 15 dl).trans d15;have k16:=(ca _ 16 dl).trans d16;have X0:=(ca _ 0 xl).trans x0;have X1:=(ca _ 1 xl).trans x1;have X2:=(ca _ 2 xl).trans x2;have X3:=(ca _ 3 xl).trans x3;have XF:=fun o=>(fa _ o xl).trans (xf o);have xl5:=Nat.lt_of_lt_of_le xl sz5;have HX5:Hid (Blk w5 W2.heap.size #[Iq 0,Tq false,Iq 0,Tq false] 200):=hX.below bl5;have HB5:Hid (Bq W2 w5):=hL3.trans (bl5.mono hL3.size);clear hb5 ca fa bl5 sz5)|(go_at_call 92;(with_reducible refine (NX _ (Below.refl _ _).drew).mono ?_);rintro e w5 ⟨rfl,hb5⟩;obtain ⟨ca,fa,sz5,bl5⟩:=jL hb5;have k2:=(ca _ 2 lt3).trans c2;have k3:=(ca _ 3 lt3).trans c3;have k4:=(ca _ 4 lt3).trans c4;have k5:=(ca _ 5 lt3).trans c5;have k6:=(ca _ 6 lt3).trans c6;have k7:=(ca _ 7 lt3).trans c7;have k8:=(ca _ 8 lt3).trans c8;have k9:=(ca _ 9 lt3).trans c9;have k14:=(ca _ 14 lt3).trans c14;have k15:=(ca _ 15 lt3).trans c15;have k16:=(ca _ 16 lt3).trans c16;have lt5:=Nat.lt_of_lt_of_le lt3 sz5;have HB5:Hid (Bq W2 w5):=bl5;clear hb5 ca fa bl5 sz5))
      all_goals
       go_wp2_with fail;go_meet;case rel=>first|exact ⟨_,rfl,Blk.new _ _ _,HB5.out.alloc HB5.out.size _⟩|exact ⟨_,rfl,HX5.out.store,(((HB5.out.setCell (Nat.le_refl _) _).setCell (Nat.le_refl _) _).setCell (Nat.le_refl _) _).setCell (Nat.le_refl _) _⟩
     case rest=>
      obtain ⟨X0,rfl,hX0,hB9⟩:=hcut;have hT9:=hT2.below hB9;have hR9:=hR2.below hB9;have hA9:=hA2.below hB9;obtain ⟨y0,y1,y2,y3,yf,yl⟩:=hA9.four;obtain ⟨x0,x1,x2,x3, -,xl⟩:=hX0.four;have hg:∀g',(Sq g t.h.length c).ownBlock=some g'->A0≠g':=fun g' e=>by have:=(HR.out g' e).2.2;omega
      clear NX c0 c1 c2 c3 c4 c5 c6 c7 c8 c9 c10 c11 c12 c13 c14 c15 c16 lt3;go_wp2_with fail;go_meet;case rel=>exact ⟨(((hT9.other zza n1 n2 hg).other zza n1 n2 hg).other zza n1 n2 hg).other zza n1 n2 hg,(((hR9.set n5).set n5).set n5).set n5,hA9.store⟩
   case rest=>
    clear hT2 hR2 hA2 n3;obtain ⟨hT,hR,hA⟩:=hcut;have BU:=rbus (M:=M) (t:=t.pins nmi) (vh:=(.slice p t.h.length c)) (TM.refl hT.c) a hax;rw [HB.out] at BU;unfold Act.val BusI.val at BU;dsimp only at BU;obtain ⟨y0,y1,y2,y3,yf,yl⟩:=hA.four;go_wp2_with fail;refine BU.mono ?_;rintro e w1 ⟨rfl,h1⟩;have hT1:=hT.via h1;have hR1:=hR.two h1.g m1 m2;clear h1 hT hR hA y0 y1 y2 y3 yf yl BU;obtain ⟨c0,c1,c2,c3,c4,c5,c6,c7,c8,c9,c10,c11,c12,c13,c14,c15,c16⟩:=hT1.c.cs;have lt3:=hT1.c.lt;go_upto_if 81 with fail;have hT2:=hT1.alloc (.cells #[Iq b.addr,Iq b.data,Tq b.wr,Tq b.ft] 53);have hR2:=hR1.alloc (.cells #[Iq b.addr,Iq b.data,Tq b.wr,Tq b.ft] 53);have hb2:=Blk.new w1 #[Iq b.addr,Iq b.data,Tq b.wr,Tq b.ft] 53;have hwB:w.heap.size<w1.heap.size:=hR1.lt;have n1:w1.heap.size≠B:=by omega
    have n2:w1.heap.size≠M:=by have:=hT1.c.ltM;omega
    have n4:w1.heap.size≠w.heap.size:=by omega
    have n5:w.heap.size≠w1.heap.size:=by omega
    clear hT1 hR1 lt3;clear c0 c1 c2 c3 c4 c5 c6 c7 c8 c9 c10 c11 c12 c13 c14 c15 c16;generalize w1.alloc (.cells #[Iq b.addr,Iq b.data,Tq b.wr,Tq b.ft] 53)=W3 at*;generalize w1.heap.size=B0 at*;go_cut [] from 14 (fun wx=>TR B M base (Value.slice p t.h.length c).ownBlock (MV M (.slice p t.h.length c) t2) t2.mem (.slice p t.h.length c) t.h w wx/\Blk wx w.heap.size #[Iq 0,Iq 0,Tq false,Tq false] 53/\Blk wx B0 #[Iq b.addr,Iq b.data,Tq b.wr,Tq b.ft] 53)
    case first=>
     obtain ⟨y0,y1,y2,y3,yf,yl⟩:=hb2.four;by_cases hn:t.h=[]
     ·have z0:t.h.length=0:=by rw [hn];rfl
      have hz:(t.h.length==0)=true:=by rw [z0];rfl
      have E2:Hid (tb.begins b.data irq=t2):=by show _=_;rw [<-H2.out,if_pos z0]
      have BG:=ziJ (M:=M) (t:=tb) (vh:=(.slice p t.h.length c)) (TM.refl hT2.c) b.data irq;rw [E2.out] at BG;clear z0;go_wp2_with fail;refine BG.mono ?_;rintro e w2 ⟨rfl,h2⟩;go_wp2_with fail;go_meet;case rel=>exact ⟨hT2.via h2,hR2.two h2.g m1 m2,hb2.two h2.g n1 n2⟩
     ·have z0:¬t.h.length=0:=fun e=>hn (List.length_eq_zero_iff.1 e)
      have hz:(t.h.length==0)=false:=by rw [beq_eq_false_iff_ne];exact z0
      have E2:Hid (tb=t2):=by show _=_;rw [<-H2.out,if_neg z0]
      obtain rfl:tb=t2:=E2.out;go_wp2_with fail;go_meet;case rel=>exact ⟨hT2,hR2,hb2⟩
    case rest=>
     clear hT2 hR2 hb2;obtain ⟨hT,hR,hb⟩:=hcut;have CO:=zgu (M:=M) (t:=t2) (vh:=(.slice p t.h.length c)) (TM.refl hT.c) b HN.out;rw [H3.out] at CO;unfold BusI.val at CO;obtain ⟨y0,y1,y2,y3,yf,yl⟩:=hb.four;go_wp2_with fail;refine CO.mono ?_;rintro e w3 ⟨rfl,h3⟩;have hT3:=hT.via h3;have hR3:=hR.two h3.g m1 m2;have hb3:=hb.two h3.g n1 n2;clear h3 hT hR hb y0 y1 y2 y3 yf yl CO;obtain ⟨c0,c1,c2,c3,c4,c5,c6,c7,c8,c9,c10,c11,c12,c13,c14,c15,c16⟩:=hT3.c.cs;have lt3:=hT3.c.lt;have hg:∀g,(Value.slice p t.h.length c).ownBlock=some g->w.heap.size≠g:=fun g e=>by have:=(HR.out g e).2.2;omega
     have hgB:∀g,(Value.slice p t.h.length c).ownBlock=some g->B0≠g:=fun g e=>by have:=(HR.out g e).2.2;omega
     cases hjm:t3.r.jam
     ·rw [hjm] at c9;go_upto_region 17 with fail;go_cut [] from 14 (fun wx=> ∃g' cap',TR B M base (Value.slice p t.h.length c).ownBlock (MV M (Sq g' (t.h.length+1) cap') t3) t3.mem (Sq g' (t.h.length+1) cap') (t.h++ [b.data]) w wx/\((Value.slice p t.h.length c).ownBlock=some g'\/w.heap.size<g')/\Blk wx w.heap.size #[Iq 0,Iq 0,Tq false,Tq false] 53/\Blk wx B0 #[Iq b.addr,Iq b.data,Tq b.wr,Tq b.ft] 53)
      case first=>
       obtain ⟨ii,hi,hi0,hi1,hi2⟩:=info_parts zge;have f16:=hT3.c.fr 16;obtain ⟨y0,y1,y2,y3,yf,yl⟩:=hb3.four;have hbw:=hT3.g.size;have hyl:w.heap.size<w3.heap.size:=hR3.lt;have HT3:Hid (TR B M base (Value.slice p t.h.length c).ownBlock (MV M (.slice p t.h.length c) t3) t3.mem (.slice p t.h.length c) t.h w w3):=hT3;clear hT3;go_region_law (first|(refine step_append_lies _ rfl (.tmp 100) (.tmp 103) 30 rfl base 3 ii _ 1 8 zdr hi hi0 hi1 hi2 rfl zzb (.slice p t.h.length c) t.h.length (t.h.map fun x=>Iq x) rfl ?_ (Aq w3.heap.size 0) 1 1 [Iq b.data] rfl rfl ?_ ?_ zzb ?_ ?_ ?_ _ rfl ?_;exact ((HT3.out.alloc _).drew).o.o;exact ye w3 _ _;exact zgf _;(unfold maxLen;omega);omega;(show base<=(w3.alloc _).heap.size;rw [World.size_alloc];omega);intro g' cap' w4 hown hgrow hat hlt;obtain ⟨hT4,hgn,hk4,hs4⟩:=TR.app HT3.out hgrow hown hat;have q16:w4.cell? (Aq B 16)=some (.slice p t.h.length c):=hT4.c.c 16 zzb;have qf:=hT4.c.fr 16;have ql:=hT4.c.lt;have HT4:Hid (TR B M base (Value.slice p t.h.length c).ownBlock (MV M (.slice p t.h.length c) t3) t3.mem (Sq g' (t.h.length+1) cap') (t.h++ [b.data]) w w4):=hT4;have HK4:Hid (∀n,n<w3.heap.size->(Value.slice p t.h.length c).ownBlock≠some n->w4.heap[n]?=w3.heap[n]?):=hk4;have HG4:Hid ((Value.slice p t.h.length c).ownBlock=some g'\/w3.heap.size<g'):=hgn;clear hown hgrow hat hlt hT4 hk4 hgn))
       all_goals
        go_wp2_with fail;go_meet;case rel=>exact ⟨g',cap',(HT4.out.set zzb).eq rfl rfl,HG4.out.imp id (fun q=>by omega),(hR3.same (HK4.out _ hyl (fun q=>hg _ q rfl))).set m1,(hb3.same (HK4.out _ yl (fun q=>hgB _ q rfl))).set n1⟩
      case rest=>
       clear hT3 hR3 hb3 lt3;clear c0 c1 c2 c3 c4 c5 c6 c7 c8 c9 c10 c11 c12 c13 c14 c15 c16;obtain ⟨g',cap',hT,hgn,hR,hb⟩:=hcut;have e1:(t.h++ [b.data]).length=t.h.length+1:=by simp
       have HD:Hid (HdAt wc g' (t.h++ [b.data])):=HV.hd (c:=cap') (by rw [e1];exact hT.o) (zgg HM.out.2.2.2.1 HM.out.2.2.2.2);have HCd:Hid (Cd t3.op t3.md):=HK.out.2.2.1 hjm;have HJ:Hid (t3.op=b3 74 77 80->(t.h++ [b.data]).length<=5):=by
        intro q;by_cases hn:t.h=[]
        ·rw [hn];simp
        ·have:=HM.out.2.2.1 ((HK.out.2.2.2 hn).symm.trans q);rw [e1];omega
       have NX:=fun w' (hw:Bq wc w')=>zkh t3.op t3.md HCd.out t3.r HK.out.2.1 g' cap' (t.h++ [b.data]) (by rw [e1];omega) (by rw [e1];omega) w' (HD.out.later hw)
       have DN:=fun (hnx:(zo t3.op t3.md t3.r (t.h++ [b.data])).2=false) w' (hw:Bq wc w')=>zlG t3.op t3.md HCd.out t3.r HK.out.2.1 g' cap' (t.h++ [b.data]) (by rw [e1];omega) (by rw [e1];omega) hnx HJ.out w' (HD.out.later hw)
       have HC2:Hid (t.cycle nmi irq=if (zo t3.op t3.md t3.r (t.h++ [b.data])).2=true then ({t3 with h:=t.h++ [b.data] },b) else ({t3 with h:=[],r:=zV t3.op t3.md t3.r (t.h++ [b.data])},b)):=by
        show _=_;rw [HC.out,if_neg (by rw [hjm];decide),HK.out.1]
       clear HC H2 H3 HA HB HN HD HCd HJ;unfold zi Act.val cdV hdV RG.val at NX;unfold cdV hdV RG.val at DN;rw [e1,hjm] at NX;rw [e1,hjm] at DN;have HE1:Hid ((t.h++ [b.data]).length=t.h.length+1):=e1;clear e1;generalize t.h++ [b.data]=h4 at*;generalize zV t3.op t3.md t3.r h4=rD at*;obtain ⟨nq,hnq⟩:∃nq,zo t3.op t3.md t3.r h4=nq:=⟨_,rfl⟩
       rw [hnq] at NX DN HC2;clear hnq;obtain ⟨⟨n_a,n_w,n_d,n_f⟩,more⟩:=nq;dsimp only at NX DN HC2;obtain ⟨c0,c1,c2,c3,c4,c5,c6,c7,c8,c9,c10,c11,c12,c13,c14,c15,c16⟩:=hT.c.cs;rw [hjm] at c9;have lt3:=hT.c.lt;have HDN:Hid (more=false->∀w',Bq wc w'->Calls prog 96 #[.agg #[Zq t3.op,Zq t3.md],.agg #[Iq t3.r.A,Iq t3.r.X,Iq t3.r.Y,Iq t3.r.S,Iq t3.r.P,Iq t3.r.PC,Iq t3.r.cyc,Tq false],Sq g' (t.h.length+1) cap'] w' fun e w''=>e=.returned (.agg #[Iq rD.A,Iq rD.X,Iq rD.Y,Iq rD.S,Iq rD.P,Iq rD.PC,Iq rD.cyc,Tq rD.jam])/\Bq w' w''):=DN;clear DN;go_upto_region 18 with fail;go_cut [13] from 14 (fun s wx=>s=Tq more/\Bq wc wx)
       case first=>
        have hX:=Blk.new wc #[Iq 0,Tq false,Iq 0,Tq false] 200;have hTa:=hT.alloc (.cells #[Iq 0,Tq false,Iq 0,Tq false] 200);have hL3:Bq wc (wc.alloc (.cells #[Iq 0,Tq false,Iq 0,Tq false] 200)):=qBa;obtain ⟨d0,d1,d2,d3,d4,d5,d6,d7,d8,d9,d10,d11,d12,d13,d14,d15,d16⟩:=hTa.c.cs;rw [hjm] at d9;have dl:=hTa.c.lt;obtain ⟨x0,x1,x2,x3,xf,xl⟩:=hX.four;have n6:wc.heap.size≠B:=by have:=hT.c.lt;omega
        have n7:B≠wc.heap.size:=by have:=hT.c.lt;omega
        go_region_held3 (fun w'=>w'.cell? (Aq B 2)=some (Iq t3.r.A)/\w'.cell? (Aq B 3)=some (Iq t3.r.X)/\w'.cell? (Aq B 4)=some (Iq t3.r.Y)/\w'.cell? (Aq B 5)=some (Iq t3.r.S)/\w'.cell? (Aq B 6)=some (Iq t3.r.P)/\w'.cell? (Aq B 7)=some (Iq t3.r.PC)/\w'.cell? (Aq B 8)=some (Iq t3.r.cyc)/\w'.cell? (Aq B 9)=some (Tq false)/\w'.cell? (Aq B 14)=some (Zq t3.op)/\w'.cell? (Aq B 15)=some (Zq t3.md)/\w'.cell? (Aq B 16)=some (Sq g' (t.h.length+1) cap')) (go_keep) (first|(go_at_call 92;(with_reducible refine (NX _ hL3.drew).mono ?_);rintro e w5 ⟨rfl,hb5⟩;obtain ⟨ca,fa,sz5,bl5⟩:=jL hb5;have k2:=(ca _ 2 dl).trans d2;have k3:=(ca _ 3 dl).trans d3;have k4:=(ca _ 4 dl).trans d4;have k5:=(ca _ 5 dl).trans d5;have k6:=(ca _ 6 dl).trans d6;have k7:=(ca _ 7 dl).trans d7;have k8:=(ca _ 8 dl).trans d8;have k9:=(ca _ 9 dl).trans d9;have k14:=(ca _ 14 dl).trans d14;have k15:=(ca _ 15 dl).trans d15;have k16:=(ca _ 16 dl).trans d16;have X0:=(ca _ 0 xl).trans x0;have X1:=(ca _ 1 xl).trans x1;have X2:=(ca _ 2 xl).trans x2;have X3:=(ca _ 3 xl).trans x3;have XF:=fun o=>(fa _ o xl).trans (xf o);have xl5:=Nat.lt_of_lt_of_le xl sz5;have HX5:Hid (Blk w5 wc.heap.size #[Iq 0,Tq false,Iq 0,Tq false] 200):=hX.below bl5;have HB5:Hid (Bq wc w5):=hL3.trans (bl5.mono hL3.size);clear hb5 ca fa bl5 sz5)|(go_at_call 92;(with_reducible refine (NX _ (Below.refl _ _).drew).mono ?_);rintro e w5 ⟨rfl,hb5⟩;obtain ⟨ca,fa,sz5,bl5⟩:=jL hb5;have k2:=(ca _ 2 lt3).trans c2;have k3:=(ca _ 3 lt3).trans c3;have k4:=(ca _ 4 lt3).trans c4;have k5:=(ca _ 5 lt3).trans c5;have k6:=(ca _ 6 lt3).trans c6;have k7:=(ca _ 7 lt3).trans c7;have k8:=(ca _ 8 lt3).trans c8;have k9:=(ca _ 9 lt3).trans c9;have k14:=(ca _ 14 lt3).trans c14;have k15:=(ca _ 15 lt3).trans c15;have k16:=(ca _ 16 lt3).trans c16;have lt5:=Nat.lt_of_lt_of_le lt3 sz5;have HB5:Hid (Bq wc w5):=bl5;clear hb5 ca fa bl5 sz5))
        all_goals
         go_wp2_with fail;go_meet;case rel=>first|exact ⟨rfl,HB5.out.alloc HB5.out.size _⟩|exact ⟨rfl,(((HB5.out.setCell (Nat.le_refl _) _).setCell (Nat.le_refl _) _).setCell (Nat.le_refl _) _).setCell (Nat.le_refl _) _⟩
       case rest=>
        clear NX lt3;clear c0 c1 c2 c3 c4 c5 c6 c7 c8 c9 c10 c11 c12 c13 c14 c15 c16;obtain ⟨rfl,hbl⟩:=hcut;have hT5:=hT.below hbl;have hR5:=hR.below hbl;have hb5:=hb.below hbl;have HD5:Hid (more=false->∀w',Bq wc w'->Calls prog 96 #[.agg #[Zq t3.op,Zq t3.md],.agg #[Iq t3.r.A,Iq t3.r.X,Iq t3.r.Y,Iq t3.r.S,Iq t3.r.P,Iq t3.r.PC,Iq t3.r.cyc,Tq false],Sq g' (t.h.length+1) cap'] w' fun e w''=>e=.returned (.agg #[Iq rD.A,Iq rD.X,Iq rD.Y,Iq rD.S,Iq rD.P,Iq rD.PC,Iq rD.cyc,Tq rD.jam])/\Bq w' w''):=fun q w' hw=>HDN.out q w' (hbl.trans (hw.mono hbl.size))
        clear HDN hT hR hb hbl;obtain ⟨c0,c1,c2,c3,c4,c5,c6,c7,c8,c9,c10,c11,c12,c13,c14,c15,c16⟩:=hT5.c.cs;rw [hjm] at c9;have lt3:=hT5.c.lt;have hg':∀g,(Sq g' (t.h.length+1) cap').ownBlock=some g->w.heap.size≠g:=fun g e=>by
         have e2:g'=g:=by simp [Value.ownBlock] at e;exact e
         subst e2;rcases hgn with q|q
         ·exact hg _ q
         ·omega
        go_upto_if 124 with fail;go_cut [] from 14 (fun wx=> ∃vf tf,TR B M base (Value.slice p t.h.length c).ownBlock (MV M vf tf) tf.mem vf tf.h w wx/\t.cycle nmi irq=(tf,b)/\(∀g,vf.ownBlock=some g->(Value.slice p t.h.length c).ownBlock=some g\/w.heap.size<g)/\Blk wx w.heap.size #[Iq 0,Iq 0,Tq false,Tq false] 53/\Blk wx B0 #[Iq b.addr,Iq b.data,Tq b.wr,Tq b.ft] 53)
        case first=>
         cases more
         ·have DN:=HD5.out rfl;have HC3:Hid (t.cycle nmi irq=({t3 with h:=[],r:=rD},b)):=HC2.out;clear HC2 HD5;go_upto_region 20 with fail;go_cut [] from 14 (fun wx=>TR B M base (Value.slice p t.h.length c).ownBlock (MV M (Sq g' (t.h.length+1) cap') {t3 with r:=rD}) t3.mem (Sq g' (t.h.length+1) cap') h4 w wx/\Blk wx w.heap.size #[Iq 0,Iq 0,Tq false,Tq false] 53/\Blk wx B0 #[Iq b.addr,Iq b.data,Tq b.wr,Tq b.ft] 53)
          case first=>
           have f5:=hT5.c.fr;have HT5:Hid (TR B M base (Value.slice p t.h.length c).ownBlock (MV M (Sq g' (t.h.length+1) cap') t3) t3.mem (Sq g' (t.h.length+1) cap') h4 w wc):=hT5;clear hT5;go_region_with (first|(go_at_call 96;(with_reducible refine (DN _ (Below.refl _ _).drew).mono ?_);rintro e w6 ⟨rfl,hb6⟩;obtain ⟨ca,fa,sz6,bl6⟩:=jL hb6;have k2:=(ca _ 2 lt3).trans c2;have k3:=(ca _ 3 lt3).trans c3;have k4:=(ca _ 4 lt3).trans c4;have k5:=(ca _ 5 lt3).trans c5;have k6:=(ca _ 6 lt3).trans c6;have k7:=(ca _ 7 lt3).trans c7;have k8:=(ca _ 8 lt3).trans c8;have k9:=(ca _ 9 lt3).trans c9;have k14:=(ca _ 14 lt3).trans c14;have k15:=(ca _ 15 lt3).trans c15;have k16:=(ca _ 16 lt3).trans c16;have kf:=fun o=>(fa _ o lt3).trans (f5 o);have lt6:=Nat.lt_of_lt_of_le lt3 sz6;have HB6:Hid (Bq wc w6):=bl6;clear hb6 ca fa bl6 sz6))
           all_goals
            go_wp2_with fail;go_meet;case rel=>
             refine ⟨?_,?_,?_⟩
             ·apply TR.eq;case x=>(repeat (first|with_reducible exact HT5.out.below HB6.out|with_reducible apply TR.drew|with_reducible apply TR.drewN|with_reducible apply TR.alloc|((with_reducible apply TR.set);(case hi=>decide))))
              case e=>rfl
              case e2=>rfl
             ·(repeat (first|with_reducible exact hR5.below HB6.out|with_reducible apply Blk.drew|with_reducible apply Blk.drewN|with_reducible apply Blk.alloc|((with_reducible apply Blk.set);(case h=>exact m1))))
             ·(repeat (first|with_reducible exact hb5.below HB6.out|with_reducible apply Blk.drew|with_reducible apply Blk.drewN|with_reducible apply Blk.alloc|((with_reducible apply Blk.set);(case h=>exact n1))))
          case rest=>
           clear hT5 hR5 hb5 lt3 DN;clear c0 c1 c2 c3 c4 c5 c6 c7 c8 c9 c10 c11 c12 c13 c14 c15 c16;obtain ⟨hT,hR,hb⟩:=hcut;have lt3:=hT.c.lt;have f16:=hT.c.fr 16;have c16:wc.cell? (Aq B 16)=some (Sq g' (t.h.length+1) cap'):=hT.c.c 16 zzb;go_wp2_with fail;go_meet;case rel=>exact ⟨Nq,{t3 with h:=[],r:=rD},((hT.set (i:=16) (u:=Nq) zzb).eq (L':=MV M (Nq) {t3 with h:=[],r:=rD}) rfl rfl).row HV.nil,HC3.out,fun g e=>by simp [Value.ownBlock] at e,hR.set m1,hb.set n1⟩
         ·have HC3:Hid (t.cycle nmi irq=({t3 with h:=h4},b)):=HC2.out;clear HC2 HD5;go_wp2_with fail;go_meet;case rel=>exact ⟨_,_,hT5,HC3.out,fun g e=>by have e2:g'=g:=(by simp [Value.ownBlock] at e;exact e);subst e2;exact hgn,hR5,hb5⟩
        case rest=>
         clear hT5 hR5 hb5 lt3 HD5 HC2;clear c0 c1 c2 c3 c4 c5 c6 c7 c8 c9 c10 c11 c12 c13 c14 c15 c16;obtain ⟨vf,tf,hT,hcy,hgf,hR3,hb3⟩:=hcut;have hgf2:∀g,vf.ownBlock=some g->w.heap.size≠g:=fun g e=>(hgf g e).elim (hg g) (fun q=>by omega)
         obtain ⟨y0,y1,y2,y3,yf,yl⟩:=hb3.four;obtain ⟨r0,r1,r2,r3,rf,rl⟩:=hR3.four;have HT:Hid (TR B M base (Value.slice p t.h.length c).ownBlock (MV M vf tf) tf.mem vf tf.h w wc):=hT;clear hT;go_upto_region 22 with fail;iterate 14 go_step
         try simp only [Exit.then]
         show bodyPost _ _ _ _ _ _;have HTe:=(((HT.out.other (u:=Iq b.addr) (o:=0) (Nat.le_refl _) m1 m2 hgf2).other (u:=Iq b.data) (o:=1) (Nat.le_refl _) m1 m2 hgf2).other (u:=Tq b.wr) (o:=2) (Nat.le_refl _) m1 m2 hgf2).other (u:=Tq b.ft) (o:=3) (Nat.le_refl _) m1 m2 hgf2;obtain ⟨q0,q1,q2,q3, -, -⟩:=(hR3.store (a':=Iq b.addr) (b':=Iq b.data) (c':=Tq b.wr) (d':=Tq b.ft)).four;refine bodyPost_ret (v:=.tuple #[BusI.val b,Tq true]) ?_ ?_ ?_
         ·simp [results,results63,go_sem,BusI.val,q0,q1,q2,q3]
         ·rfl
         refine ⟨rfl,vf,?_,?_,HTe.g,hgf⟩
         ·rw [hcy];exact HTe.c
         ·rw [hcy];exact HTe.o
     ·rw [hjm] at c9;clear c0 c1 c2 c3 c4 c5 c6 c7 c8 c10 c11 c12 c13 c14 c15 c16;have HT3:Hid (TR B M base (Value.slice p t.h.length c).ownBlock (MV M (.slice p t.h.length c) t3) t3.mem (.slice p t.h.length c) t.h w w3):=hT3;clear hT3 hg;obtain ⟨y0,y1,y2,y3,yf,yl⟩:=hb3.four;obtain ⟨r0,r1,r2,r3,rf,rl⟩:=hR3.four;go_upto_region 16 with fail;iterate 14 go_step
      simp only [Exit.then];show bodyPost _ _ _ _ _ _;have hg:∀g,(Value.slice p t.h.length c).ownBlock=some g->w.heap.size≠g:=fun g e=>by have:=(HR.out g e).2.2;omega
      have HTe:=(((HT3.out.other (u:=Iq b.addr) (o:=0) (Nat.le_refl _) m1 m2 hg).other (u:=Iq b.data) (o:=1) (Nat.le_refl _) m1 m2 hg).other (u:=Tq b.wr) (o:=2) (Nat.le_refl _) m1 m2 hg).other (u:=Tq b.ft) (o:=3) (Nat.le_refl _) m1 m2 hg;obtain ⟨q0,q1,q2,q3, -, -⟩:=(hR3.store (a':=Iq b.addr) (b':=Iq b.data) (c':=Tq b.wr) (d':=Tq b.ft)).four;have HE:Hid (t.cycle nmi irq=(t3,b)):=by show _=_;rw [HC.out,if_pos hjm]
      refine bodyPost_ret (v:=.tuple #[BusI.val b,Tq true]) ?_ ?_ ?_
      ·simp [results,results63,go_sem,BusI.val,q0,q1,q2,q3]
      ·rfl
      refine ⟨rfl,.slice p t.h.length c,?_,?_,HTe.g,fun g hg=>.inl hg⟩
      ·rw [HE.out];exact HTe.c
      ·rw [HE.out];show HV _ base B M _ t3.h;rw [HK.out.1];exact HTe.o
