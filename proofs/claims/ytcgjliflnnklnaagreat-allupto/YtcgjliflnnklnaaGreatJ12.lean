import Derived.Deep.MidRow
import Derived.Test.YtcgjliflnnklnaaGreatCpIz
namespace Go.Proofs.YtcgjliflnnklnaaGreat
open Go.RowKit Tryz
set_option maxRecDepth 100000
set_option maxHeartbeats 1000000
theorem CAt.drew{w:World}{B:Nat}{s:PC}(h:CAt w B s):CAt w.drew B s:=h.same rfl
theorem CAt.alloc{w:World}{B:Nat}{s:PC}{o:Obj}(h:CAt w B s):CAt (w.alloc o) B s:=h.same (Below.heap_alloc _ _ _ h.lt)
theorem G.drew{w0 w:World}{B:Nat}(h:w0.grownBy w (some B)):w0.grownBy w.drew (some B):=zJ h (XT _ _)
theorem G.alloc{w0 w:World}{B:Nat}{o:Obj}(h:w0.grownBy w (some B)):w0.grownBy (w.alloc o) (some B):=zJ h (Yx _ _ _)
theorem G.set{w0 w:World}{B o:Nat}{v:Value}(h:w0.grownBy w (some B)):w0.grownBy (w.setCell (Aq B o) v) (some B):=zJ h (yE _ _ _ _)
theorem G.thru{w0 W w1:World}{B:Nat}{s1:PC}(h1:Tn B s1 W w1)(h:w0.grownBy W (some B)):w0.grownBy w1 (some B):=zJ h h1.g
theorem CAt.other{w:World}{B b o:Nat}{v:Value}{s:PC}(h:CAt w B s)(hne:b≠B):CAt (w.setCell (Aq b o) v) B s:=h.same (Below.heap_setCell _ _ _ _ (fun e=>hne e.symm))
theorem G.other{w0 w:World}{B b o:Nat}{v:Value}(h:w0.grownBy w (some B))(hb:w0.heap.size<=b):w0.grownBy (w.setCell (Aq b o) v) (some B):=
 ⟨h.os,h.tape,h.output,by simpa using h.size,fun k hk hne=>(Below.heap_setCell _ _ _ _ (fun e=>by simp at e;omega)).trans (h.block k hk hne)⟩
theorem kept{B:Nat}{s1:PC}{W w1:World}(h1:Tn B s1 W w1):(∀b o,b≠B->b<W.heap.size->w1.cell? (Aq b o)=W.cell? (Aq b o))/\(∀b o,b≠B->b<W.heap.size->w1.frozen? (Aq b o)=W.frozen? (Aq b o)):=
 ⟨fun b o hne hb=>World.cell?_of_block (a:=(Aq b o)) (h1.g.block b hb (fun q=>hne (by injection q))),fun b o hne hb=>World.frozen?_of_block (a:=(Aq b o)) (h1.g.block b hb (fun q=>hne (by injection q)))⟩
theorem zfE(w:World)(a b c d:Value)(t:TypeId):(w.alloc (.cells #[a,b,c,d] t)).heap[w.heap.size]?=some (.cells #[a,b,c,d] t (0,0)):=heap_alloc_new w _
theorem zcW{w:World}{R:Nat}{a b c d:Value}{t:TypeId}(hR:w.heap.size=R):(w.alloc (.cells #[a,b,c,d] t)).heap[R]?=some (.cells #[a,b,c,d] t (0,0)):=hR ▸ zfE w a b c d t
theorem zaI{w:World}{R:Nat}{o p:Obj}(h:w.heap[R]?=some o):(w.alloc p).heap[R]?=some o:=by
 have hl:R<w.heap.size:=by
  by_cases e:R<w.heap.size
  ·exact e
  ·rw [Array.getElem?_eq_none zza] at h;cases h
 rw [Below.heap_alloc _ _ _ hl];exact h
theorem GC{w:World}{R b o:Nat}{v:Value}{p:Obj}(h:w.heap[R]?=some p)(hne:b≠R):(w.setCell (Aq b o) v).heap[R]?=some p:=by
 rw [Below.heap_setCell _ _ _ _ (fun e=>hne e.symm)];exact h
theorem zcX{B:Nat}{s1:PC}{W w1:World}{R:Nat}{p:Obj}(h1:Tn B s1 W w1)(hne:R≠B)(h:W.heap[R]?=some p):w1.heap[R]?=some p:=by
 have hl:R<W.heap.size:=by
  by_cases e:R<W.heap.size
  ·exact e
  ·rw [Array.getElem?_eq_none zza] at h;cases h
 rw [h1.g.block R hl (fun q=>hne (by injection q))];exact h
theorem zlA{w:World}{R:Nat}{a b c d:Value}{t:TypeId}(h:w.heap[R]?=some (.cells #[a,b,c,d] t (0,0))):(w.cell? (Aq R 0)=some a/\w.cell? (Aq R 1)=some b/\w.cell? (Aq R 2)=some c/\w.cell? (Aq R 3)=some d)/\(∀o,w.frozen? (Aq R o)=false):=by
 refine ⟨⟨?_,?_,?_,?_⟩,?_⟩
 ·rw [cell_of_row _ _ _ _ _ _ h];rfl
 ·rw [cell_of_row _ _ _ _ _ _ h];rfl
 ·rw [cell_of_row _ _ _ _ _ _ h];rfl
 ·rw [cell_of_row _ _ _ _ _ _ h];rfl
 ·intro o;unfold World.frozen?;rw [h];simp
theorem UU{B:Nat}{s:PC}{w0 w:World}(h:Tn B s w0 w)(a:Int)(h1:0<=a)(h2:a<65536):Cq 49 #[Pq B,.int .u16 a] w (Uq (s.look a)) fun w'=>w'=w:=by
 by_cases e1:a=53248
 ·subst e1;have c_cnt:=h.c.ccnt;obtain ⟨l_cnt,u_cnt⟩:=h.c.rcnt;go_enter func49,ntmps49;go_wp2;go_ret;exact ⟨Zp (by simp [PC.look]),rfl⟩
 ·by_cases e2:a=53249
  ·subst e2;have c1:=h.c.ccalls;cases hc:s.calls
   all_goals
    rw [hc] at c1;go_enter func49,ntmps49;go_wp2;go_ret;exact ⟨Zp (by simp [PC.look,hc]),rfl⟩
  ·obtain ⟨n,rfl⟩:=Int.eq_ofNat_of_zero_le h1;have q1:((n:Int)==53248)=false:=by rw [beq_eq_false_iff_ne];exact e1
   have q2:((n:Int)==53249)=false:=by rw [beq_eq_false_iff_ne];exact e2
   have hm:=h.c.mem n zza;have hr:Hid (s.look n=s.mem n):=by show _=_;rw [PC.look,if_neg e1,if_neg e2,Int.toNat_natCast]
   clear e1 e2;go_enter func49,ntmps49;go_wp2;go_ret;exact ⟨Zp hr.out.symm,rfl⟩
theorem Y2{B:Nat}{s:PC}{w:World}(h:CAt w B s)(a:Int)(h2:a<65536):0<=s.look a/\s.look a<256:=by
 unfold PC.look;split
 ·exact h.rcnt
 ·split
  ·split<;>decide
  ·exact h.rmem _ zza
theorem znz{p:Prop} (q:p:=by
 clear q2 e2 e0;go_enter func55,ntmps55;go_wp2;go_end0;refine ⟨rfl,?_⟩;apply Tn.eq
 ·repeat (first|with_reducible exact h|with_reducible apply Tn.drew|with_reducible apply Tn.alloc|(with_reducible apply Tn.setCnt;case hv=>(first|assumption|exact ⟨by assumption,by assumption⟩|exact XG _|exact vC _|omega|exact vo _ _ _|exact YW _ _|exact vq _ _ _|exact vG _|(unfold loI;omega)|(unfold zn;omega)|(unfold zn loI;omega)|(unfold zC zn loI hiI;omega)))|with_reducible apply Tn.setCalls)
 ·exact H.out.symm):p:=q
theorem GD{B:Nat}{s:PC}{w0 w:World}(h:Tn B s w0 w):Cq 55 #[.pointer (some (Aq B 65537))] w (.tuple #[]) fun w'=>Tn B s.tick w0 w':=by
 have c_cnt:=h.c.ccnt;obtain ⟨l_cnt,u_cnt⟩:=h.c.rcnt;have c_calls:=h.c.ccalls;have f_cnt:=h.c.free 65537;have f_calls:=h.c.free 65538;by_cases e0:s.cnt=0
 ·have e1:(s.cnt==0)=true:=by rw [e0];rfl
  go_enter func55,ntmps55;go_wp2;exact bodyPost_ret (v:=.tuple #[]) (by simp [results,results55,go_sem]) rfl ⟨rfl,h.eq (by unfold PC.tick;rw [if_pos e0])⟩
 ·have e1:(s.cnt==0)=false:=by rw [beq_eq_false_iff_ne];exact e0
  have q:IntKind.u8.wrap (s.cnt-1)=s.cnt-1:=by rw [IntKind.wrap_u8'];omega
  have q2:(s.cnt-1)%256=s.cnt-1:=by omega
  have l0:1<=s.cnt:=by omega
  by_cases e2:s.cnt-1=0
  ·have e3:(s.cnt-1==0)=true:=by rw [e2];rfl
   have H:Hid (s.tick={s with cnt:=s.cnt-1,calls:=true}):=by show _=_;unfold PC.tick;rw [if_neg e0,q2,if_pos e2]
   exact znz
  ·have e3:(s.cnt-1==0)=false:=by rw [beq_eq_false_iff_ne];exact e2
   have H:Hid (s.tick={s with cnt:=s.cnt-1}):=by show _=_;unfold PC.tick;rw [if_neg e0,q2,if_neg e2]
   exact znz
theorem zmb{p:Prop} (q:p:=by
 repeat (first|with_reducible exact h|with_reducible apply Tn.drew|with_reducible apply Tn.alloc|with_reducible apply Tn.setCalls)):p:=q
theorem YC{B:Nat}{s:PC}{w0 w:World}(h:Tn B s w0 w)(a:Int)(h1:0<=a)(h2:a<65536):Calls prog 103 #[Pq B,.int .u16 a] w fun e w'=>e=.returned (s.read a).2.val/\Tn B (s.read a).1 w0 w':=by
 have c_calls:=h.c.ccalls;have f_calls:=h.c.free 65538;obtain ⟨l1,l2⟩:=Y2 h.c a h2;have hlt:=h.c.lt;by_cases e1:a=53249
 ·subst e1;go_enter func103,ntmps103;go_wp2_with (first|(go_at_call 49;refine (UU (h.alloc _) _ zza zza).mono ?_;rintro e w' ⟨rfl,rfl⟩));refine bodyPost_ret (v:=BusI.val ⟨53249,s.look 53249,false,false⟩) (by simp [results,results103,go_sem,BusI.val]) rfl ⟨rfl,?_⟩;apply Tn.eq
  ·exact zmb
  ·rfl
 ·have q2:(a==53249)=false:=by rw [beq_eq_false_iff_ne];exact e1
  go_enter func103,ntmps103;go_wp2_with (first|(go_at_call 49;refine (UU (h.alloc _) _ zza zza).mono ?_;rintro e w' ⟨rfl,rfl⟩));refine bodyPost_ret (v:=BusI.val ⟨a,s.look a,false,false⟩) (by simp [results,results103,go_sem,BusI.val]) rfl ⟨rfl,?_⟩;apply Tn.eq
  ·exact zmb
  ·simp only [PC.read,PC.read1];rw [if_neg e1]
theorem znS{p:Prop} (q:p:=by
 repeat (first|with_reducible exact h|with_reducible apply Tn.drew|with_reducible apply Tn.alloc|(with_reducible apply Tn.setCnt;case hv=>(first|assumption|exact ⟨by assumption,by assumption⟩|exact XG _|exact vC _|omega|exact vo _ _ _|exact YW _ _|exact vq _ _ _|exact vG _|(unfold loI;omega)|(unfold zn;omega)|(unfold zn loI;omega)|(unfold zC zn loI hiI;omega))))):p:=q
theorem QV{B:Nat}{s:PC}{w0 w:World}(h:Tn B s w0 w)(a d:Int)(h1:0<=a)(h2:a<65536)(d1:0<=d)(d2:d<256):Calls prog 109 #[Pq B,.int .u16 a,Uq d] w fun e w'=>e=.returned (s.write a d).2.val/\Tn B (s.write a d).1 w0 w':=by
 have c_rom:=h.c.crom;obtain ⟨l_rom,u_rom⟩:=h.c.rrom;have c_cnt:=h.c.ccnt;obtain ⟨l_cnt,u_cnt⟩:=h.c.rcnt;have hlt:=h.c.lt;by_cases e1:a=53248
 ·subst e1;have f_cnt:=h.c.free 65537;go_enter func109,ntmps109;go_wp2;refine bodyPost_ret (v:=BusI.val ⟨53248,d,true,false⟩) (by simp [results,results109,go_sem,BusI.val]) rfl ⟨rfl,?_⟩;apply Tn.eq
  ·exact znS
  ·rfl
 ·have q1:(a==53248)=false:=by rw [beq_eq_false_iff_ne];exact e1
  by_cases e2:a=53249
  ·subst e2;go_enter func109,ntmps109;go_wp2;refine bodyPost_ret (v:=BusI.val ⟨53249,d,true,false⟩) (by simp [results,results109,go_sem,BusI.val]) rfl ⟨rfl,?_⟩;apply Tn.eq
   ·exact znS
   ·rfl
  ·have q2:(a !=53249)=true:=by rw [bne_iff_ne];exact e2
   by_cases e3:a<s.rom
   ·obtain ⟨n,rfl⟩:=Int.eq_ofNat_of_zero_le h1;have hm:=h.c.mem n zza;have hf:=h.c.free n;have H:Hid ((s.write n d).1={s with mem:=vH s.mem n d}):=by show _=_;simp only [PC.write,PC.write1];rw [if_neg e1,if_pos ⟨e2,e3⟩,Int.toNat_natCast]
    clear e1 e2;go_enter func109,ntmps109;go_wp2;refine bodyPost_ret (v:=BusI.val ⟨n,d,true,false⟩) (by simp [results,results109,go_sem,BusI.val]) rfl ⟨rfl,?_⟩;exact ((h.setMem n d zza ⟨d1,d2⟩).alloc _).eq H.out.symm
   ·have H:Hid ((s.write a d).1=s):=by show _=_;simp only [PC.write,PC.write1];rw [if_neg e1,if_neg (fun q=>e3 q.2)]
    have e4:s.rom<=a:=by omega
    clear e1 e2;go_enter func109,ntmps109;go_wp2;refine bodyPost_ret (v:=BusI.val ⟨a,d,true,false⟩) (by simp [results,results109,go_sem,BusI.val]) rfl ⟨rfl,?_⟩;apply Tn.eq
    ·exact znS
    ·exact H.out.symm
theorem jx{B:Nat}{s:PC}{w0 w:World}(h:Tn B s w0 w):Cq 168 #[Pq B] w (.tuple #[]) fun w'=>Tn B s.finish w0 w':=by
 have c_a:=h.c.ca;obtain ⟨l_a,u_a⟩:=h.c.ra;have c_x:=h.c.cx;obtain ⟨l_x,u_x⟩:=h.c.rx;have c_y:=h.c.cy;obtain ⟨l_y,u_y⟩:=h.c.ry;have c_s:=h.c.cs;obtain ⟨l_s,u_s⟩:=h.c.rs;have c_p:=h.c.cp;obtain ⟨l_p,u_p⟩:=h.c.rp;have c_pc:=h.c.cpc;obtain ⟨l_pc,u_pc⟩:=h.c.rpc;have c_ba:=h.c.cba;obtain ⟨l_ba,u_ba⟩:=h.c.rba;have c_bx:=h.c.cbx;obtain ⟨l_bx,u_bx⟩:=h.c.rbx;have c_b_y:=h.c.cb_y;obtain ⟨l_b_y,u_b_y⟩:=h.c.rb_y;have c_bs:=h.c.cbs;obtain ⟨l_bs,u_bs⟩:=h.c.rbs;have c_bp:=h.c.cbp;obtain ⟨l_bp,u_bp⟩:=h.c.rbp;have c_bpc:=h.c.cbpc;obtain ⟨l_bpc,u_bpc⟩:=h.c.rbpc;have c_st:=h.c.cst;obtain ⟨l_st,u_st⟩:=h.c.rst;have f_ba:=h.c.free 65545;have f_bx:=h.c.free 65546;have f_b_y:=h.c.free 65547;have f_bs:=h.c.free 65548;have f_bp:=h.c.free 65549;have f_bpc:=h.c.free 65550;have f_st:=h.c.free 65551;go_enter func168,ntmps168;go_wp2;go_end0;refine ⟨rfl,?_⟩;apply Tn.eq
 ·repeat (first|with_reducible exact h|with_reducible apply Tn.drew|with_reducible apply Tn.alloc|(with_reducible apply Tn.setBa;case hv=>(first|assumption|exact ⟨by assumption,by assumption⟩|exact XG _|exact vC _|omega|exact vo _ _ _|exact YW _ _|exact vq _ _ _|exact vG _|(unfold loI;omega)|(unfold zn;omega)|(unfold zn loI;omega)|(unfold zC zn loI hiI;omega)))|(with_reducible apply Tn.setBx;case hv=>(first|assumption|exact ⟨by assumption,by assumption⟩|exact XG _|exact vC _|omega|exact vo _ _ _|exact YW _ _|exact vq _ _ _|exact vG _|(unfold loI;omega)|(unfold zn;omega)|(unfold zn loI;omega)|(unfold zC zn loI hiI;omega)))|(with_reducible apply Tn.setB_y;case hv=>(first|assumption|exact ⟨by assumption,by assumption⟩|exact XG _|exact vC _|omega|exact vo _ _ _|exact YW _ _|exact vq _ _ _|exact vG _|(unfold loI;omega)|(unfold zn;omega)|(unfold zn loI;omega)|(unfold zC zn loI hiI;omega)))|(with_reducible apply Tn.setBs;case hv=>(first|assumption|exact ⟨by assumption,by assumption⟩|exact XG _|exact vC _|omega|exact vo _ _ _|exact YW _ _|exact vq _ _ _|exact vG _|(unfold loI;omega)|(unfold zn;omega)|(unfold zn loI;omega)|(unfold zC zn loI hiI;omega)))|(with_reducible apply Tn.setBp;case hv=>(first|assumption|exact ⟨by assumption,by assumption⟩|exact XG _|exact vC _|omega|exact vo _ _ _|exact YW _ _|exact vq _ _ _|exact vG _|(unfold loI;omega)|(unfold zn;omega)|(unfold zn loI;omega)|(unfold zC zn loI hiI;omega)))|(with_reducible apply Tn.setBpc;case hv=>(first|assumption|exact ⟨by assumption,by assumption⟩|exact XG _|exact vC _|omega|exact vo _ _ _|exact YW _ _|exact vq _ _ _|exact vG _|(unfold loI;omega)|(unfold zn;omega)|(unfold zn loI;omega)|(unfold zC zn loI hiI;omega)))|(with_reducible apply Tn.setSt;case hv=>(first|assumption|exact ⟨by assumption,by assumption⟩|exact XG _|exact vC _|omega|exact vo _ _ _|exact YW _ _|exact vq _ _ _|exact vG _|(unfold loI;omega)|(unfold zn;omega)|(unfold zn loI;omega)|(unfold zC zn loI hiI;omega))))
 ·rfl
theorem Jd(a d:Int)(x y:Bool):Value.agg #[Iq a,Iq d,Tq x,Tq y]=BusI.val ⟨a,d,x,y⟩:=rfl
theorem YD{B:Nat}{s:PC}{w0 w:World}(h:Tn B s w0 w)(b:BusI):Cq 110 #[Pq B,b.val] w b.val fun w'=>Tn B (yg (s,b)).1 w0 w':=by
 have c_data:=h.c.cdata;obtain ⟨l_data,u_data⟩:=h.c.rdata;have f_data:=h.c.free 65557;have hlt:=h.c.lt;obtain ⟨ba,bd,bw,bf⟩:=b;rw [<-Jd];go_enter func110,ntmps110;go_wp2;refine bodyPost_ret (v:=.agg #[Iq ba,Iq bd,Tq bw,Tq bf]) (by simp [results,results110,go_sem]) rfl ⟨rfl,?_⟩;apply Tn.eq
 ·repeat (first|with_reducible exact h|with_reducible apply Tn.drew|with_reducible apply Tn.alloc|(with_reducible apply Tn.setData;case hv=>(first|assumption|exact ⟨by assumption,by assumption⟩|exact XG _|exact vC _|omega|exact vo _ _ _|exact YW _ _|exact vq _ _ _|exact vG _|(unfold loI;omega)|(unfold zn;omega)|(unfold zn loI;omega)|(unfold zC zn loI hiI;omega))))
 ·rfl
structure Ck (w0:World) (B R:Nat) (s:PC) (W:World):Prop where
 c:CAt W B s
 g:w0.grownBy W (some B)
 r:W.heap[R]?=some (.cells #[Iq 0,Iq 0,Tq false,Tq false] 53 (0,0))
 ne:R≠B
 le:w0.heap.size<=R
theorem Tn.other{w0 w:World}{B b o:Nat}{v:Value}{s:PC}(h:Tn B s w0 w)(hne:b≠B)(hb:w0.heap.size<=b):Tn B s w0 (w.setCell (Aq b o) v):=⟨h.c.other hne,G.other h.g hb⟩
theorem Ck.t{w0 W:World}{B R:Nat}{s:PC}(k:Ck w0 B R s W):Tn B s w0 W:=⟨k.c,k.g⟩
theorem Ck.lt{w0 W:World}{B R:Nat}{s:PC}(k:Ck w0 B R s W):R<W.heap.size:=by
 by_cases e:R<W.heap.size
 ·exact e
 ·have h:=k.r;rw [Array.getElem?_eq_none zza] at h;cases h
theorem Ck.mk'{w0 w:World}{B R:Nat}{s:PC}(h:Tn B s w0 w)(hR:w.heap.size=R):Ck w0 B R s (w.alloc (.cells #[Iq 0,Iq 0,Tq false,Tq false] 53)):=
 ⟨h.c.alloc,G.alloc h.g,zcW hR,by have:=h.c.lt;omega,by have:=h.g.size;omega⟩
theorem Ck.drew{w0 W:World}{B R:Nat}{s:PC}(k:Ck w0 B R s W):Ck w0 B R s W.drew:=⟨k.c.drew,G.drew k.g,k.r,k.ne,k.le⟩
theorem Ck.alloc{w0 W:World}{B R:Nat}{s:PC}{o:Obj}(k:Ck w0 B R s W):Ck w0 B R s (W.alloc o):=⟨k.c.alloc,G.alloc k.g,zaI k.r,k.ne,k.le⟩
theorem Ck.other{w0 W:World}{B R b o:Nat}{v:Value}{s:PC}(k:Ck w0 B R s W)(hne:b≠B)(hnr:b≠R)(hb:w0.heap.size<=b):Ck w0 B R s (W.setCell (Aq b o) v):=
 ⟨k.c.other hne,G.other k.g hb,GC k.r hnr,k.ne,k.le⟩
theorem Ck.upd{B R o:Nat}{s s':PC}{w0 w:World}{v:Value}(h:Ck w0 B R s w)(f:CAt w B s->CAt (w.setCell (Aq B o) v) B s'):Ck w0 B R s' (w.setCell (Aq B o) v):=⟨f h.c,G.set h.g,GC h.r (fun e=>h.ne e.symm),h.ne,h.le⟩
theorem Ck.facts{w0 W:World}{B R:Nat}{s:PC}(k:Ck w0 B R s W):(W.cell? (Aq R 0)=some (Iq 0)/\W.cell? (Aq R 1)=some (Iq 0)/\W.cell? (Aq R 2)=some (Tq false)/\W.cell? (Aq R 3)=some (Tq false))/\(∀o,W.frozen? (Aq R o)=false)/\
  R<W.heap.size/\W.heap.size≠B/\W.heap.size+1≠B/\B≠W.heap.size/\B≠W.heap.size+1/\(∀o,W.frozen? (Aq B o)=false)/\B<W.heap.size/\W.heap.size≠R/\R≠W.heap.size:=by
 obtain ⟨h1,h2⟩:=zlA k.r;have:=k.c.lt;have:=k.lt;exact ⟨h1,h2,k.lt,by omega,by omega,by omega,by omega,k.c.free,k.c.lt,by omega,by omega⟩
theorem Ck.thru{w0 W w1:World}{B R:Nat}{s s':PC}(k:Ck w0 B R s W)(h:Tn B s' W w1):Ck w0 B R s' w1:=⟨h.c,zJ k.g h.g,zcX h k.ne k.r,k.ne,k.le⟩
theorem Ck.call{P:Program}{f:FuncId}{args:Array Value}{w0 W:World}{B R:Nat}{s s':PC}{V:Value}(k:Ck w0 B R s W)
  (hc:∀ {a b:World},Tn B s a b->Calls P f args b (fun e w'=>e=.returned V/\Tn B s' a w')):
  Calls P f args W (fun e w'=>e=.returned V/\Ck w0 B R s' w'/\(∀b o,b≠B->b<W.heap.size->w'.cell? (Aq b o)=W.cell? (Aq b o))/\(∀b o,b≠B->b<W.heap.size->w'.frozen? (Aq b o)=W.frozen? (Aq b o))/\W.heap.size<=w'.heap.size):=
 (hc (Tn.refl k.c)).mono fun _ _ h=>⟨h.1,k.thru h.2,(kept h.2).1,(kept h.2).2,h.2.g.size⟩
theorem Ck.same{P:Program}{f:FuncId}{args:Array Value}{w0 W:World}{B R:Nat}{s:PC}{V:Value}(k:Ck w0 B R s W)
  (hc:∀ {a b:World},Tn B s a b->Calls P f args b (fun e w'=>e=.returned V/\w'=b)):Calls P f args W (fun e w'=>e=.returned V/\w'=W):=hc (Tn.refl k.c)
theorem Tn.pre{B:Nat}{s:PC}{w0 w:World}(h:Tn B s w0 w):B<w.heap.size/\w0.heap.size<=w.heap.size/\w.heap.size≠B/\B≠w.heap.size/\(∀o,w.frozen? (Aq B o)=false)/\w.heap.size+1≠B/\B≠w.heap.size+1:=
 ⟨h.c.lt,h.g.size,by have:=h.c.lt;omega,by have:=h.c.lt;omega,h.c.free,by have:=h.c.lt;omega,by have:=h.c.lt;omega⟩
theorem Ck.gq{P:Program}{f:FuncId}{args:Array Value}{W:World}{B:Nat}{s s':PC}{V:Value}{Q:Ending->World->Prop}(w0:World)(R:Nat)(k:Ck w0 B R s W)
  (hc:∀ {a b:World},Tn B s a b->Calls P f args b (fun e w'=>e=.returned V/\Tn B s' a w'))
  (K:∀W',Ck w0 B R s' W'->(∀b o,b≠B->b<W.heap.size->W'.cell? (Aq b o)=W.cell? (Aq b o))->(∀b o,b≠B->b<W.heap.size->W'.frozen? (Aq b o)=W.frozen? (Aq b o))->W.heap.size<=W'.heap.size->W'.cell? (Aq R 0)=some (Iq 0)->W'.cell? (Aq R 1)=some (Iq 0)->W'.cell? (Aq R 2)=some (Tq false)->W'.cell? (Aq R 3)=some (Tq false)->(∀o,W'.frozen? (Aq R o)=false)->R<W'.heap.size->W'.heap.size≠B->W'.heap.size+1≠B->B≠W'.heap.size->B≠W'.heap.size+1->(∀o,W'.frozen? (Aq B o)=false)->B<W'.heap.size->W'.heap.size≠R->R≠W'.heap.size->Q (.returned V) W'):Calls P f args W Q:=
 (Ck.call k hc).mono fun e W' ⟨he,k',q1,q2,zz⟩=>by
  subst he;obtain ⟨⟨r0,r1,r2,r3⟩,r4,z0,n1,n2,m1,m2,fz,b1,nr,mr⟩:=k'.facts;exact K W' k' q1 q2 zz r0 r1 r2 r3 r4 z0 n1 n2 m1 m2 fz b1 nr mr
theorem Ck.go{P:Program}{f:FuncId}{args:Array Value}{W:World}{B:Nat}{s s':PC}{V:Value}{Q:Ending->World->Prop}(w0:World)(R:Nat)(k:Ck w0 B R s W)
  (hc:∀ {a b:World},Tn B s a b->Calls P f args b (fun e w'=>e=.returned V/\Tn B s' a w'))
  (K:∀W',Ck w0 B R s' W'->W'.cell? (Aq R 0)=some (Iq 0)->W'.cell? (Aq R 1)=some (Iq 0)->W'.cell? (Aq R 2)=some (Tq false)->W'.cell? (Aq R 3)=some (Tq false)->(∀o,W'.frozen? (Aq R o)=false)->R<W'.heap.size->W'.heap.size≠B->W'.heap.size+1≠B->B≠W'.heap.size->B≠W'.heap.size+1->(∀o,W'.frozen? (Aq B o)=false)->B<W'.heap.size->W'.heap.size≠R->R≠W'.heap.size->Q (.returned V) W'):Calls P f args W Q:=Ck.gq w0 R k hc fun W' k' _ _ _=>K W' k'
theorem nq5{p:Prop}(q:p:=by first|assumption|omega|exact (zjX _).1|exact (zjX _).2|exact (vC _).1|exact (vC _).2|(unfold PC.stackTop zn;omega)|(unfold zC zn loI hiI;omega)|(unfold zn loI hiI;omega)|(unfold loI;omega)|(unfold hiI;omega)):p:=q
theorem nb{p:Prop}(q:p:=by first|assumption|omega|exact (vo _ _ _).1|exact (vo _ _ _).2):p:=q
theorem zk{p:Prop}(q:p:=by repeat (first|with_reducible exact k|with_reducible apply Ck.drew|((with_reducible apply Ck.mk');(case hR=>(simp;done));(case h=>exact zt))|with_reducible apply Ck.alloc|with_reducible apply Ck.upd|((with_reducible apply Ck.other);(case hne=>omega);(case hnr=>omega);(case hb=>omega))|exact zs)):p:=q
theorem brq{p:Prop}(q:p:=by simp [results,go_sem,BusI.val, *]<;>(repeat' (first|rfl|constructor))):p:=q
theorem tq3{p:Prop}(q:p:=by apply Tn.eq;(case h=>repeat (first|with_reducible exact K9.k.t|with_reducible apply Tn.drew|with_reducible apply Tn.drewN|with_reducible apply Tn.alloc|((with_reducible apply Tn.other);(case hne=>omega);(case hb=>omega))));(case e=>rfl)):p:=q
abbrev RM(f:FuncId)(x:List Value)(B:Nat)(w0 w:World)(y:PC × BusI):Prop:=Calls prog f (Pq B::x).toArray w fun e w'=>e=.returned y.2.val/\Tn B y.1 w0 w'
theorem RM.of{f:FuncId}{x:List Value}{B:Nat}{w0 w:World}{y:PC × BusI}(H:∀z,y=z->RM f x B w0 w z):RM f x B w0 w y:=H _ rfl
theorem zN{p:Prop} (q:p:=by
 obtain ⟨hlt,hsz,n0,m0,fz0,n01,m01⟩:=h.pre;have c_step:=h.c.cstep;obtain ⟨l_step,u_step⟩:=h.c.rstep;refine RM.of fun y hy=>?_
 unfold RM;try dsimp only at hy
 repeat' split at hy
 all_goals (try (rename s.step=_=>hk;rw [hk] at c_step))
 all_goals (repeat (rename ¬s.step=_=>hk;have:=beq_false_of_ne hk;clear hk))
 all_goals (subst hy;go_enter hf,hn;clear hf hn)
 iterate 3
  all_goals (try go_wp2_with (first|((first|(go_at_call 169;refine Ck.gq w0 w.heap.size zk (fun h=>qS h) ?_)|(go_at_call 103;refine Ck.gq w0 w.heap.size zk (fun h=>YC h _ nq5 nq5) ?_)|(go_at_call 109;refine Ck.gq w0 w.heap.size zk (fun h=>QV h _ _ nq5 nq5 nq5 nq5) ?_)|(go_at_call 170;refine Ck.gq w0 w.heap.size zk (fun h=>Xx h ⟨_,_,_,_⟩) ?_)|(go_at_call 172;refine Ck.gq w0 w.heap.size zk (fun h=>qT h ⟨_,_,_,_⟩) ?_)|(go_at_call 174;refine Ck.gq w0 w.heap.size zk (fun h=>Xy h ⟨_,_,_,_⟩) ?_)|(go_at_call 110;refine Ck.gq w0 w.heap.size zk (fun h=>YD h ⟨_,_,_,_⟩) ?_)|(go_at_call 180;refine Ck.gq w0 w.heap.size zk (fun h=>Xp h ⟨_,_,_,_⟩) ?_)|(go_at_call 183;refine Ck.gq w0 w.heap.size zk (fun h=>Vg h) ?_)|(go_at_call 108;refine Ck.gq w0 w.heap.size zk (fun h=>vY h) ?_)|(go_at_call 167;refine Ck.gq w0 w.heap.size zk (fun h=>jD h) ?_)|(go_at_call 168;refine Ck.gq w0 w.heap.size zk (fun h=>jx h) ?_)|(go_at_call 80;refine Ck.gq w0 w.heap.size zk (fun h=>js h) ?_)|(go_at_call 81;refine Ck.gq w0 w.heap.size zk (fun h=>vS h) ?_)|(go_at_call 82;refine Ck.gq w0 w.heap.size zk (fun h=>jr h) ?_)|(go_at_call 182;refine Ck.gq w0 w.heap.size zk (fun h=>Vf h _ nq5 nq5) ?_)|(go_at_call 176;refine Ck.gq w0 w.heap.size zk (fun h=>Xl h _ nq5 nq5) ?_)|(go_at_call 171;refine Ck.gq w0 w.heap.size zk (fun h=>Ze h _ nq5 nq5) ?_)|(go_at_call 173;refine Ck.gq w0 w.heap.size zk (fun h=>Zf h _ nq5 nq5) ?_)|(go_at_call 184;refine Ck.gq w0 w.heap.size zk (fun h=>QX h _ _ nq5 nq5 nb nb) ?_));intro w1 k q1 q2 zz;intros;(try simp at zz);(try replace zz:=Nat.lt_of_succ_le zz);(try have zl:w.heap.size+1<w1.heap.size:=zza);(try have zm:w.heap.size<w1.heap.size:=zza);(try obtain ⟨_,_,_⟩:=hK.out _ _ _ k.c);(try obtain ⟨_,_,_⟩:=hL.out _ _ _ k.c);(try simp only [BusI.val]))|(go_at_call 181;refine (Ck.same (w0:=w0) (R:=w.heap.size) zk (fun h=>YI h)).mono ?_;rintro e w' ⟨rfl,rfl⟩)|(go_at_call 107;refine (Gi _ _).mono ?_;rintro e w' ⟨rfl,rfl⟩)|(go_at_call 175;refine (VX _ _ _ nq5 nq5).mono ?_;rintro e w' ⟨rfl,rfl⟩)|(go_at_call 177;refine (vF _ _ nq5 nq5).mono ?_;rintro e w' ⟨rfl,rfl⟩)|(go_at_call 179;refine (vE _ _).mono ?_;rintro e w' ⟨rfl,rfl⟩)))
  all_goals (try go_region_with (first|((first|(go_at_call 169;refine Ck.gq w0 w.heap.size zk (fun h=>qS h) ?_)|(go_at_call 103;refine Ck.gq w0 w.heap.size zk (fun h=>YC h _ nq5 nq5) ?_)|(go_at_call 109;refine Ck.gq w0 w.heap.size zk (fun h=>QV h _ _ nq5 nq5 nq5 nq5) ?_)|(go_at_call 170;refine Ck.gq w0 w.heap.size zk (fun h=>Xx h ⟨_,_,_,_⟩) ?_)|(go_at_call 172;refine Ck.gq w0 w.heap.size zk (fun h=>qT h ⟨_,_,_,_⟩) ?_)|(go_at_call 174;refine Ck.gq w0 w.heap.size zk (fun h=>Xy h ⟨_,_,_,_⟩) ?_)|(go_at_call 110;refine Ck.gq w0 w.heap.size zk (fun h=>YD h ⟨_,_,_,_⟩) ?_)|(go_at_call 180;refine Ck.gq w0 w.heap.size zk (fun h=>Xp h ⟨_,_,_,_⟩) ?_)|(go_at_call 183;refine Ck.gq w0 w.heap.size zk (fun h=>Vg h) ?_)|(go_at_call 108;refine Ck.gq w0 w.heap.size zk (fun h=>vY h) ?_)|(go_at_call 167;refine Ck.gq w0 w.heap.size zk (fun h=>jD h) ?_)|(go_at_call 168;refine Ck.gq w0 w.heap.size zk (fun h=>jx h) ?_)|(go_at_call 80;refine Ck.gq w0 w.heap.size zk (fun h=>js h) ?_)|(go_at_call 81;refine Ck.gq w0 w.heap.size zk (fun h=>vS h) ?_)|(go_at_call 82;refine Ck.gq w0 w.heap.size zk (fun h=>jr h) ?_)|(go_at_call 182;refine Ck.gq w0 w.heap.size zk (fun h=>Vf h _ nq5 nq5) ?_)|(go_at_call 176;refine Ck.gq w0 w.heap.size zk (fun h=>Xl h _ nq5 nq5) ?_)|(go_at_call 171;refine Ck.gq w0 w.heap.size zk (fun h=>Ze h _ nq5 nq5) ?_)|(go_at_call 173;refine Ck.gq w0 w.heap.size zk (fun h=>Zf h _ nq5 nq5) ?_)|(go_at_call 184;refine Ck.gq w0 w.heap.size zk (fun h=>QX h _ _ nq5 nq5 nb nb) ?_));intro w1 k q1 q2 zz;intros;(try simp at zz);(try replace zz:=Nat.lt_of_succ_le zz);(try have zl:w.heap.size+1<w1.heap.size:=zza);(try have zm:w.heap.size<w1.heap.size:=zza);(try obtain ⟨_,_,_⟩:=hK.out _ _ _ k.c);(try obtain ⟨_,_,_⟩:=hL.out _ _ _ k.c);(try simp only [BusI.val]))|(go_at_call 181;refine (Ck.same (w0:=w0) (R:=w.heap.size) zk (fun h=>YI h)).mono ?_;rintro e w' ⟨rfl,rfl⟩)|(go_at_call 107;refine (Gi _ _).mono ?_;rintro e w' ⟨rfl,rfl⟩)|(go_at_call 175;refine (VX _ _ _ nq5 nq5).mono ?_;rintro e w' ⟨rfl,rfl⟩)|(go_at_call 177;refine (vF _ _ nq5 nq5).mono ?_;rintro e w' ⟨rfl,rfl⟩)|(go_at_call 179;refine (vE _ _).mono ?_;rintro e w' ⟨rfl,rfl⟩)))
 all_goals exact bodyPost_ret brq rfl ⟨rfl,ze⟩):p:=q
def GN:List Value:=[.nilFunc,.func (.func 111) #[] #[],.func (.func 112) #[] #[],.func (.func 113) #[] #[],.func (.func 114) #[] #[],.func (.func 115) #[] #[],.func (.func 116) #[] #[],.func (.func 117) #[] #[],.func (.func 118) #[] #[],.func (.func 119) #[] #[],.func (.func 120) #[] #[],.func (.func 121) #[] #[],.func (.func 122) #[] #[],.func (.func 123) #[] #[],.func (.func 124) #[] #[],.func (.func 125) #[] #[],.func (.func 126) #[] #[],.func (.func 127) #[] #[],.func (.func 128) #[] #[],.func (.func 129) #[] #[],.func (.func 130) #[] #[],.func (.func 131) #[] #[],.func (.func 132) #[] #[]]
def GP:List Value:=[.func (.func 215) #[] #[],.func (.func 216) #[] #[],.func (.func 217) #[] #[],.func (.func 218) #[] #[],.func (.func 219) #[] #[],.func (.func 220) #[] #[],.func (.func 221) #[] #[],.func (.func 222) #[] #[],.func (.func 223) #[] #[],.func (.func 224) #[] #[],.func (.func 225) #[] #[],.func (.func 226) #[] #[],.func (.func 227) #[] #[],.func (.func 228) #[] #[],.func (.func 229) #[] #[],.func (.func 230) #[] #[],.func (.func 231) #[] #[],.func (.func 232) #[] #[],.func (.func 233) #[] #[],.func (.func 234) #[] #[],.func (.func 235) #[] #[],.func (.func 236) #[] #[],.func (.func 237) #[] #[],.func (.func 238) #[] #[],.func (.func 239) #[] #[],.func (.func 240) #[] #[],.func (.func 241) #[] #[],.func (.func 242) #[] #[],.func (.func 243) #[] #[],.func (.func 244) #[] #[],.func (.func 245) #[] #[],.func (.func 246) #[] #[],.func (.func 247) #[] #[],.func (.func 248) #[] #[],.func (.func 249) #[] #[],.func (.func 250) #[] #[],.func (.func 251) #[] #[],.func (.func 252) #[] #[],.func (.func 253) #[] #[],.func (.func 254) #[] #[],.func (.func 255) #[] #[],.func (.func 256) #[] #[],.func (.func 257) #[] #[],.func (.func 258) #[] #[],.func (.func 259) #[] #[],.func (.func 260) #[] #[],.func (.func 261) #[] #[],.func (.func 262) #[] #[],.func (.func 263) #[] #[],.func (.func 264) #[] #[],.func (.func 265) #[] #[],.func (.func 266) #[] #[],.func (.func 267) #[] #[],.func (.func 268) #[] #[],.func (.func 269) #[] #[],.func (.func 270) #[] #[]]
theorem GQ{B b:Nat}{a:World}(hb:B<=b):∀ (vs:List Value) (o:Nat) (w:World),Below B a w->Below B a (w.setCells b o vs)
 | [],_,_,h=>h
 |v::vs,o,_,h=>GQ hb vs (o+1) _ (h.setCell hb v)
theorem zfT:GN.toArray.all (·.oneCell')=true:=all_oneCell_toArray zzb
theorem zfU:GP.toArray.all (·.oneCell')=true:=all_oneCell_toArray zzb
theorem Jn(w:World)(z:Array Value)(t:TypeId)(cs:List Value)(hz:z.size=cs.length):(w.alloc (.cells z t)).there w.heap.size 0 cs.length/\((w.alloc (.cells z t)).setCells w.heap.size 0 cs).rangeAt w.heap.size 0 cs/\Bq w ((w.alloc (.cells z t)).setCells w.heap.size 0 cs):=by
 have h1:(w.alloc (.cells z t)).there w.heap.size 0 cs.length:=by
  intro j hj;have hb:(w.alloc (.cells z t)).heap[w.heap.size]?=some (.cells z t (0,0)):=heap_alloc_new w _;constructor
  ·rw [Nat.zero_add,cell_of_row _ _ _ _ _ _ hb];simp [hz,hj]
  ·unfold World.frozen?;rw [hb];simp
 refine ⟨h1,World.rangeAt_setCells_same _ _ _ _ h1,GQ (Nat.le_refl _) _ _ _ qBa⟩
theorem zaS(w:World)(z:Array Value)(t:TypeId)(cs:List Value)(hz:z.size=cs.length):(w.alloc (.cells z t)).there w.heap.size 0 cs.toArray.size:=by
 rw [List.size_toArray];exact (Jn w z t cs hz).1
theorem qN{P:Program}{ops:Array Oper}{rest:List Oper}{op:Oper}{a:Go.Act}{w:World}{Q:Exit->Go.Act->World->Prop}(hgd:op.guard=none)(ty:TypeId)(x y:Operand)(ho:op.op=.store ty x y)
  (z:Array Value) (t:TypeId) (cs:List Value) (hx:a.eval x=Pq w.heap.size) (hy:a.eval y=.agg cs.toArray) (hz:z.size=cs.length)
  (hi:(P.info? ty).map (·.size)=some cs.toArray.size) (h1:cs.toArray.all (·.oneCell')=true)
  (h:∀w2,w2.rangeAt w.heap.size 0 cs->Bq w w2->wpList P ops Q rest (a.put op.dst undef) w2):wpList P ops Q (op::rest) a (w.alloc (.cells z t)):=
 wpList_store_mid hgd ty x y ho w.heap.size 0 cs.toArray hx hy (zaS w z t cs hz) hi h1 (h _ (Jn w z t cs hz).2.1 (Jn w z t cs hz).2.2)
theorem zc6(i:Nat)(hi:i<23)(w:World):Cq 83 #[Uq i] w (GN.getD i .nilFunc) fun w'=>Bq w w':=by
 have hi':(i:Int)<23:=by omega
 have hg:Hid (GN.getD i .nilFunc=GN[i]'hi):=by show _=_;exact (List.getElem_eq_getD _).symm
 generalize GN.getD i .nilFunc=v at*;go_enter func83,ntmps83;go_wp2_with ((with_reducible refine qN (op:=⟨none,.store _ (.tmp 3) (.tmp 4),_,_,_,none⟩) (w:=w) rfl _ (.tmp 3) (.tmp 4) rfl _ _ GN ?hx ?hy ?hz ?hi zfT ?h);(case hx=>go_must (rfl));(case hy=>go_must (rfl));(case hz=>rfl);(case hi=>go_must (kernel_rfl));go_must (intro w2 hr hB;have hc:w2.cell? (Aq w.heap.size i)=some v:=(by rw [hg.out];have:=hr i _ (List.getElem?_eq_getElem hi);rwa [Nat.zero_add] at this)));go_ret;exact ⟨rfl,hB⟩
theorem zc7(i:Nat)(hi:i<56)(w:World):Cq 205 #[Uq i] w (GP.getD i .nilFunc) fun w'=>Bq w w':=by
 have hi':(i:Int)<56:=by omega
 have hg:Hid (GP.getD i .nilFunc=GP[i]'hi):=by show _=_;exact (List.getElem_eq_getD _).symm
 generalize GP.getD i .nilFunc=v at*;go_enter func205,ntmps205;go_wp2_with ((with_reducible refine qN (op:=⟨none,.store _ (.tmp 3) (.tmp 4),_,_,_,none⟩) (w:=w) rfl _ (.tmp 3) (.tmp 4) rfl _ _ GP ?hx ?hy ?hz ?hi zfU ?h);(case hx=>go_must (rfl));(case hy=>go_must (rfl));(case hz=>rfl);(case hi=>go_must (kernel_rfl));go_must (intro w2 hr hB;have hc:w2.cell? (Aq w.heap.size i)=some v:=(by rw [hg.out];have:=hr i _ (List.getElem?_eq_getElem hi);rwa [Nat.zero_add] at this)));go_ret;exact ⟨rfl,hB⟩
theorem YI{B:Nat}{s:PC}{w0 w:World}(h:Tn B s w0 w):Cq 181 #[Pq B] w (.int .u16 s.stackTop) fun w'=>w'=w:=by
 have c_s:=h.c.cs;obtain ⟨l_s,u_s⟩:=h.c.rs;go_enter func181,ntmps181;go_wp2_with (first|(go_at_call 52;refine (xr _ _ _ zza zza zza zza).mono ?_;rintro e w' ⟨rfl,rfl⟩));go_ret;exact ⟨rfl,rfl⟩
theorem qS{B:Nat}{s:PC}{w0 w:World}(h:Tn B s w0 w):RM 169 [] B w0 w (s.readNext):=by
 have hf:=func169;have hn:=ntmps169;have hr:=results169;obtain ⟨c_pc,l_pc,u_pc⟩:=ja h.c;have hK:=jJ (fun w B s=>@ja w B s);unfold PC.readNext;exact zN
theorem Xx{B:Nat}{s:PC}{w0 w:World}(h:Tn B s w0 w)(b:BusI):Cq 170 #[Pq B,b.val] w b.val fun w'=>Tn B (zL (s,b)).1 w0 w':=by
 have c_ad:=h.c.cad;obtain ⟨l_ad,u_ad⟩:=h.c.rad;have f_ad:=h.c.free 65555;have hlt:=h.c.lt;obtain ⟨ba,bd,bw,bf⟩:=b;rw [<-Jd];have hd1:0<=bd%256:=by omega
 have hd2:bd%256<256:=by omega
 have lo1:=(Gf s.ad).1;have lo2:=(Gf s.ad).2;go_enter func170,ntmps170;go_wp2_with (first|(go_at_call 52;refine (xr _ _ _ nq5 nq5 nq5 nq5).mono ?_;rintro e w' ⟨rfl,rfl⟩));all_goals (try go_region_with (first|(go_at_call 52;refine (xr _ _ _ nq5 nq5 nq5 nq5).mono ?_;rintro e w' ⟨rfl,rfl⟩)))
 all_goals (try go_wp2_with (first|(go_at_call 52;refine (xr _ _ _ nq5 nq5 nq5 nq5).mono ?_;rintro e w' ⟨rfl,rfl⟩)))
 all_goals (refine bodyPost_ret (v:=.agg #[Iq ba,Iq bd,Tq bw,Tq bf]) (by simp [results,results170,go_sem]) rfl ⟨rfl,?_⟩)
 all_goals (apply Tn.eq;(case h=>exact zt);(case e=>rfl))
theorem Xy{B:Nat}{s:PC}{w0 w:World}(h:Tn B s w0 w)(b:BusI):Cq 174 #[Pq B,b.val] w b.val fun w'=>Tn B (xn (s,b)).1 w0 w':=by
 have c_hop:=h.c.chop;obtain ⟨l_hop,u_hop⟩:=h.c.rhop;have f_hop:=h.c.free 65556;have hlt:=h.c.lt;obtain ⟨ba,bd,bw,bf⟩:=b;rw [<-Jd];have hd1:0<=bd%256:=by omega
 have hd2:bd%256<256:=by omega
 have lo1:=(Gf s.ad).1;have lo2:=(Gf s.ad).2;go_enter func174,ntmps174;go_wp2_with (first|(go_at_call 52;refine (xr _ _ _ nq5 nq5 nq5 nq5).mono ?_;rintro e w' ⟨rfl,rfl⟩));all_goals (try go_region_with (first|(go_at_call 52;refine (xr _ _ _ nq5 nq5 nq5 nq5).mono ?_;rintro e w' ⟨rfl,rfl⟩)))
 all_goals (try go_wp2_with (first|(go_at_call 52;refine (xr _ _ _ nq5 nq5 nq5 nq5).mono ?_;rintro e w' ⟨rfl,rfl⟩)))
 all_goals (refine bodyPost_ret (v:=.agg #[Iq ba,Iq bd,Tq bw,Tq bf]) (by simp [results,results174,go_sem]) rfl ⟨rfl,?_⟩)
 all_goals (apply Tn.eq;(case h=>exact zt);(case e=>rfl))
theorem qT{B:Nat}{s:PC}{w0 w:World}(h:Tn B s w0 w)(b:BusI):Cq 172 #[Pq B,b.val] w b.val fun w'=>Tn B (zA (s,b)).1 w0 w':=by
 have c_ad:=h.c.cad;obtain ⟨l_ad,u_ad⟩:=h.c.rad;have f_ad:=h.c.free 65555;have hlt:=h.c.lt;obtain ⟨ba,bd,bw,bf⟩:=b;rw [<-Jd];have hd1:0<=bd%256:=by omega
 have hd2:bd%256<256:=by omega
 have lo1:=(Gf s.ad).1;have lo2:=(Gf s.ad).2;go_enter func172,ntmps172;go_wp2_with (first|(go_at_call 179;refine (vE _ _).mono ?_;rintro e w' ⟨rfl,rfl⟩)|(go_at_call 52;refine (xr _ _ _ nq5 nq5 nq5 nq5).mono ?_;rintro e w' ⟨rfl,rfl⟩));all_goals (try go_region_with (first|(go_at_call 179;refine (vE _ _).mono ?_;rintro e w' ⟨rfl,rfl⟩)|(go_at_call 52;refine (xr _ _ _ nq5 nq5 nq5 nq5).mono ?_;rintro e w' ⟨rfl,rfl⟩)))
 all_goals (try go_wp2_with (first|(go_at_call 179;refine (vE _ _).mono ?_;rintro e w' ⟨rfl,rfl⟩)|(go_at_call 52;refine (xr _ _ _ nq5 nq5 nq5 nq5).mono ?_;rintro e w' ⟨rfl,rfl⟩)))
 all_goals (refine bodyPost_ret (v:=.agg #[Iq ba,Iq bd,Tq bw,Tq bf]) (by simp [results,results172,go_sem]) rfl ⟨rfl,?_⟩)
 all_goals (apply Tn.eq;(case h=>exact zt);(case e=>rfl))
theorem qU{B:Nat}{s:PC}{w0 w:World}(h:Tn B s w0 w)(i m:Int)(hi:0<=i/\i<56)(hm:0<=m/\m<23):Cq 104 #[Pq B,.agg #[Uq i,Uq m]] w (.tuple #[]) fun w'=>Tn B (s.begin_ i m) w0 w':=by
 have c_ins:=h.c.cins;obtain ⟨l_ins,u_ins⟩:=h.c.rins;have c_md:=h.c.cmd;obtain ⟨l_md,u_md⟩:=h.c.rmd;have c_step:=h.c.cstep;obtain ⟨l_step,u_step⟩:=h.c.rstep;have c_st:=h.c.cst;obtain ⟨l_st,u_st⟩:=h.c.rst;have f_ins:=h.c.free 65552;have f_md:=h.c.free 65553;have f_step:=h.c.free 65554;have f_st:=h.c.free 65551;have hlt:=h.c.lt;by_cases e:m=0
 ·subst e;have H:Hid (s.begin_ i 0={s with ins:=i,md:=0,step:=0,st:=5}):=rfl;go_enter func104,ntmps104;go_wp2;go_end0;refine ⟨rfl,?_⟩;apply Tn.eq;(case h=>exact zt);(case e=>rfl)
 ·have e1:(m==0)=false:=by rw [beq_eq_false_iff_ne];exact e
  have H:Hid (s.begin_ i m={s with ins:=i,md:=m,step:=0,st:=1}):=by show _=_;unfold PC.begin_;rw [if_neg e]
  go_enter func104,ntmps104;go_wp2;go_end0;refine ⟨rfl,?_⟩;apply Tn.eq;(case h=>exact zt);(case e=>exact H.out.symm)
