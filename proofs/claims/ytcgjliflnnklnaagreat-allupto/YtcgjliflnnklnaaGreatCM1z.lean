import Derived.Test.YtcgjliflnnklnaaGreatJ13
namespace Go.Proofs.YtcgjliflnnklnaaGreat
open Go.RowKit Tryz
set_option maxRecDepth 100000
set_option maxHeartbeats 8000000
variable {B:Nat} {s:PC} {w0 w:World}
theorem Xp(h:Tn B s w0 w)(b:BusI):Calls prog 180 #[Pq B,b.val] w fun e w'=>e=.returned (yC (s,b)).2.val/\Tn B (yC (s,b)).1 w0 w':=by
 have c_ad:=h.c.cad;obtain ⟨l_ad,u_ad⟩:=h.c.rad;obtain ⟨ba,bd,bw,bf⟩:=b;rw [<-Jd];obtain ⟨hlt,hsz,n0,m0,fz0,n01,m01⟩:=h.pre;go_enter func180,ntmps180;go_wp2_with (first|(go_at_call 172;refine (Ck.call (w0:=w0) (R:=(w.heap.size+1)) zk (fun h=>qT h ⟨_,_,_,_⟩)).mono ?_;rintro e w1 ⟨rfl,k,q1,q2,zz⟩;obtain ⟨⟨r0,r1,r2,r3⟩,r4,z0,n1,n2,m1,m2,fz,b1,nr,mr⟩:=k.facts;(try simp at zz);(try replace zz:=Nat.lt_of_succ_le zz);(try have zl:w.heap.size+1<w1.heap.size:=zza);(try have zm:w.heap.size<w1.heap.size:=zza);have c_ad:=k.c.cad;obtain ⟨l_ad,u_ad⟩:=k.c.rad;(try simp only [BusI.val]))|(go_at_call 108;refine (Ck.call (w0:=w0) (R:=(w.heap.size+1)) zk (fun h=>vY h)).mono ?_;rintro e w1 ⟨rfl,k,q1,q2,zz⟩;obtain ⟨⟨r0,r1,r2,r3⟩,r4,z0,n1,n2,m1,m2,fz,b1,nr,mr⟩:=k.facts;(try simp at zz);(try replace zz:=Nat.lt_of_succ_le zz);(try have zl:w.heap.size+1<w1.heap.size:=zza);(try have zm:w.heap.size<w1.heap.size:=zza);have c_ad:=k.c.cad;obtain ⟨l_ad,u_ad⟩:=k.c.rad;skip));all_goals (have hr:=results180;exact bodyPost_ret brq rfl ⟨rfl,ze⟩)
theorem vS(h:Tn B s w0 w):RM 81 [] B w0 w (s.restore):=by
 have hf:=func81;have hn:=ntmps81;have hr:=results81;obtain ⟨c_st,l_st,u_st⟩:=JB h.c;obtain ⟨c_ad,l_ad,u_ad⟩:=XH h.c;obtain ⟨c_data,l_data,u_data⟩:=yY h.c;have hK:=jJ (fun w B s=>@JB w B s);unfold PC.restore;exact zN
theorem jr(h:Tn B s w0 w):RM 82 [] B w0 w (s.change):=by
 have hf:=func82;have hn:=ntmps82;have hr:=results82;obtain ⟨c_st,l_st,u_st⟩:=JB h.c;have hK:=jJ (fun w B s=>@XH w B s);have hL:=jJ (fun w B s=>@yY w B s);unfold PC.change;exact zN
theorem js(h:Tn B s w0 w):RM 80 [] B w0 w (s.access):=by
 have hf:=func80;have hn:=ntmps80;have hr:=results80;obtain ⟨c_st,l_st,u_st⟩:=JB h.c;obtain ⟨c_ad,l_ad,u_ad⟩:=XH h.c;obtain ⟨c_data,l_data,u_data⟩:=yY h.c;obtain ⟨c_ins,l_ins,u_ins⟩:=zj0 h.c;have hK:=jJ (fun w B s=>@XH w B s);have hL:=jJ (fun w B s=>@yY w B s);unfold PC.access;exact zN
theorem KQ(h:Tn B s w0 w):RM 111 [] B w0 w (s.implied):=by
 have hf:=func111;have hn:=ntmps111;have hr:=results111;obtain ⟨c_pc,l_pc,u_pc⟩:=ja h.c;unfold PC.implied;exact zN
theorem JC(h:Tn B s w0 w):RM 113 [] B w0 w (s.immediate):=by
 have hf:=func113;have hn:=ntmps113;have hr:=results113;obtain ⟨c_pc,l_pc,u_pc⟩:=ja h.c;unfold PC.immediate;exact zN
theorem XI(h:Tn B s w0 w):RM 112 [] B w0 w (s.accumulator):=by
 have hf:=func112;have hn:=ntmps112;have hr:=results112;obtain ⟨c_pc,l_pc,u_pc⟩:=ja h.c;obtain ⟨c_a,l_a,u_a⟩:=Kfa h.c;obtain ⟨c_data,l_data,u_data⟩:=yY h.c;have hK:=jJ (fun w B s=>@Kfa w B s);have hL:=jJ (fun w B s=>@yY w B s);unfold PC.accumulator;exact zN
theorem Uu(h:Tn B s w0 w):RM 114 [] B w0 w (s.zeroPage):=by
 have hf:=func114;have hn:=ntmps114;have hr:=results114;obtain ⟨c_pc,l_pc,u_pc⟩:=ja h.c;obtain ⟨c_st,l_st,u_st⟩:=JB h.c;unfold PC.zeroPage;exact zN
