import Derived.Deep.RegionHeld3
import Derived.Test.YtcgjliflnnklnaaGreatJ17
import Derived.Test.YtcgjliflnnklnaaGreatJ13
import Derived.Test.YtcgjliflnnklnaaGreatJ01
namespace Go.Proofs.YtcgjliflnnklnaaGreat
open Go.RowKit Tryz
set_option maxRecDepth 100000
set_option maxHeartbeats 4000000
structure RegI where
 A:Int
 X:Int
 Y:Int
 S:Int
 P:Int
 PC:Int
 cyc:Int
 jam:Bool
def RegI.val(r:RegI):Value:=.agg #[Iq r.A,Iq r.X,Iq r.Y,Iq r.S,Iq r.P,Iq r.PC,Iq r.cyc,Tq r.jam]
def PC.regs(s:PC):RegI:=⟨s.ba,s.bx,s.b_y,s.bs,s.bp,s.bpc,s.cyc,s.st==5⟩
def PC.peek(s:PC)(a:Int):Int:=s.look (a%65536)
theorem zbn(x:Int)(h0:0<=x)(h1:x<65536):IntKind.i64.wrap x=x:=by rw [IntKind.wrap_i64];omega
theorem jv(x:Int)(h0:0<=x)(h1:x<256):IntKind.i64.wrap x=x:=zbn x h0 zza
theorem zqh{W w1:World}(hb:Bq W w1):(∀b o,b<W.heap.size->w1.cell? (Aq b o)=W.cell? (Aq b o))/\(∀b o,b<W.heap.size->w1.frozen? (Aq b o)=W.frozen? (Aq b o)):=
 ⟨fun b o h=>hb.cell (p:=(Aq b o)) h,fun b o h=>hb.frozen (p:=(Aq b o)) h⟩
theorem qJ{w w':World}(h:Bq w w'):Bq w w'.drew:=⟨h.os,h.tape,h.output,h.size,h.block⟩
theorem V5{w w':World}{o:Obj}(h:Bq w w'):Bq w (w'.alloc o):=h.alloc h.size o
theorem zpA{w w1:World}{o:Obj}(hb:Below (w.alloc o).heap.size (w.alloc o) w1):Bq w w1:=qBa.trans (hb.mono zzc)
theorem zlk{w w':World}{b o:Nat}{v:Value}(h:Bq w w')(hb:w.heap.size<=b):Bq w (w'.setCell (Aq b o) v):=h.setCell hb v
theorem zfc{B:Nat}{s:PC}{w0 w:World}(h:Tn B s w0 w)(a:Int):Cq 33 #[Pq B,Iq a] w (Iq (s.peek a)) fun w'=>w'=w:=by
 have r0:0<=a%65536:=by omega
 have r1:a%65536<65536:=by omega
 obtain ⟨l0,l1⟩:=Y2 h.c (a%65536) r1;have hl:=UU h (a%65536) r0 r1;unfold PC.peek;generalize s.look (a%65536)=L at*;go_enter func33,ntmps33;go_wp2_with (first|(go_at_call 49;refine hl.mono ?_;rintro e w' ⟨rfl,rfl⟩));go_ret;exact ⟨rfl,rfl⟩
theorem Gs{B:Nat}{s:PC}{w0 w:World}(h:Tn B s w0 w):Cq 36 #[Pq B] w s.regs.val fun w'=>Bq w w':=by
 have c0:=h.c.cba;have c1:=h.c.cbx;have c2:=h.c.cb_y;have c3:=h.c.cbs;have c4:=h.c.cbp;have c5:=h.c.cbpc;have c6:=h.c.ccyc;obtain ⟨a0,a1⟩:=h.c.rba;obtain ⟨x0,x1⟩:=h.c.rbx;obtain ⟨y0,y1⟩:=h.c.rb_y;obtain ⟨s0,s1⟩:=h.c.rbs;obtain ⟨p0,p1⟩:=h.c.rbp;obtain ⟨q0,q1⟩:=h.c.rbpc;have hlt:=h.c.lt;have n0:w.heap.size≠B:=by omega
 have m0:B≠w.heap.size:=by omega
 have n1:w.heap.size+1≠B:=by omega
 have m1:B≠w.heap.size+1:=by omega
 have J:=fun o o'=>Z6 ((h.alloc o).alloc o').drew
 go_enter func36,ntmps36;go_wp2_with fail;go_region_held3 (fun w'=>w'.cell? ⟨w.heap.size+1,0,none⟩=some (Uq s.ba)/\w'.cell? ⟨w.heap.size+1,1,none⟩=some (Uq s.bx)/\w'.cell? ⟨w.heap.size+1,2,none⟩=some (Uq s.b_y)/\w'.cell? ⟨w.heap.size+1,3,none⟩=some (Uq s.bs)/\w'.cell? ⟨w.heap.size+1,4,none⟩=some (Uq s.bp)/\w'.cell? ⟨w.heap.size+1,5,none⟩=some (.int .u16 s.bpc)/\w'.cell? (Aq B 65561)=some (Iq s.cyc)) (go_keep) (first|(go_at_call 53;refine (J _ _).mono ?_;rintro e w1 ⟨rfl,rfl⟩));all_goals go_wp2
 all_goals (refine bodyPost_ret (v:=s.regs.val) (by simp [results,results36,go_sem,RegI.val,PC.regs, *];exact ⟨jv _ a0 a1,jv _ x0 x1,jv _ y0 y1,jv _ s0 s1,jv _ p0 p1,zbn _ q0 q1⟩) rfl (And.intro rfl ?_))
 all_goals (repeat (first|exact Below.refl _ _|with_reducible apply qJ|with_reducible apply V5|((with_reducible apply zlk);(case hb=>omega))))
def zcE(s:PC)(nmi irq:Bool):PC × BusI × Bool:=if s.st=5 then (s,⟨0,0,false,false⟩,false) else ((s.cycle nmi irq).1,(s.cycle nmi irq).2,true)
theorem zcF{B:Nat}{s:PC}{w0 w:World}(h:Tn B s w0 w)(nmi irq:Bool)(hm:s.st=1->s.md≠0):Cq 35 #[Pq B,Tq nmi,Tq irq] w (.tuple #[(zcE s nmi irq).2.1.val,Tq (zcE s nmi irq).2.2]) fun w'=>Tn B (zcE s nmi irq).1 w0 w':=by
 unfold zcE;by_cases h5:s.st=5
 ·simp only [if_pos h5];exact zda h nmi irq h5
 ·simp only [if_neg h5];exact zfX h nmi irq h5 hm
theorem zoZ{B:Nat}{s:PC}{w0 w:World}(h:Tn B s w0 w)(nmi irq:Bool)(hm:s.st=1->s.md≠0):Cq 23 #[Pq B,Tq nmi,Tq irq] w (.tuple #[(zcE s nmi irq).2.1.val,Tq (zcE s nmi irq).2.2]) fun w'=>Tn B (zcE s nmi irq).1 w0 w':=by
 have hlt:=h.c.lt;have hsz:=h.g.size;have k0:=Ck.mk' h (R:=w.heap.size) rfl;have H:=Ck.call k0 (fun h=>zcF h nmi irq hm);generalize (zcE s nmi irq).1=S at*;generalize (zcE s nmi irq).2.1=b at*;generalize (zcE s nmi irq).2.2=o at*;obtain ⟨ba,bd,bw,bf⟩:=b;go_enter func23,ntmps23;go_wp2_with fail;refine H.mono ?_;rintro e w1 ⟨rfl,k2, -, -, -⟩;obtain ⟨⟨rr0,rr1,rr2,rr3⟩,g1,g2,g3,g4,g5,g6,g7,g8,g9,g10⟩:=k2.facts;simp only [BusI.val];go_wp2;refine bodyPost_ret (v:=.tuple #[BusI.val ⟨ba,bd,bw,bf⟩,Tq o]) (by simp [results,results23,go_sem,BusI.val, *]) rfl (And.intro rfl ?_);apply Tn.eq;(case h=>repeat (first|with_reducible exact k2.t|with_reducible apply Tn.drew|with_reducible apply Tn.alloc|((with_reducible apply Tn.other);(case hne=>omega);(case hb=>omega))));(case e=>rfl)
theorem zpe{B:Nat}{s:PC}{w0 w:World}(h:Tn B s w0 w)(a:Int):Cq 21 #[Pq B,Iq a] w (Iq (s.peek a)) fun w'=>w'=w:=by
 have hl:=zfc h a;go_enter func21,ntmps21;go_wp2_with (first|(go_at_call 33;refine hl.mono ?_;rintro e w' ⟨rfl,rfl⟩));go_ret;exact ⟨rfl,rfl⟩
theorem zpf{B:Nat}{s:PC}{w0 w:World}(h:Tn B s w0 w):Cq 24 #[Pq B] w s.regs.val fun w'=>Bq w w':=by
 have hl:=fun o=>Gs (h.alloc o)
 generalize s.regs=r at*;go_enter func24,ntmps24;go_wp2_with (first|(go_at_call 36;refine (hl _).mono ?_;rintro e w1 ⟨rfl,hb⟩;obtain ⟨hc,hf⟩:=zqh hb;have hz:w.heap.size<w1.heap.size:=(by have:=hb.size;simp at this;omega);have HB:Hid (Bq w w1):=zpA hb;clear hb;simp only [RegI.val]));refine bodyPost_ret (v:=r.val) (by simp [results,results24,go_sem,RegI.val, *]) rfl (And.intro rfl ?_);have H9:=HB.out;clear hc hf hl;clear HB h;exact zlk (zlk (zlk (zlk (zlk (zlk (zlk (zlk H9 (Nat.le_refl _)) (Nat.le_refl _)) (Nat.le_refl _)) (Nat.le_refl _)) (Nat.le_refl _)) (Nat.le_refl _)) (Nat.le_refl _)) (Nat.le_refl _)
section
def PC.start(s:PC)(rom:Int)(cs:List Chn):PC:=
 let t:PC:={s with rom:=rom*256,mem:=yW s.mem cs,s:=253,p:=36}
 let q:=zn (t.look 65532) (t.look 65533)
 {t with pc:=q,ba:=t.a,bx:=t.x,b_y:=t.y,bs:=253,bp:=36,bpc:=q}
theorem zeH{B:Nat}{w:World}(N:Nat)(v:Value)(cs:List Chn)(rom:Int)(hc:CfAt N w v cs)(hv:yt rom cs=false)
  (hl:cs.length<=140737488355328) (hb:∀c∈cs,c.bs.length<=140737488355328):
  Cq 34 #[Pq B,.agg #[v,Iq rom]] w (Iq 1) fun w'=>Bq w w':=by
 have V:=fun o=>J8 N v cs rom (w.alloc o) (hc.below (Below.refl _ _|>.alloc (Nat.le_refl _) _)) hl hb
 rw [hv] at V;obtain ⟨p,cap,rfl, -⟩:=hc;go_enter func34,ntmps34;go_wp2_with (first|(go_at_call 50;refine (V _).mono ?_;rintro e w1 ⟨rfl,hbl⟩));go_ret;exact ⟨rfl,qBa.trans (hbl.mono zzc)⟩
theorem zeI{B:Nat}{s:PC}{w0 w:World}(h:Tn B s w0 w)(N:Nat)(hN:N<=B)(v:Value)(cs:List Chn)(rom:Int)(hc:CfAt N w v cs)(hv:yt rom cs=true)
  (hl:cs.length<=140737488355328) (hb:∀c∈cs,c.bs.length<=140737488355328):
  Cq 34 #[Pq B,.agg #[v,Iq rom]] w (Iq 0) fun w'=>Tn B (s.start rom cs) w0 w':=by
 have V:=fun o=>J8 N v cs rom (w.alloc o) (hc.below (Below.refl _ _|>.alloc (Nat.le_refl _) _)) hl hb
 rw [hv] at V;have hlt:=h.c.lt;have hsz:=h.g.size;have n0:w.heap.size≠B:=by omega
 have m0:B≠w.heap.size:=by omega
 have HC:=qH1 hc;have Hh:=qH1 h;have HV:=qH1 hv;obtain ⟨p,cap,rfl, -⟩:=hc;clear h hv;go_enter func34,ntmps34;go_wp2_with (first|(go_at_call 50;refine (V _).mono ?_;rintro e w1 ⟨rfl,hbl⟩;have e0:=hbl.cell (p:=(Aq w.heap.size 0)) zzc;have e1:=hbl.cell (p:=(Aq w.heap.size 1)) zzc;have hs1:=hbl.size));have T1:Tn B s w0 w1:=ym (Hh.out.alloc _) hbl;have C1:CfAt N w1 (.slice p cs.length cap) cs:=(HC.out.below qBa).below hbl;clear V hbl;rw [World.cell?_alloc_at _ _ _ _ rfl] at e0 e1;go_region_with (first|(go_at_call 51;refine (zd7 T1.drew N hN _ cs rom C1 HV.out).mono ?_;rintro e w2 ⟨rfl,T2⟩));clear T1 C1 e0 e1;obtain ⟨S1,hS1⟩:∃S1:PC,Hid (S1={s with rom:=rom*256,mem:=yW s.mem cs}):=⟨_,rfl⟩
 rw [<-hS1.out] at T2;have hst:Hid (s.start rom cs={({S1 with s:=253,p:=36}:PC) with pc:=zn (({S1 with s:=253,p:=36}:PC).look 65532) (({S1 with s:=253,p:=36}:PC).look 65533),ba:=S1.a,bx:=S1.x,b_y:=S1.y,bs:=253,bp:=36,bpc:=zn (({S1 with s:=253,p:=36}:PC).look 65532) (({S1 with s:=253,p:=36}:PC).look 65533)}):=by
  show _=_;rw [hS1.out];rfl
 clear hS1;have cs_:=T2.c.cs;have cp_:=T2.c.cp;have cpc_:=T2.c.cpc;have ca_:=T2.c.ca;have cx_:=T2.c.cx;have cy_:=T2.c.cy;have d1:=T2.c.cba;have d2:=T2.c.cbx;have d3:=T2.c.cb_y;have d4:=T2.c.cbs;have d5:=T2.c.cbp;have d6:=T2.c.cbpc;have fz:=T2.c.free;have r1:=T2.c.ra;have r2:=T2.c.rx;have r3:=T2.c.ry;have T3:=(T2.setS 253 zzb).setP 36 zzb;have HT3:=qH1 T3;obtain ⟨l0,l1⟩:=Y2 T3.c 65532 zzb;obtain ⟨l2,l3⟩:=Y2 T3.c 65533 zzb;obtain ⟨j0,j1⟩:=zeZ _ _ l0 l1 l2 l3;go_wp2_with fail;go_region_with (first|(go_at_call 49;refine (UU T3.drew _ zzb zzb).mono ?_;rintro e w' ⟨rfl,rfl⟩)|(go_at_call 52;refine (xr _ _ _ l0 l1 l2 l3).mono ?_;rintro e w' ⟨rfl,rfl⟩));all_goals (generalize (({S1 with s:=253,p:=36}:PC).look 65532)=L0 at*)
 all_goals (generalize (({S1 with s:=253,p:=36}:PC).look 65533)=L1 at*)
 all_goals (generalize zn L0 L1=J at*)
 all_goals go_wp2
 all_goals go_ret
 all_goals refine ⟨rfl,?_⟩
 all_goals rw [hst.out]
 all_goals exact (((((((HT3.out.setPc J ⟨j0,j1⟩).setBa _ r1).setBx _ r2).setB_y _ r3).setBs 253 zzb).setBp 36 zzb).setBpc J ⟨j0,j1⟩).drew
def zah(R:Nat->Option Value):PC:=⟨fun _=>0,0,0,false,0,0,0,0,0,0,0,0,0,0,0,0,0,0,0,0,0,0,0,false,false,false,0,R⟩
def isZ:Value->Bool
 |.int .u8 v=>v==0
 |_=>false
def zct:List Value->Nat->Bool
 | [],n=>n==0
 |v::l,n=>match n with
  |0=>true
  |n+1=>isZ v&&zct l n
theorem zk7{v:Value}(h:isZ v=true):v=Uq 0:=by
 unfold isZ at h;split at h
 ·rw [eq_of_beq h]
 ·cases h
theorem zbj:∀ (l:List Value) (n:Nat),zct l n=true->∀i,i<n->l[i]?=some (Uq 0)
 | [],n,h,i,hi=>by simp [zct] at h;omega
 |v::l,0,h,i,hi=>by omega
 |v::l,n+1,h,i,hi=>by
  simp only [zct,Bool.and_eq_true] at h;cases i with
  |zero=>simp [zk7 h.1]
  |succ i=>simpa using zbj l n h.2 i zza
def zeJ:List Value:=[Iq 0,Uq 0,Tq false,Uq 0,Uq 0,Uq 0,Uq 0,Uq 0,.int .u16 0,Uq 0,Uq 0,Uq 0,Uq 0,Uq 0,.int .u16 0,Uq 0,Uq 0,Uq 0,Iq 0,.int .u16 0,.int .u16 0,Uq 0,Tq false,Tq false,Tq false,Iq 0]
theorem zeK(w:World)(t:TypeId)(z:Array Value)(h1:zct z.toList 65536=true)(h2:(z.toList.drop 65536).take 26=zeJ):CAt (w.alloc (.cells z t)) w.heap.size (zah fun o=>z[o]?):=by
 have hc:∀i,(w.alloc (.cells z t)).cell? (Aq w.heap.size i)=z[i]?:=fun i=>World.cell?_alloc_at _ _ _ _ rfl
 have hz:∀i,i<65536->z[i]?=some (Uq 0):=fun i hi=>by rw [<-Array.getElem?_toList];exact zbj _ _ h1 i hi
 have ht:∀k,k<26->z[65536+k]?=zeJ[k]?:=fun k hk=>by rw [<-h2, <-Array.getElem?_toList,List.getElem?_take,if_pos hk,List.getElem?_drop]
 exact {mem:=fun i hi=>(hc i).trans (hz i hi),rmem:=fun _ _=>(by decide:(0:Int)<=0/\(0:Int)<256),crom:=(hc _).trans (ht 0 zzb),ccnt:=(hc _).trans (ht 1 zzb),ccalls:=(hc _).trans (ht 2 zzb),ca:=(hc _).trans (ht 3 zzb),cx:=(hc _).trans (ht 4 zzb),cy:=(hc _).trans (ht 5 zzb),cs:=(hc _).trans (ht 6 zzb),cp:=(hc _).trans (ht 7 zzb),cpc:=(hc _).trans (ht 8 zzb),cba:=(hc _).trans (ht 9 zzb),cbx:=(hc _).trans (ht 10 zzb),cb_y:=(hc _).trans (ht 11 zzb),cbs:=(hc _).trans (ht 12 zzb),cbp:=(hc _).trans (ht 13 zzb),cbpc:=(hc _).trans (ht 14 zzb),cst:=(hc _).trans (ht 15 zzb),cins:=(hc _).trans (ht 16 zzb),cmd:=(hc _).trans (ht 17 zzb),cstep:=(hc _).trans (ht 18 zzb),cad:=(hc _).trans (ht 19 zzb),chop:=(hc _).trans (ht 20 zzb),cdata:=(hc _).trans (ht 21 zzb),ctaken:=(hc _).trans (ht 22 zzb),cnmiOn:=(hc _).trans (ht 23 zzb),cnmiDue:=(hc _).trans (ht 24 zzb),ccyc:=(hc _).trans (ht 25 zzb),rrom:=(by decide:(0:Int)<=0/\(0:Int)<65537),rcnt:=(by decide:(0:Int)<=0/\(0:Int)<256),ra:=(by decide:(0:Int)<=0/\(0:Int)<256),rx:=(by decide:(0:Int)<=0/\(0:Int)<256),ry:=(by decide:(0:Int)<=0/\(0:Int)<256),rs:=(by decide:(0:Int)<=0/\(0:Int)<256),rp:=(by decide:(0:Int)<=0/\(0:Int)<256),rpc:=(by decide:(0:Int)<=0/\(0:Int)<65536),rba:=(by decide:(0:Int)<=0/\(0:Int)<256),rbx:=(by decide:(0:Int)<=0/\(0:Int)<256),rb_y:=(by decide:(0:Int)<=0/\(0:Int)<256),rbs:=(by decide:(0:Int)<=0/\(0:Int)<256),rbp:=(by decide:(0:Int)<=0/\(0:Int)<256),rbpc:=(by decide:(0:Int)<=0/\(0:Int)<65536),rst:=(by decide:(0:Int)<=0/\(0:Int)<6),rins:=(by decide:(0:Int)<=0/\(0:Int)<56),rmd:=(by decide:(0:Int)<=0/\(0:Int)<23),rstep:=(by decide:(-9223372036854775808:Int)<=0/\(0:Int)<9223372036854775808),rad:=(by decide:(0:Int)<=0/\(0:Int)<65536),rhop:=(by decide:(0:Int)<=0/\(0:Int)<65536),rdata:=(by decide:(0:Int)<=0/\(0:Int)<256),rcyc:=(by decide:(-9223372036854775808:Int)<=0/\(0:Int)<9223372036854775808),free:=fun o=>World.frozen?_alloc_at _ _ _ _ rfl,crest:=fun o _=>hc o}
theorem zpz:zct zeroCells105.toList 65536=true:=by kernel_rfl
theorem zpc:(zeroCells105.toList.drop 65536).take 26=zeJ:=by kernel_rfl
theorem KY{N B:Nat}{w w2 w3:World}(hb:Below N w w2)(g:w2.grownBy w3 (some B))(hB:N<=B)(hN:N<=w2.heap.size):Below N w w3:=
 ⟨g.os.trans hb.os,g.tape.trans hb.tape,g.output.trans hb.output,Nat.le_trans hb.size g.size,fun k hk=>(g.block k zza (by intro e;injection e with e;omega)).trans (hb.block k hk)⟩
end
section
def PC.fresh(rom:Int)(cs:List Chn)(R:Nat->Option Value):PC:=(zah R).start rom cs
theorem zoE:∃(R:Nat->Option Value) (z:Array Value),(∀w:World,Sem.run prog (zeroValue 105) w=.ok (.agg z) w)/\z.size=65562/\∀ (w:World) (t:TypeId),CAt (w.alloc (.cells z t)) w.heap.size (zah R):=
 ⟨_,_,zeroValue105,zeroCells105_size,fun w t=>zeK w t _ zpz zpc⟩
theorem zqg(N:Nat)(v:Value)(cs:List Chn)(rom:Int)(w:World)(hN:N<=w.heap.size)(hc:CfAt N w v cs)(hv:yt rom cs=true)
  (hl:cs.length<=140737488355328) (hb:∀c∈cs,c.bs.length<=140737488355328):
  Calls prog 22 #[.agg #[v,Iq rom]] w fun e w'=> ∃B R,w.heap.size<=B/\e=.returned (.tuple #[Pq B,Iq 0])/\
   CAt w' B (.fresh rom cs R)/\Bq w w':=by
 obtain ⟨R,zz,hz,hzs,HZ⟩:=zoE;have hne:zz≠ #[]:=by intro e;rw [e] at hzs;cases hzs
 have S:∀ (o:Obj) (t:TypeId),Calls prog 34 #[.pointer (some ⟨w.heap.size+1,0,none⟩),.agg #[v,Iq rom]] ((w.alloc o).alloc (.cells zz t)).drew fun e w'=>e=.returned (Iq 0)/\Tn (w.heap.size+1) (.fresh rom cs R) ((w.alloc o).alloc (.cells zz t)) w':=by
  intro o t;have q:=zeI (Tn.refl (HZ (w.alloc o) t)).drew N zzd v cs rom ((hc.below (((Below.refl _ _).alloc (Nat.le_refl _) o).alloc zzc _)).below (qJ (Below.refl _ _))) hv hl hb;rwa [show (w.alloc o).heap.size=w.heap.size+1 from by simp] at q
 have HH:=qH1 HZ;obtain ⟨p,cap,rfl, -⟩:=hc;clear HZ;go_enter func22,ntmps22;go_wp2_with fail;go_region_with (first|(go_at_call 34;refine (S _ _).mono ?_;rintro e w2 ⟨rfl,T2⟩;have HT:Hid (CAt w2 (w.heap.size+1) (.fresh rom cs R)/\Bq w w2):=⟨T2.c,KY (qBa.alloc zzc _) T2.g zza zzd⟩;clear T2 S));all_goals go_wp2
 all_goals go_ret2
 all_goals exact ⟨w.heap.size+1,R,by omega,rfl,HT.out.1,HT.out.2⟩
end
section
theorem Hid.mk'{p:Prop}(h:p):Hid p:=h
def xd(s:PC)(k:Nat):List UInt8:=([s.ba,s.bx,s.b_y,s.bs,s.bp].take k).flatMap fun n=>zX n.toNat 2
def xF(s:PC):List UInt8:=xd s 5++zX s.bpc.toNat 4++zX s.cyc.toNat 8
theorem xx(s:PC)(k:Nat)(hk:k<=5):(xd s k).length=2*k:=by
 unfold xd;rcases (show k=0\/k=1\/k=2\/k=3\/k=4\/k=5 from by omega) with rfl|rfl|rfl|rfl|rfl|rfl<;>simp [yz]
theorem KZ(s:PC):(xF s).length=22:=by
 unfold xF;simp [xx,yz]
theorem zeL(s:PC):xd s 0++zX s.ba.toNat 2=xd s 1:=by simp [xd]
theorem zeM(s:PC):xd s 1++zX s.bx.toNat 2=xd s 2:=by simp [xd]
theorem zeN(s:PC):xd s 2++zX s.b_y.toNat 2=xd s 3:=by simp [xd]
theorem zeO(s:PC):xd s 3++zX s.bs.toNat 2=xd s 4:=by simp [xd]
theorem zeP(s:PC):xd s 4++zX s.bp.toNat 2=xd s 5:=by simp [xd]
theorem xy(base:Nat)(v:Value)(l:List UInt8)(n:Int)(count:Nat)(w0 w:World)(hv:OwnV base w0 w v l)(hl:l.length<=1000)(h0:0<=n)(hn:n<9223372036854775808)(hc:count<=16):Calls prog 84 #[v,Iq n,Iq count] w fun e w'=> ∃v',e=.returned v'/\OwnV base w0 w' v' (l++zX n.toNat count):=by
 obtain ⟨m,rfl⟩:=Int.eq_ofNat_of_zero_le h0;exact Hm base v l m count w0 w hv hl zza hc
theorem zk8(a b c d e:Int)(k:Nat)(hk:k=0)(w:World):Sem.run prog (Instr.index 255 (.agg #[Iq a,Iq b,Iq c,Iq d,Iq e]) (Iq (k:Int))) w=.ok (Iq a) w:=by subst hk;kernel_rfl
theorem zk9(a b c d e:Int)(k:Nat)(hk:k=1)(w:World):Sem.run prog (Instr.index 255 (.agg #[Iq a,Iq b,Iq c,Iq d,Iq e]) (Iq (k:Int))) w=.ok (Iq b) w:=by subst hk;kernel_rfl
theorem zla(a b c d e:Int)(k:Nat)(hk:k=2)(w:World):Sem.run prog (Instr.index 255 (.agg #[Iq a,Iq b,Iq c,Iq d,Iq e]) (Iq (k:Int))) w=.ok (Iq c) w:=by subst hk;kernel_rfl
theorem zlb(a b c d e:Int)(k:Nat)(hk:k=3)(w:World):Sem.run prog (Instr.index 255 (.agg #[Iq a,Iq b,Iq c,Iq d,Iq e]) (Iq (k:Int))) w=.ok (Iq d) w:=by subst hk;kernel_rfl
theorem zlc(a b c d e:Int)(k:Nat)(hk:k=4)(w:World):Sem.run prog (Instr.index 255 (.agg #[Iq a,Iq b,Iq c,Iq d,Iq e]) (Iq (k:Int))) w=.ok (Iq e) w:=by subst hk;kernel_rfl
structure AtR (w W:World) (C:Nat) (s:PC):Prop where
 b:Bq w W
 c5:W.cell? (Aq C 5)=some (Iq s.bpc)
 c6:W.cell? (Aq C 6)=some (Iq s.cyc)
theorem Uz{B:Nat}{s:PC}{w0 w:World}(h:Tn B s w0 w)(hcy:0<=s.cyc):Cq 137 #[Pq B] w (Zq ⟨(xF s).toArray⟩) fun w'=>Bq w w':=by
 have R:=Gs h;obtain ⟨a0,a1⟩:=h.c.rba;obtain ⟨x0,x1⟩:=h.c.rbx;obtain ⟨y0,y1⟩:=h.c.rb_y;obtain ⟨s0,s1⟩:=h.c.rbs;obtain ⟨p0,p1⟩:=h.c.rbp;obtain ⟨q0,q1⟩:=h.c.rbpc;obtain ⟨-,k1⟩:=h.c.rcyc;have hv:s.regs.val=.agg #[Iq s.ba,Iq s.bx,Iq s.b_y,Iq s.bs,Iq s.bp,Iq s.bpc,Iq s.cyc,Tq (s.st==5)]:=rfl;rw [hv] at R;clear h hv;go_enter func137,ntmps137;go_wp2_with (first|(go_at_call 36;refine R.mono ?_;rintro e w1 ⟨rfl,hb⟩;have HB:=qH1 hb;clear hb R));go_loopw [4,22] (fun v i wr=> ∃(k:Nat) (W:World),k<=5/\i=Iq k/\AtR w W w1.heap.size s/\OwnV W.heap.size W wr v (xd s k)) (fun _ i _=>5-(intOf i).toNat);case atStart=>exact ⟨0,_,by omega,rfl,⟨HB.out.alloc HB.out.size _,World.cell?_alloc_at _ _ _ _ rfl,World.cell?_alloc_at _ _ _ _ rfl⟩,⟨World.ownsRow_nil _ _ _ _,Below.refl _ _,Nat.le_refl _⟩⟩
 case round=>
  obtain ⟨k,W,hk,rfl,hR,hO⟩:=hrel;have HR:=qH1 hR;have HO:=qH1 hO;clear hR hO;rcases (show k=0\/k=1\/k=2\/k=3\/k=4\/k=5 from by omega) with e|e|e|e|e|e
  ·have hk5:k<5:=by omega
   have hix:=fun w=>zk8 s.ba s.bx s.b_y s.bs s.bp k e w
   have HE:=qH1 e;clear e hk;go_wp2_with (first|(go_at_call 84;refine (xy _ _ _ _ 2 _ _ HO.out (by rw [xx _ _ (by have:=HE.out;omega)];have:=HE.out;omega) a0 zza zza).mono ?_;rintro e w2 ⟨v2,rfl,O2⟩;rw [HE.out,zeL] at O2;have HO2:=Hid.mk' O2;clear O2 HO));go_roundw;case rel=>exact ⟨k+1,W,by have:=HE.out;omega,by go_num,HR.out,by rw [HE.out];exact HO2.out⟩
   case measure=>have:=HE.out;simp [intOf];omega
  ·have hk5:k<5:=by omega
   have hix:=fun w=>zk9 s.ba s.bx s.b_y s.bs s.bp k e w
   have HE:=qH1 e;clear e hk;go_wp2_with (first|(go_at_call 84;refine (xy _ _ _ _ 2 _ _ HO.out (by rw [xx _ _ (by have:=HE.out;omega)];have:=HE.out;omega) x0 zza zza).mono ?_;rintro e w2 ⟨v2,rfl,O2⟩;rw [HE.out,zeM] at O2;have HO2:=Hid.mk' O2;clear O2 HO));go_roundw;case rel=>exact ⟨k+1,W,by have:=HE.out;omega,by go_num,HR.out,by rw [HE.out];exact HO2.out⟩
   case measure=>have:=HE.out;simp [intOf];omega
  ·have hk5:k<5:=by omega
   have hix:=fun w=>zla s.ba s.bx s.b_y s.bs s.bp k e w
   have HE:=qH1 e;clear e hk;go_wp2_with (first|(go_at_call 84;refine (xy _ _ _ _ 2 _ _ HO.out (by rw [xx _ _ (by have:=HE.out;omega)];have:=HE.out;omega) y0 zza zza).mono ?_;rintro e w2 ⟨v2,rfl,O2⟩;rw [HE.out,zeN] at O2;have HO2:=Hid.mk' O2;clear O2 HO));go_roundw;case rel=>exact ⟨k+1,W,by have:=HE.out;omega,by go_num,HR.out,by rw [HE.out];exact HO2.out⟩
   case measure=>have:=HE.out;simp [intOf];omega
  ·have hk5:k<5:=by omega
   have hix:=fun w=>zlb s.ba s.bx s.b_y s.bs s.bp k e w
   have HE:=qH1 e;clear e hk;go_wp2_with (first|(go_at_call 84;refine (xy _ _ _ _ 2 _ _ HO.out (by rw [xx _ _ (by have:=HE.out;omega)];have:=HE.out;omega) s0 zza zza).mono ?_;rintro e w2 ⟨v2,rfl,O2⟩;rw [HE.out,zeO] at O2;have HO2:=Hid.mk' O2;clear O2 HO));go_roundw;case rel=>exact ⟨k+1,W,by have:=HE.out;omega,by go_num,HR.out,by rw [HE.out];exact HO2.out⟩
   case measure=>have:=HE.out;simp [intOf];omega
  ·have hk5:k<5:=by omega
   have hix:=fun w=>zlc s.ba s.bx s.b_y s.bs s.bp k e w
   have HE:=qH1 e;clear e hk;go_wp2_with (first|(go_at_call 84;refine (xy _ _ _ _ 2 _ _ HO.out (by rw [xx _ _ (by have:=HE.out;omega)];have:=HE.out;omega) p0 zza zza).mono ?_;rintro e w2 ⟨v2,rfl,O2⟩;rw [HE.out,zeP] at O2;have HO2:=Hid.mk' O2;clear O2 HO));go_roundw;case rel=>exact ⟨k+1,W,by have:=HE.out;omega,by go_num,HR.out,by rw [HE.out];exact HO2.out⟩
   case measure=>have:=HE.out;simp [intOf];omega
  ·have hki:(k:Int)=5:=by omega
   rw [e] at HO;clear e hk;have c5:=(HO.out.2.1.cell (p:=(Aq w1.heap.size 5)) (yc (by rw [HR.out.c5];simp))).trans HR.out.c5;have c6:=(HO.out.2.1.cell (p:=(Aq w1.heap.size 6)) (yc (by rw [HR.out.c6];simp))).trans HR.out.c6;go_wp2_with fail;refine (xy _ _ _ _ 4 _ _ HO.out (by rw [xx _ _ zza];omega) q0 zza zza).mono ?_;rintro e w2 ⟨v2,rfl,O2⟩;have c6:=(O2.2.1.cell (p:=(Aq w1.heap.size 6)) (yc (by rw [HR.out.c6];simp))).trans HR.out.c6;have HO2:=Hid.mk' O2;clear O2 HO c5;go_wp2_with fail;refine (xy _ _ _ _ 8 _ _ HO2.out (by rw [List.length_append,xx _ _ zza,yz];omega) hcy zza zza).mono ?_;rintro e w3 ⟨v3,rfl,O3⟩;obtain ⟨g,cap,rfl,o1,o2,o3⟩:=O3.form (by simp [xx,yz]);have hcv:=ji o1;have HF:Hid (Bq w w3):=HR.out.b.trans (o2.mono (HR.out.b.size));have HT:Hid (xd s 5++zX s.bpc.toNat 4++zX s.cyc.toNat 8=xF s):=rfl;rw [HT.out] at hcv;rw [HT.out];clear O3 o1 o2 o3 HO2;go_wp2;go_ret;exact ⟨rfl,HF.out⟩
end
section
theorem jt{w:World}{g:Nat}{l:List UInt8}(h:zy w g 0 l):∀j u,(zS l)[j]?=some u->w.cell? (((Aq g 0):Addr).add j)=some u:=by
 intro j u hu;unfold zS at hu;rw [List.getElem?_map] at hu;cases e:l[j]? with
 |none=>rw [e] at hu;cases hu
 |some c=>
  rw [e] at hu;obtain ⟨hj,ec⟩:=List.getElem?_eq_some_iff.1 e;have:=h j hj;rw [show ((Aq g 0):Addr).add j=(Aq g j) from by unfold Addr.add;split<;>simp_all];rw [Nat.zero_add] at this;rw [this,ec];simpa using hu
theorem zpU{p:Prop} (q:p:=by
 intro u hu;unfold zS at hu;obtain ⟨c, -,rfl⟩:=List.mem_map.1 hu;rfl):p:=q
theorem Zo(l:List UInt8):∀u∈zS l,u.oneCell'=true:=by
 exact zpU
theorem G.bel{w x y:World}{B:Nat}(h:w.grownBy x (some B))(b:Bq x y):w.grownBy y (some B):=
 ⟨b.os.trans h.os,b.tape.trans h.tape,b.output.trans h.output,Nat.le_trans h.size b.size,fun k hk hne=>(b.block k (Nat.lt_of_lt_of_le hk h.size)).trans (h.block k hk hne)⟩
theorem G.row{w x y:World}{B:Nat}{r:Option Nat}(h:w.grownBy x (some B))(b:x.grownBy y r)(hr:∀k,r=some k->w.heap.size<=k):w.grownBy y (some B):=
 ⟨b.os.trans h.os,b.tape.trans h.tape,b.output.trans h.output,Nat.le_trans h.size b.size,fun k hk hne=>(b.block k (Nat.lt_of_lt_of_le hk h.size) (fun e=>by have:=hr k e.symm;omega)).trans (h.block k hk hne)⟩
end
section
theorem CAt.scanned{w w':World}{B:Nat}{s:PC}(h:CAt w B s)(hk:∀o,o<65562->w'.cell? (Aq B o)=w.cell? (Aq B o))(hf:∀o,w'.frozen? (Aq B o)=false):CAt w' B {s with rest:=fun o=>w'.cell? (Aq B o) }:=
 {h with mem:=fun i hi=>(hk i zza).trans (h.mem i hi),crom:=(hk _ zzb).trans h.crom,ccnt:=(hk _ zzb).trans h.ccnt,ccalls:=(hk _ zzb).trans h.ccalls,ca:=(hk _ zzb).trans h.ca,cx:=(hk _ zzb).trans h.cx,cy:=(hk _ zzb).trans h.cy,cs:=(hk _ zzb).trans h.cs,cp:=(hk _ zzb).trans h.cp,cpc:=(hk _ zzb).trans h.cpc,cba:=(hk _ zzb).trans h.cba,cbx:=(hk _ zzb).trans h.cbx,cb_y:=(hk _ zzb).trans h.cb_y,cbs:=(hk _ zzb).trans h.cbs,cbp:=(hk _ zzb).trans h.cbp,cbpc:=(hk _ zzb).trans h.cbpc,cst:=(hk _ zzb).trans h.cst,cins:=(hk _ zzb).trans h.cins,cmd:=(hk _ zzb).trans h.cmd,cstep:=(hk _ zzb).trans h.cstep,cad:=(hk _ zzb).trans h.cad,chop:=(hk _ zzb).trans h.chop,cdata:=(hk _ zzb).trans h.cdata,ctaken:=(hk _ zzb).trans h.ctaken,cnmiOn:=(hk _ zzb).trans h.cnmiOn,cnmiDue:=(hk _ zzb).trans h.cnmiDue,ccyc:=(hk _ zzb).trans h.ccyc,free:=hf,crest:=fun _ _=>rfl}
end
section
theorem zeQ:zct zeroCells126.toList 65536=true:=by kernel_rfl
theorem zai:(zeroCells126.toList.drop 65536).take 26=zeJ:=by kernel_rfl
theorem UA{B:Nat}{s:PC}{w0 w:World}(h:Tn B s w0 w)(N:Nat)(hN:N<=B)(v:Value)(cs:List Chn)(rom:Int)(hc:CfAt N w v cs)(hv:yt rom cs=true)
  (hl:cs.length<=140737488355328) (hb:∀c∈cs,c.bs.length<=140737488355328):
  Cq 37 #[Pq B,.agg #[v,Iq rom]] w (Iq 0) fun w'=>Tn B (s.start rom cs) w0 w':=by
 have S:=fun o=>zeI (h.alloc o).drew N hN v cs rom ((hc.below ((Below.refl _ _).alloc (Nat.le_refl _) o)).below (qJ (Below.refl _ _))) hv hl hb
 obtain ⟨p,cap,rfl, -⟩:=hc;clear h;go_enter func37,ntmps37;go_wp2_with fail;go_region_with (first|(go_at_call 34;refine (S _).mono ?_;rintro e w2 ⟨rfl,T2⟩;have HT:=Hid.mk' T2;clear T2 S));all_goals go_wp2
 all_goals go_ret
 all_goals exact ⟨rfl,HT.out⟩
end
