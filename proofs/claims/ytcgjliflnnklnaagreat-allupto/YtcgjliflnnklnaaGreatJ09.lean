import Derived.Test.YtcgjliflnnklnaaGreatJ02
namespace Go.Proofs.YtcgjliflnnklnaaGreat
open Go.RowKit
def zd(m:Nat):BA:=match m with
 |2=>(b3 97 99 99)
 |3=>(b3 105 109 109)
 |4=>(b2 122 112)
 |5=>(b3 122 112 120)
 |6=>(b3 122 112 121)
 |7=>(b3 97 98 115)
 |8=>(b3 97 98 120)
 |9=>(b3 97 98 121)
 |10=>(b3 105 122 120)
 |11=>(b3 105 122 121)
 |12=>(b3 114 101 108)
 |13=>(b3 97 98 115)
 |14=>(b3 105 110 100)
 |15=>(b3 97 98 115)
 |20=>(b3 115 101 113)
 |21=>(b3 115 101 113)
 |_=>(b3 105 109 112)
def ya(i m:Nat):BA:=if m=20 then (b3 78 77 73) else if m=21 then (b3 73 82 81) else za i
def zE(i m:Nat):Bool:=(jG.any fun e=>e.2.1==i&&e.2.2==m)||(i==12&& (m==20||m==21))
theorem H0(b:Nat)(h:b<256):((zw b).2=0/\xc b=(⟨#[]⟩,⟨#[]⟩))\/((zw b).2≠0/\zE (zw b).1 (zw b).2=true/\xc b=(ya (zw b).1 (zw b).2,zd (zw b).2)/\(xc b).1≠ ⟨#[]⟩):=by
 have:∀n:Fin 256,((zw n.val).2=0/\xc (n.val:Nat)=(⟨#[]⟩,⟨#[]⟩))\/((zw n.val).2≠0/\zE (zw n.val).1 (zw n.val).2=true/\xc (n.val:Nat)=(ya (zw n.val).1 (zw n.val).2,zd (zw n.val).2)/\(xc (n.val:Nat)).1≠ ⟨#[]⟩):=by decide+kernel
 exact this ⟨b,h⟩
def Zm(op:BA):Bool:=decide (op=(b3 78 77 73))||decide (op=(b3 73 82 81))||decide (op=(b3 66 82 75))||decide (op=(b3 74 83 82))||decide (op=(b3 82 84 83))||decide (op=(b3 82 84 73))||decide (op=(b3 80 76 65))||decide (op=(b3 80 76 80))||decide (op=(b3 80 72 65))||decide (op=(b3 80 72 80))||decide (op=(b3 74 77 80))
def VI(k:Int):Int:=if k=1 then 119 else if k=2 then 99 else 114
theorem jU(i m:Nat)(hi:i<56)(h:zE i m=true)(h4:4<=m)(h11:m<=11):Zm (za i)=false/\qz (za i)=false/\zY (za i)=VI (yx i)/\(yx i=0->i∈[0,1,11,17,18,19,23,29,30,31,34,43])/\(yx i=2->i∈[2,20,24,32,39,40])/\(m=10->yx i≠2)/\(m=11->yx i≠2):=by
 have:∀i:Fin 56,∀m:Fin 12,zE i.val m.val=true->4<=m.val->
  Zm (za i.val)=false/\qz (za i.val)=false/\zY (za i.val)=VI (yx i.val)/\(yx i.val=0->i.val∈[0,1,11,17,18,19,23,29,30,31,34,43])/\(yx i.val=2->i.val∈[2,20,24,32,39,40])/\(m.val=10->yx i.val≠2)/\(m.val=11->yx i.val≠2):=by decide+kernel
 exact this ⟨i,hi⟩ ⟨m,by omega⟩ h h4
theorem VJ(op md:BA)(r:RG)(h:List Int)(hs:Zm op=false)(m1:md≠(b3 105 109 112))(m2:md≠(b3 97 99 99))(m3:md≠(b3 105 109 109))(m4:md≠(b3 114 101 108)):zo op md r h=(if (zj op md r h).2.2.2=false then ((zj op md r h).2.2.1,true) else yD op r h (zj op md r h).1 (zj op md r h).2.1):=by
 simp only [Zm,Bool.or_eq_false_iff,decide_eq_false_iff_not] at hs;obtain ⟨⟨⟨⟨⟨⟨⟨⟨⟨⟨s1,s2⟩,s3⟩,s4⟩,s5⟩,s6⟩,s7⟩,s8⟩,s9⟩,s10⟩,s11⟩:=hs;unfold zo;simp only [];rw [if_neg (by simp [s1,s2,s3]),if_neg s4,if_neg (by simp [s5,s6,s7,s8]),if_neg (by simp [s9]),if_neg (by simp [s10]),if_neg s11,if_neg (by simp [m1,m2,m3]),if_neg m4]
def PC.busOf(s:PC)(a:Act):PC × BusI:=if a.wr=true then s.write a.addr a.data else s.read a.addr
structure Outer (s t:PC):Prop where
 mem:s.mem=t.mem
 rom:s.rom=t.rom
 cnt:s.cnt=t.cnt
 calls:s.calls=t.calls
 on:s.nmiOn=t.nmiOn
 due:s.nmiDue=t.nmiDue
 cyc:s.cyc=t.cyc
structure Beh (s:PC) (r:RG):Prop where
 a:s.ba=r.A
 x:s.bx=r.X
 y:s.b_y=r.Y
 sp:s.bs=r.S
 p:s.bp=r.P
 pc:s.bpc=r.PC
structure Live (s:PC) (r:RG) (i m:Nat):Prop where
 a:s.a=r.A
 x:s.x=r.X
 y:s.y=r.Y
 p:s.p=r.P
 ins:s.ins=i
 md:s.md=m
structure Rg (r:RG):Prop where
 A:0<=r.A/\r.A<256
 X:0<=r.X/\r.X<256
 Y:0<=r.Y/\r.Y<256
 S:0<=r.S/\r.S<256
 P:0<=r.P/\r.P<256
 PC:0<=r.PC/\r.PC<65536
structure Fin_ (s:PC) (q:RG):Prop where
 st:s.st=0
 b:Beh s q
 a:s.a=q.A
 x:s.x=q.X
 y:s.y=q.Y
 sp:s.s=q.S
 p:s.p=q.P
 pc:s.pc=q.PC
def zT(s:PC):Prop:=(∀k,k<65536->0<=s.mem k/\s.mem k<256)/\0<=s.cnt/\s.cnt<256
theorem xu{s:PC}(h:zT s)(a:Int)(h2:a<65536):0<=s.look a/\s.look a<256:=by
 unfold PC.look;split
 ·exact h.2
 ·split
  ·split<;>decide
  ·exact h.1 _ zza
inductive Acc (s:PC) (k:Int) (h:List Int) (a:Int) (fr:Nat):Prop
 |due:h.length=fr->s.st=2->s.ad=a->Acc s k h a fr
 |was:k=2->h.length=fr+1->s.st=3->s.ad=a->s.data=hd h fr->Acc s k h a fr
 |new:k=2->h.length=fr+2->s.st=4->s.ad=a->s.data=hd h fr->Acc s k h a fr
theorem zdD(h:List Int)(d:Int)(k:Nat)(hk:k<h.length):hd (h++ [d]) k=hd h k:=by
 unfold hd;simp [List.getElem?_append_left hk]
theorem zdE(h:List Int)(d:Int):hd (h++ [d]) h.length=d:=by unfold hd;simp
theorem zpN{p:Prop} (q:p:=by
 by_cases e:h.length=fr
 ·rw [if_pos e,if_pos zza]
 ·rw [if_neg e,if_neg zza]):p:=q
theorem Ha(op:BA)(r:RG)(h:List Int)(a:Int)(fr:Nat)(hk:zY op=114):yD op r h a fr=if h.length=fr then rdR a else dnR:=by
 unfold yD;rw [if_pos hk];exact zpN
theorem zdF(s:PC)(r:RG)(i m:Nat)(op:BA)(a:Int)(irq:Bool)(hL:Live s r i m)(hS:s.s=r.S)(hR:Rg r)(hB:zT s)
  (ha:0<=a/\a<65536) (hst:s.st=2) (had:s.ad=a) (hk:yx i=0) (hop:op=za i) (hi:i∈[0,1,11,17,18,19,23,29,30,31,34,43]):
  (s.turn irq).2=(s.busOf (rdR a).1).2/\Outer (s.turn irq).1 (s.busOf (rdR a).1).1/\
  Fin_ (s.turn irq).1 (xA op {r with PC:=s.pc} (s.look a))/\(s.turn irq).1.ins=s.ins/\(s.turn irq).1.md=s.md:=by
 have hi0:yx s.ins=0:=by rw [hL.ins];exact hk
 have e:s.turn irq=((yg (s.read s.ad)).1.performLast,(yg (s.read s.ad)).2):=by
  unfold PC.turn PC.access;rw [if_neg (by rw [hst];decide),if_pos hst,if_neg (by rw [hi0];decide),if_neg (by rw [hi0];decide)]
 have hb:=xu hB a ha.2;have em:a%65536=a:=by omega
 have el:s.look a%256=s.look a:=by omega
 rw [e,had,hop];have hbus:s.busOf (rdR a).1=s.read a:=by unfold PC.busOf rdR;simp only [em];rfl
 rw [hbus];have ht:∃t:PC,(yg (s.read a)).1=t/\t.a=s.a/\t.x=s.x/\t.y=s.y/\t.s=s.s/\t.p=s.p/\t.pc=s.pc/\t.data=s.look a/\t.ins=s.ins/\t.md=s.md/\Outer t (s.read a).1:=by
  have q:(yg (s.read a)).1={s.read1 a with data:=s.look a}:=by
   show ({s.read1 a with data:=s.look a%256}:PC)=_;rw [el]
  refine ⟨_,q,?_⟩;show _/\_/\_/\_/\_/\_/\_/\_/\_/\Outer _ (s.read1 a);unfold PC.read1;split<;>exact ⟨rfl,rfl,rfl,rfl,rfl,rfl,rfl,rfl,rfl,⟨rfl,rfl,rfl,rfl,rfl,rfl,rfl⟩⟩
 obtain ⟨t,ht0,t1,t2,t3,t4,t5,t6,t7,t8,t9,tO⟩:=ht;have hw:t.Wf:=⟨by rw [t1,hL.a];exact hR.A,by rw [t2,hL.x];exact hR.X,by rw [t3,hL.y];exact hR.Y,by rw [t4,hS];exact hR.S,by rw [t5,hL.p];exact hR.P,by rw [t7];exact hb⟩;have hd:=KP t hw r.cyc r.jam i hi;have hrg:t.rg r.cyc r.jam={r with PC:=s.pc}:=by unfold PC.rg;rw [t1,t2,t3,t4,t5,t6,hL.a,hL.x,hL.y,hL.p,hS]
 rw [hrg,t7] at hd;have hp:t.performLast=(t.withR (xA (za i) {r with PC:=s.pc} (s.look a))).finish:=by
  unfold PC.performLast PC.perform;rw [t8,hL.ins];rw [show ((i:Int)).toNat=i from rfl,hd]
 refine ⟨rfl,?_,?_,?_,?_⟩
 ·simp only [ht0,hp];exact ⟨tO.mem,tO.rom,tO.cnt,tO.calls,tO.on,tO.due,tO.cyc⟩
 ·simp only [ht0,hp];exact ⟨rfl,⟨rfl,rfl,rfl,rfl,rfl,rfl⟩,rfl,rfl,rfl,rfl,rfl,rfl⟩
 ·simp only [ht0,hp];exact t8
 ·simp only [ht0,hp];exact t9
theorem vd(s t:PC)(a d:Int)(h:Outer s t):(s.write a d).2=(t.write a d).2/\Outer (s.write a d).1 (t.write a d).1:=by
 refine ⟨rfl,?_⟩;show Outer (s.write1 a d) (t.write1 a d);unfold PC.write1;by_cases c1:a=53248
 ·rw [if_pos c1,if_pos c1];exact ⟨h.mem,h.rom,rfl,h.calls,h.on,h.due,h.cyc⟩
 ·rw [if_neg c1,if_neg c1];by_cases c2:a≠53249/\a<t.rom
  ·rw [if_pos (by rw [h.rom];exact c2),if_pos c2];exact ⟨by show vH s.mem _ _=vH t.mem _ _;rw [h.mem],h.rom,h.cnt,h.calls,h.on,h.due,h.cyc⟩
  ·rw [if_neg (by rw [h.rom];exact c2),if_neg c2];exact h
theorem vP(s:PC)(a d:Int):∃u:PC,(s.write a d).1=u/\u.a=s.a/\u.x=s.x/\u.y=s.y/\u.s=s.s/\u.p=s.p/\u.pc=s.pc/\u.ba=s.ba/\u.bx=s.bx/\u.b_y=s.b_y/\u.bs=s.bs/\u.bp=s.bp/\u.bpc=s.bpc/\u.st=s.st/\u.ins=s.ins/\u.md=s.md/\u.step=s.step/\u.ad=s.ad/\u.data=s.data:=by
 refine ⟨_,rfl,?_⟩;show _/\_;unfold PC.write PC.write1;simp only [];split
 ·simp
 ·split<;>simp
theorem zbO(s:PC)(r:RG)(i m:Nat)(a v:Int)(irq:Bool)(hL:Live s r i m)(hS:s.s=r.S)
  (ha:0<=a/\a<65536) (hst:s.st=2) (had:s.ad=a) (hk:yx i=1) (hv:s.doIns i={s with data:=v}):
  (s.turn irq).2=(s.busOf (wrR a v).1).2/\Outer (s.turn irq).1 (s.busOf (wrR a v).1).1/\
  Fin_ (s.turn irq).1 {r with PC:=s.pc} /\(s.turn irq).1.ins=s.ins/\(s.turn irq).1.md=s.md:=by
 have hi0:yx s.ins=1:=by rw [hL.ins];exact hk
 have hp:s.performLast=({s with data:=v}:PC).finish:=by
  have hn:s.ins.toNat=i:=by rw [hL.ins];rfl
  unfold PC.performLast PC.perform;rw [hn,hv]
 have e:s.turn irq=(({s with data:=v}:PC).finish).write a v:=by
  unfold PC.turn PC.access;rw [if_neg (by rw [hst];decide),if_pos hst,if_pos hi0];show s.performLast.write s.performLast.ad s.performLast.data=_;rw [hp];show (({s with data:=v}:PC).finish).write s.ad v=_;rw [had]
 have em:a%65536=a:=by omega
 have hbus:s.busOf (wrR a v).1=s.write a v:=by unfold PC.busOf wrR;simp only [em];rfl
 obtain ⟨w1,w2⟩:=vd (({s with data:=v}:PC).finish) s a v ⟨rfl,rfl,rfl,rfl,rfl,rfl,rfl⟩;obtain ⟨u,hu,u1,u2,u3,u4,u5,u6,u7,u8,u9,u10,u11,u12,u13,u14,u15, -⟩:=vP (({s with data:=v}:PC).finish) a v;rw [e,hbus];refine ⟨w1,w2,?_,?_,?_⟩
 ·rw [hu];exact ⟨u13,⟨u7.trans hL.a,u8.trans hL.x,u9.trans hL.y,u10.trans hS,u11.trans hL.p,u12⟩,u1.trans hL.a,u2.trans hL.x,u3.trans hL.y,u4.trans hS,u5.trans hL.p,u6⟩
 ·rw [hu];exact u14
 ·rw [hu];exact u15
theorem zbP(s:PC)(r:RG)(i m:Nat)(a:Int)(irq:Bool)(hL:Live s r i m)(hB:zT s)
  (ha:0<=a/\a<65536) (hst:s.st=2) (had:s.ad=a) (hk:yx i=2):
  (s.turn irq).2=(s.busOf (rdR a).1).2/\Outer (s.turn irq).1 (s.busOf (rdR a).1).1/\Live (s.turn irq).1 r i m/\(s.turn irq).1.s=s.s/\(s.turn irq).1.pc=s.pc/\
  (s.turn irq).1.st=3/\(s.turn irq).1.ad=a/\(s.turn irq).1.data=s.look a/\(∀q,Beh s q->Beh (s.turn irq).1 q):=by
 have hi0:yx s.ins=2:=by rw [hL.ins];exact hk
 have hb:=xu hB a ha.2;have em:a%65536=a:=by omega
 have el:s.look a%256=s.look a:=by omega
 have e:s.turn irq=({({s with st:=3}:PC).read1 a with data:=s.look a},(s.read a).2):=by
  unfold PC.turn PC.access;rw [if_neg (by rw [hst];decide),if_pos hst,if_neg (by rw [hi0];decide),if_pos hi0];show (({({s with st:=3}:PC).read1 s.ad with data:=s.look s.ad%256}:PC),(s.read s.ad).2)=_;rw [had,el]
 have hbus:s.busOf (rdR a).1=s.read a:=by unfold PC.busOf rdR;simp only [em];rfl
 rw [e,hbus];refine ⟨rfl,?_⟩;show Outer _ (s.read1 a)/\_;unfold PC.read1;split;all_goals exact ⟨⟨rfl,rfl,rfl,rfl,rfl,rfl,rfl⟩,⟨hL.a,hL.x,hL.y,hL.p,hL.ins,hL.md⟩,rfl,rfl,rfl,had,rfl,fun q hq=>⟨hq.a,hq.x,hq.y,hq.sp,hq.p,hq.pc⟩⟩
theorem Hb(s:PC)(r:RG)(i m:Nat)(a:Int)(irq:Bool)(hL:Live s r i m)
  (ha:0<=a/\a<65536) (hst:s.st=3) (had:s.ad=a):
  (s.turn irq).2=(s.busOf (wrR a s.data).1).2/\Outer (s.turn irq).1 (s.busOf (wrR a s.data).1).1/\Live (s.turn irq).1 r i m/\(s.turn irq).1.s=s.s/\(s.turn irq).1.pc=s.pc/\
  (s.turn irq).1.st=4/\(s.turn irq).1.ad=a/\(s.turn irq).1.data=s.data/\(∀q,Beh s q->Beh (s.turn irq).1 q):=by
 have em:a%65536=a:=by omega
 have e:s.turn irq=({s with st:=4}:PC).write a s.data:=by
  unfold PC.turn PC.restore;rw [if_neg (by rw [hst];decide),if_neg (by rw [hst];decide),if_pos hst];show ({s with st:=4}:PC).write s.ad s.data=_;rw [had]
 have hbus:s.busOf (wrR a s.data).1=s.write a s.data:=by unfold PC.busOf wrR;simp only [em];rfl
 obtain ⟨w1,w2⟩:=vd ({s with st:=4}:PC) s a s.data ⟨rfl,rfl,rfl,rfl,rfl,rfl,rfl⟩;obtain ⟨u,hu,u1,u2,u3,u4,u5,u6,u7,u8,u9,u10,u11,u12,u13,u14,u15,u16,u17,u18⟩:=vP ({s with st:=4}:PC) a s.data;rw [e,hbus];refine ⟨w1,w2,?_⟩;rw [hu];exact ⟨⟨u1.trans hL.a,u2.trans hL.x,u3.trans hL.y,u5.trans hL.p,u14.trans hL.ins,u15.trans hL.md⟩,u4,u6,u13,u17.trans had,u18,fun q hq=>⟨u7.trans hq.a,u8.trans hq.x,u9.trans hq.y,u10.trans hq.sp,u11.trans hq.p,u12.trans hq.pc⟩⟩
theorem zbQ(s:PC)(r:RG)(i m:Nat)(a:Int)(irq:Bool)(hL:Live s r i m)(hS:s.s=r.S)(hR:Rg r)(hd:0<=s.data/\s.data<256)
  (ha:0<=a/\a<65536) (hst:s.st=4) (had:s.ad=a) (hi:i∈[2,20,24,32,39,40]):
  (s.turn irq).2=(s.busOf (wrR a (zF (za i) s.data r.P).1).1).2/\Outer (s.turn irq).1 (s.busOf (wrR a (zF (za i) s.data r.P).1).1).1/\
  Fin_ (s.turn irq).1 {r with PC:=s.pc,P:=(zF (za i) s.data r.P).2} /\(s.turn irq).1.ins=s.ins/\(s.turn irq).1.md=s.md:=by
 have hw:s.Wf:=⟨by rw [hL.a];exact hR.A,by rw [hL.x];exact hR.X,by rw [hL.y];exact hR.Y,by rw [hS];exact hR.S,by rw [hL.p];exact hR.P,hd⟩;have hc:=Ql s hw i hi;rw [hL.p] at hc;generalize (zF (za i) s.data r.P).1=v at*;generalize (zF (za i) s.data r.P).2=q at*;have hn:s.ins.toNat=i:=by rw [hL.ins];rfl
 have hp:s.performLast=({s with data:=v,p:=q}:PC).finish:=by unfold PC.performLast PC.perform;rw [hn,hc]
 have em:a%65536=a:=by omega
 have e:s.turn irq=(({s with data:=v,p:=q}:PC).finish).write a v:=by
  unfold PC.turn PC.change;rw [if_neg (by rw [hst];decide),if_neg (by rw [hst];decide),if_neg (by rw [hst];decide),if_pos hst];show s.performLast.write s.performLast.ad s.performLast.data=_;rw [hp];show (({s with data:=v,p:=q}:PC).finish).write s.ad v=_;rw [had]
 have hbus:s.busOf (wrR a v).1=s.write a v:=by unfold PC.busOf wrR;simp only [em];rfl
 obtain ⟨w1,w2⟩:=vd (({s with data:=v,p:=q}:PC).finish) s a v ⟨rfl,rfl,rfl,rfl,rfl,rfl,rfl⟩;obtain ⟨u,hu,u1,u2,u3,u4,u5,u6,u7,u8,u9,u10,u11,u12,u13,u14,u15, -⟩:=vP (({s with data:=v,p:=q}:PC).finish) a v;rw [e,hbus];refine ⟨w1,w2,?_,?_,?_⟩
 ·rw [hu];exact ⟨u13,⟨u7.trans hL.a,u8.trans hL.x,u9.trans hL.y,u10.trans hS,u11,u12⟩,u1.trans hL.a,u2.trans hL.x,u3.trans hL.y,u4.trans hS,u5,u6⟩
 ·rw [hu];exact u14
 ·rw [hu];exact u15
theorem jH(op md:BA)(r:RG)(h:List Int)(hf:qz op=false)(m1:md≠(b3 105 109 112))(m2:md≠(b3 97 99 99))(m4:md≠(b3 114 101 108)):zV op md r h=(if zY op=119 then {r with PC:=(r.PC+vg md)%65536} else if zY op=99 then {r with PC:=(r.PC+vg md)%65536,P:=(zF op (hd h (h.length-3)) r.P).2} else xA op {r with PC:=(r.PC+vg md)%65536} (hd h (h.length-1))):=by
 unfold zV;rw [if_neg (by rw [hf];decide)];have e0:(if md=(b3 114 101 108)/\yS op r.P=true then yv r (hd h 1) else (r.PC+vg md)%65536)=(r.PC+vg md)%65536:=if_neg (fun q=>m4 q.1);simp only [e0];rw [if_neg m1,if_neg m2];by_cases e:zY op=119
 ·rw [if_pos (.inr e),if_pos e]
 ·rw [if_neg (by intro q;rcases q with q|q;exact m4 q;exact e q),if_neg e]
def Good(M:PC->List Int->Prop)(s s':PC)(b:BusI)(r:RG)(i m:Nat)(op md:BA)(h:List Int):Prop:=
 b=(s.busOf (zo op md r h).1).2/\Outer s' (s.busOf (zo op md r h).1).1/\
 (((zo op md r (h++ [b.data])).2=true/\Live s' r i m/\(∀q,Beh s q->Beh s' q)/\M s' (h++ [b.data]))\/
  ((zo op md r (h++ [b.data])).2=false/\Fin_ s' (zV op md r (h++ [b.data]))))
theorem Y8{i:Nat}{op:BA}(h:zY op=VI (yx i))(hk:yx i=0):zY op=114:=by rw [h,hk];rfl
theorem Y9{i:Nat}{op:BA}(h:zY op=VI (yx i))(hk:yx i=1):zY op=119:=by rw [h,hk];rfl
theorem Xa{i:Nat}{op:BA}(h:zY op=VI (yx i))(hk:yx i=2):zY op=99:=by rw [h,hk];rfl
theorem zob(s:PC)(i m:Nat)(r:RG)(hL:Live s r i m)(hk:yx i=1)(hi:i<56):s.doIns i={s with data:=(if za i=(b3 83 84 65) then r.A else if za i=(b3 83 84 88) then r.X else r.Y)}:=by
 have:∀i:Fin 56,yx i.val=1->i.val=47\/i.val=48\/i.val=49:=by decide+kernel
 rcases this ⟨i,hi⟩ hk with e|e|e
 ·simp only at e;subst e;show ({s with data:=s.a}:PC)=_;rw [hL.a];rfl
 ·simp only at e;subst e;show ({s with data:=s.x}:PC)=_;rw [hL.x];rfl
 ·simp only at e;subst e;show ({s with data:=s.y}:PC)=_;rw [hL.y];rfl
theorem zaX(op:BA)(r:RG)(h:List Int)(a:Int)(fr:Nat)(hk:zY op=119):yD op r h a fr=if h.length=fr then wrR a (if op=(b3 83 84 65) then r.A else if op=(b3 83 84 88) then r.X else r.Y) else dnR:=by
 unfold yD;rw [if_neg (by rw [hk];decide),if_pos hk];exact zpN
theorem Z9(op:BA)(r:RG)(h:List Int)(a:Int)(fr:Nat)(hk:zY op=99):yD op r h a fr=if h.length=fr then rdR a else if h.length=fr+1 then wrR a (hd h fr) else if h.length=fr+2 then wrR a (zF op (hd h fr) r.P).1 else dnR:=by
 unfold yD;rw [if_neg (by rw [hk];decide),if_neg (by rw [hk];decide),Int.toNat_natCast];by_cases e:h.length=fr
 ·rw [if_pos e,if_pos zza]
 ·rw [if_neg e,if_neg zza];by_cases e2:h.length=fr+1
  ·rw [if_pos e2,if_pos zza]
  ·rw [if_neg e2,if_neg zza];by_cases e3:h.length=fr+2
   ·rw [if_pos e3,if_pos zza]
   ·rw [if_neg e3,if_neg zza]
theorem Xb(i:Nat):yx i=0\/yx i=1\/yx i=2:=by
 unfold yx;split
 ·exact .inr (.inl rfl)
 ·split
  ·exact .inr (.inr rfl)
  ·exact .inl rfl
theorem GT(M:PC->List Int->Prop)(s:PC)(r:RG)(i m:Nat)(op md:BA)(h:List Int)(a:Int)(fr:Nat)(irq:Bool)(hL:Live s r i m)(hS:s.s=r.S)(hR:Rg r)(hB:zT s)(hi:i<56)(hop:op=za i)
  (hs:Zm op=false) (hf:qz op=false) (hkd:zY op=VI (yx i)) (hir:yx i=0->i∈[0,1,11,17,18,19,23,29,30,31,34,43]) (hic:yx i=2->i∈[2,20,24,32,39,40])
  (m1:md≠(b3 105 109 112)) (m2:md≠(b3 97 99 99)) (m3:md≠(b3 105 109 109)) (m4:md≠(b3 114 101 108)) (ha:0<=a/\a<65536) (hpc:s.pc=(r.PC+vg md)%65536) (hH:∀k,0<=hd h k/\hd h k<256) (hfr:1<=fr)
  (hp:∀l:List Int,zj op md r (h++l)=(a,(fr:Int),Act.nil,true)) (hA:Acc s (yx i) h a fr)
  (hM:∀s' d,yx i=2->Acc s' 2 (h++ [d]) a fr->s'.s=r.S->s'.pc=s.pc->M s' (h++ [d])):Good M s (s.turn irq).1 (s.turn irq).2 r i m op md h:=by
 have hn:∀l:List Int,zo op md r (h++l)=yD op r (h++l) a (fr:Int):=by
  intro l;rw [VJ op md r (h++l) hs m1 m2 m3 m4,hp l];rfl
 have hn0:=hn [];rw [List.append_nil] at hn0;unfold Good;rw [hn0];have hlen:∀d:Int,(h++ [d]).length=h.length+1:=fun d=>by simp
 rcases Xb i with hk|hk|hk
 ·have k114:=Y8 hkd hk;cases hA with
  |due l st ad=>
   obtain ⟨g1,g2,g3, -, -⟩:=zdF s r i m op a irq hL hS hR hB ha st ad hk hop (hir hk);have u0:yD op r h a fr=rdR a:=by rw [Ha op r h a fr k114,if_pos l]
   rw [u0];refine ⟨g1,g2,.inr ⟨?_,?_⟩⟩
   ·rw [hn,Ha op r _ a fr k114,if_neg (by rw [hlen];omega)];rfl
   ·have em:a%65536=a:=by omega
    have hb:(s.turn irq).2.data=s.look a:=by rw [g1];unfold PC.busOf rdR;simp only [em];rfl
    rw [hb,jH op md r _ hf m1 m2 m4,if_neg (by rw [k114];decide),if_neg (by rw [k114];decide),hlen,Nat.add_sub_cancel,zdE];rw [hpc] at g3;exact g3
  |was e _ _ _ _=>rw [hk] at e;cases e
  |new e _ _ _ _=>rw [hk] at e;cases e
 ·have k119:=Y9 hkd hk;cases hA with
  |due l st ad=>
   have hv:=zob s i m r hL hk hi;rw [<-hop] at hv;obtain ⟨g1,g2,g3, -, -⟩:=zbO s r i m a _ irq hL hS ha st ad hk hv;have u0:yD op r h a fr=wrR a (if op=(b3 83 84 65) then r.A else if op=(b3 83 84 88) then r.X else r.Y):=by rw [zaX op r h a fr k119,if_pos l]
   rw [u0];refine ⟨g1,g2,.inr ⟨?_,?_⟩⟩
   ·rw [hn,zaX op r _ a fr k119,if_neg (by rw [hlen];omega)];rfl
   ·rw [jH op md r _ hf m1 m2 m4,if_pos k119];rw [hpc] at g3;exact g3
  |was e _ _ _ _=>rw [hk] at e;cases e
  |new e _ _ _ _=>rw [hk] at e;cases e
 ·have k99:=Xa hkd hk;have em:a%65536=a:=by omega
  cases hA with
  |due l st ad=>
   obtain ⟨g1,g2,g3,g4,g5,g6,g7,g8,g9⟩:=zbP s r i m a irq hL hB ha st ad hk;have u0:yD op r h a fr=rdR a:=by rw [Z9 op r h a fr k99,if_pos l]
   rw [u0];have hb:(s.turn irq).2.data=s.look a:=by rw [g1];unfold PC.busOf rdR;simp only [em];rfl
   refine ⟨g1,g2,.inl ⟨?_,g3,g9,?_⟩⟩
   ·rw [hn,Z9 op r _ a fr k99,if_neg (by rw [hlen];omega),if_pos (by rw [hlen];omega)];rfl
   ·refine hM _ _ hk ?_ (g4.trans hS) g5;exact .was rfl (by rw [hlen,l]) g6 g7 (by rw [g8,hb, <-l,zdE])
  |was e l st ad dt=>
   obtain ⟨g1,g2,g3,g4,g5,g6,g7,g8,g9⟩:=Hb s r i m a irq hL ha st ad;have u0:yD op r h a fr=wrR a s.data:=by rw [Z9 op r h a fr k99,if_neg zza,if_pos l,dt]
   rw [u0];refine ⟨g1,g2,.inl ⟨?_,g3,g9,?_⟩⟩
   ·rw [hn,Z9 op r _ a fr k99,if_neg (by rw [hlen];omega),if_neg (by rw [hlen];omega),if_pos (by rw [hlen];omega)];rfl
   ·refine hM _ _ hk ?_ (g4.trans hS) g5;exact .new rfl (by rw [hlen,l]) g6 g7 (by rw [g8,dt,zdD _ _ _ zza])
  |new e l st ad dt=>
   have hdr:0<=s.data/\s.data<256:=by rw [dt];exact hH fr
   obtain ⟨g1,g2,g3, -, -⟩:=zbQ s r i m a irq hL hS hR hdr ha st ad (hic hk);have u0:yD op r h a fr=wrR a (zF (za i) s.data r.P).1:=by rw [Z9 op r h a fr k99,if_neg zza,if_neg zza,if_pos l,dt,hop]
   rw [u0];refine ⟨g1,g2,.inr ⟨?_,?_⟩⟩
   ·rw [hn,Z9 op r _ a fr k99,if_neg (by rw [hlen];omega),if_neg (by rw [hlen];omega),if_neg (by rw [hlen];omega)];rfl
   ·rw [jH op md r _ hf m1 m2 m4,if_neg (by rw [k99];decide),if_pos k99,hlen,l,show fr+2+1-3=fr from by omega,zdD _ _ _ zza, <-dt,hop];rw [hpc] at g3;exact g3
theorem zu(s:PC)(irq:Bool)(m:Nat)(k:Int)(hst:s.st=1)(hmd:s.md=m)(hk:s.step=k):s.turn irq=({s with step:=IntKind.wrap .i64 (k+1)}:PC).doMode m:=by
 have hn:s.md.toNat=m:=by rw [hmd];rfl
 unfold PC.turn;rw [if_neg (by rw [hst];decide),if_neg (by rw [hst];decide),if_neg (by rw [hst];decide),if_neg (by rw [hst];decide)];simp only [hn,hk]
theorem w1:IntKind.wrap .i64 (0+1)=1:=by decide
theorem w2:IntKind.wrap .i64 (1+1)=2:=by decide
theorem w3:IntKind.wrap .i64 (2+1)=3:=by decide
theorem w4:IntKind.wrap .i64 (3+1)=4:=by decide
theorem w5:IntKind.wrap .i64 (4+1)=5:=by decide
theorem w6:IntKind.wrap .i64 (5+1)=6:=by decide
structure Gath (s s':PC) (b:BusI) (q:Int):Prop where
 bus:b=(s.read q).2
 out:Outer s' (s.read q).1
 a:s'.a=s.a
 x:s'.x=s.x
 y:s'.y=s.y
 sp:s'.s=s.s
 p:s'.p=s.p
 ins:s'.ins=s.ins
 md:s'.md=s.md
 ba:s'.ba=s.ba
 bx:s'.bx=s.bx
 b_y:s'.b_y=s.b_y
 bs:s'.bs=s.bs
 bp:s'.bp=s.bp
 bpc:s'.bpc=s.bpc
theorem Gath.live{s s':PC}{b:BusI}{q:Int}(h:Gath s s' b q){r:RG}{i m:Nat}(hL:Live s r i m):Live s' r i m:=
 ⟨h.a.trans hL.a,h.x.trans hL.x,h.y.trans hL.y,h.p.trans hL.p,h.ins.trans hL.ins,h.md.trans hL.md⟩
theorem Gath.beh{s s':PC}{b:BusI}{q:Int}(h:Gath s s' b q)(r:RG)(hb:Beh s r):Beh s' r:=
 ⟨h.ba.trans hb.a,h.bx.trans hb.x,h.b_y.trans hb.y,h.bs.trans hb.sp,h.bp.trans hb.p,h.bpc.trans hb.pc⟩
theorem yh(U s:PC)(a:Int)(h:Outer U s):Outer (U.read1 a) (s.read1 a):=by
 unfold PC.read1;by_cases e:a=53249
 ·rw [if_pos e,if_pos e];exact ⟨h.mem,h.rom,h.cnt,rfl,h.on,h.due,h.cyc⟩
 ·rw [if_neg e,if_neg e];exact h
structure Kept (U V:PC):Prop where
 a:V.a=U.a
 x:V.x=U.x
 y:V.y=U.y
 sp:V.s=U.s
 p:V.p=U.p
 pc:V.pc=U.pc
 ins:V.ins=U.ins
 md:V.md=U.md
 ba:V.ba=U.ba
 bx:V.bx=U.bx
 b_y:V.b_y=U.b_y
 bs:V.bs=U.bs
 bp:V.bp=U.bp
 bpc:V.bpc=U.bpc
 st:V.st=U.st
 step:V.step=U.step
 ad:V.ad=U.ad
 hop:V.hop=U.hop
 data:V.data=U.data
 taken:V.taken=U.taken
theorem zO(U:PC)(a:Int):Kept U (U.read1 a):=by
 unfold PC.read1;split<;>exact ⟨rfl,rfl,rfl,rfl,rfl,rfl,rfl,rfl,rfl,rfl,rfl,rfl,rfl,rfl,rfl,rfl,rfl,rfl,rfl,rfl⟩
theorem qu(s:PC)(k t a P A H D:Int):Gath s ({(({s with step:=k,st:=t}:PC).read1 a) with pc:=P,ad:=A,hop:=H,data:=D}:PC) (s.read a).2 a/\
  ({(({s with step:=k,st:=t}:PC).read1 a) with pc:=P,ad:=A,hop:=H,data:=D}:PC).st=t/\
  ({(({s with step:=k,st:=t}:PC).read1 a) with pc:=P,ad:=A,hop:=H,data:=D}:PC).step=k:=by
 have K:=zO ({s with step:=k,st:=t}:PC) a;have O:=yh ({s with step:=k,st:=t}:PC) s a ⟨rfl,rfl,rfl,rfl,rfl,rfl,rfl⟩;exact ⟨⟨rfl,⟨O.mem,O.rom,O.cnt,O.calls,O.on,O.due,O.cyc⟩,K.a,K.x,K.y,K.sp,K.p,K.ins,K.md,K.ba,K.bx,K.b_y,K.bs,K.bp,K.bpc⟩,K.st,K.step⟩
theorem znl{p:Prop} (q:p:=by
 refine ⟨g1,g2,g3,?_,?_⟩
 ·show zn (s.look s.pc%256) 0=_;unfold zn;omega
 ·show ((({s with step:=k,st:=t}:PC).read1 s.pc).pc+1)%65536=_;rw [K.pc]):p:=q
theorem za4(s:PC)(k t:Int)(hB:zT s)(hpc:0<=s.pc/\s.pc<65536):Gath s (zL ({s with step:=k,st:=t}:PC).readNext).1 (zL ({s with step:=k,st:=t}:PC).readNext).2 s.pc/\(zL ({s with step:=k,st:=t}:PC).readNext).1.st=t/\(zL ({s with step:=k,st:=t}:PC).readNext).1.step=k/\
  (zL ({s with step:=k,st:=t}:PC).readNext).1.ad=s.look s.pc/\(zL ({s with step:=k,st:=t}:PC).readNext).1.pc=(s.pc+1)%65536:=by
 have hb:=xu hB s.pc hpc.2;have K:=zO ({s with step:=k,st:=t}:PC) s.pc;obtain ⟨g1,g2,g3⟩:=qu s k t s.pc (((({s with step:=k,st:=t}:PC).read1 s.pc).pc+1)%65536) (zn (s.look s.pc%256) 0) (({s with step:=k,st:=t}:PC).read1 s.pc).hop (({s with step:=k,st:=t}:PC).read1 s.pc).data;exact znl
theorem G8(s:PC)(k t:Int)(hB:zT s)(hpc:0<=s.pc/\s.pc<65536)(had:0<=s.ad/\s.ad<256):Gath s (zA ({s with step:=k,st:=t}:PC).readNext).1 (zA ({s with step:=k,st:=t}:PC).readNext).2 s.pc/\(zA ({s with step:=k,st:=t}:PC).readNext).1.st=t/\(zA ({s with step:=k,st:=t}:PC).readNext).1.step=k/\
  (zA ({s with step:=k,st:=t}:PC).readNext).1.ad=s.ad+256*s.look s.pc/\(zA ({s with step:=k,st:=t}:PC).readNext).1.pc=(s.pc+1)%65536:=by
 have hb:=xu hB s.pc hpc.2;have K:=zO ({s with step:=k,st:=t}:PC) s.pc;obtain ⟨g1,g2,g3⟩:=qu s k t s.pc (((({s with step:=k,st:=t}:PC).read1 s.pc).pc+1)%65536) (zn (loI (({s with step:=k,st:=t}:PC).read1 s.pc).ad) (s.look s.pc%256)) (({s with step:=k,st:=t}:PC).read1 s.pc).hop (({s with step:=k,st:=t}:PC).read1 s.pc).data;refine ⟨g1,g2,g3,?_,?_⟩
 ·show zn (loI (({s with step:=k,st:=t}:PC).read1 s.pc).ad) (s.look s.pc%256)=_;rw [K.ad];unfold zn loI;show s.look s.pc%256*256+s.ad%256=_;omega
 ·show ((({s with step:=k,st:=t}:PC).read1 s.pc).pc+1)%65536=_;rw [K.pc]
theorem zl9(s:PC)(k t:Int)(hB:zT s)(hpc:0<=s.pc/\s.pc<65536):Gath s (xn ({s with step:=k,st:=t}:PC).readNext).1 (xn ({s with step:=k,st:=t}:PC).readNext).2 s.pc/\(xn ({s with step:=k,st:=t}:PC).readNext).1.st=t/\(xn ({s with step:=k,st:=t}:PC).readNext).1.step=k/\
  (xn ({s with step:=k,st:=t}:PC).readNext).1.hop=s.look s.pc/\(xn ({s with step:=k,st:=t}:PC).readNext).1.pc=(s.pc+1)%65536:=by
 have hb:=xu hB s.pc hpc.2;have K:=zO ({s with step:=k,st:=t}:PC) s.pc;obtain ⟨g1,g2,g3⟩:=qu s k t s.pc (((({s with step:=k,st:=t}:PC).read1 s.pc).pc+1)%65536) (({s with step:=k,st:=t}:PC).read1 s.pc).ad (zn (s.look s.pc%256) 0) (({s with step:=k,st:=t}:PC).read1 s.pc).data;exact znl
theorem len2(b0 b1:Int)(l:List Int):((b0::b1::l).length:Int)=2+l.length:=by simp;omega
theorem zfA(b0 b1 b2:Int)(l:List Int):((b0::b1::b2::l).length:Int)=3+l.length:=by simp;omega
theorem qc(op md:BA)(r:RG)(b0:Int):zj op md r [b0]=(0,0,(rdR (r.PC+1+1-1)).1,false):=by
 unfold zj;simp only [];rw [if_pos zzc];rfl
theorem zfB(op:BA)(r:RG)(b0 b1:Int)(l:List Int):zj op (b2 122 112) r (b0::b1::l)=(b1,2,Act.nil,true):=by
 unfold zj;simp only [];rw [len2,if_neg (by intro q;rcases q with q|⟨_,q|q|q⟩;omega;exact absurd q zzb;exact absurd q zzb;exact absurd q zzb),if_pos zzc];rfl
theorem zcS(op:BA)(r:RG)(b0 b1 c:Int)(l:List Int):zj op (b3 122 112 120) r (b0::b1::c::l)=((b1+r.X)%256,3,Act.nil,true):=by
 unfold zj;simp only [];rw [zfA,if_neg (by intro q;rcases q with q|⟨q,_⟩ <;>omega),if_neg zzb,if_pos zzc,if_neg zza,if_neg zzb];rfl
theorem zaB(op:BA)(r:RG)(b0 b1:Int):zj op (b3 122 112 120) r [b0,b1]=(0,0,⟨b1,false,0,false⟩,false):=rfl
theorem zcT(op:BA)(r:RG)(b0 b1 c:Int)(l:List Int):zj op (b3 122 112 121) r (b0::b1::c::l)=((b1+r.Y)%256,3,Act.nil,true):=by
 unfold zj;simp only [];rw [zfA,if_neg (by intro q;rcases q with q|⟨q,_⟩ <;>omega),if_neg zzb,if_pos zzc,if_neg zza,if_pos zzc];rfl
theorem zaC(op:BA)(r:RG)(b0 b1:Int):zj op (b3 122 112 121) r [b0,b1]=(0,0,⟨b1,false,0,false⟩,false):=rfl
theorem zcU(op:BA)(r:RG)(b0 b1 c:Int)(l:List Int):zj op (b3 97 98 115) r (b0::b1::c::l)=(b1+256*c,3,Act.nil,true):=by
 unfold zj;simp only [];rw [zfA,if_neg (by intro q;rcases q with q|⟨q,_⟩ <;>omega),if_neg zzb,if_neg zzb,if_pos zzc];rfl
theorem zaD(op:BA)(r:RG)(b0 b1:Int):zj op (b3 97 98 115) r [b0,b1]=(0,0,(rdR (r.PC+1+2-1)).1,false):=rfl
theorem zaE(op:BA)(r:RG)(b0 b1:Int):zj op (b3 97 98 120) r [b0,b1]=(0,0,(rdR (r.PC+1+2-1)).1,false):=rfl
theorem zaF(op:BA)(r:RG)(b0 b1:Int):zj op (b3 97 98 121) r [b0,b1]=(0,0,(rdR (r.PC+1+2-1)).1,false):=rfl
theorem QS(op:BA)(r:RG)(h:List Int)(a:Int)(fr:Nat)(i:Nat)(hk:zY op=VI (yx i))(hl:h.length=fr):(yD op r h a fr).2=true:=by
 rcases Xb i with e|e|e
 ·rw [Ha op r h a fr (Y8 hk e),if_pos hl];rfl
 ·rw [zaX op r h a fr (Y9 hk e),if_pos hl];rfl
 ·rw [Z9 op r h a fr (Xa hk e),if_pos hl];rfl
inductive Mid (s:PC) (r:RG) (i:Nat):Nat->List Int->Prop
 |one {m:Nat} {b0:Int}:m≠20->m≠21->s.st=1->s.step=0->s.s=r.S->s.pc=(r.PC+1)%65536->Mid s r i m [b0]
 |acc {m:Nat} {h:List Int} (a:Int) (fr:Nat):4<=m->m<=11->1<=fr->(∀l,zj (za i) (zd m) r (h++l)=(a,(fr:Int),Act.nil,true))->Acc s (yx i) h a fr->(0<=a/\a<65536)->
   s.s=r.S->s.pc=(r.PC+vg (zd m))%65536->Mid s r i m h
 |low {m:Nat} {b0 b1:Int}:m∈[5,6,7,8,9] ->s.st=1->s.step=1->s.ad=b1->s.s=r.S->s.pc=(r.PC+2)%65536->Mid s r i m [b0,b1]
 |abs3 {m:Nat} {b0 b1 c:Int}:m∈[8,9] ->s.st=1->s.step=2->s.ad=b1+256*c->s.s=r.S->s.pc=(r.PC+3)%65536->Mid s r i m [b0,b1,c]
 |hop2 {m:Nat} {b0 b1:Int}:m∈[10,11] ->s.st=1->s.step=1->s.hop=b1->s.s=r.S->s.pc=(r.PC+2)%65536->Mid s r i m [b0,b1]
 |izx3 {b0 b1 c:Int}:s.st=1->s.step=2->s.hop=(b1+r.X)%256->s.s=r.S->s.pc=(r.PC+2)%65536->Mid s r i 10 [b0,b1,c]
 |izx4 {b0 b1 c e:Int}:s.st=1->s.step=3->s.hop=(b1+r.X)%256->s.ad=e->s.s=r.S->s.pc=(r.PC+2)%65536->Mid s r i 10 [b0,b1,c,e]
 |izy3 {b0 b1 c:Int}:s.st=1->s.step=2->s.hop=b1->s.ad=c->s.s=r.S->s.pc=(r.PC+2)%65536->Mid s r i 11 [b0,b1,c]
 |izy4 {b0 b1 c e:Int}:s.st=1->s.step=3->s.ad=c+256*e->s.s=r.S->s.pc=(r.PC+2)%65536->Mid s r i 11 [b0,b1,c,e]
theorem UL{m:Nat}(h4:4<=m)(h11:m<=11):zd m≠(b3 105 109 112)/\zd m≠(b3 97 99 99)/\zd m≠(b3 105 109 109)/\zd m≠(b3 114 101 108):=by
 have:∀m:Fin 12,4<=m.val->zd m.val≠(b3 105 109 112)/\zd m.val≠(b3 97 99 99)/\zd m.val≠(b3 105 109 109)/\zd m.val≠(b3 114 101 108):=by decide+kernel
 exact this ⟨m,by omega⟩ h4
theorem zmd{p:Prop} (q:p:=by
 obtain ⟨hs, -⟩:=jU i m hi hok h4 h11;obtain ⟨n1,n2,n3,n4⟩:=UL h4 h11;rw [VJ _ _ r h hs n1 n2 n3 n4,hp];rfl):p:=q
theorem jZ(i m:Nat)(r:RG)(h:List Int)(hi:i<56)(hok:zE i m=true)(h4:4<=m)(h11:m<=11)(act:Act)(hp:zj (za i) (zd m) r h=(0,0,act,false)):zo (za i) (zd m) r h=(act,true):=by
 exact zmd
theorem Qz(i m:Nat)(r:RG)(h:List Int)(hi:i<56)(hok:zE i m=true)(h4:4<=m)(h11:m<=11)(a:Int)(fr:Nat)(hp:zj (za i) (zd m) r h=(a,(fr:Int),Act.nil,true)):zo (za i) (zd m) r h=yD (za i) r h a fr:=by
 exact zmd
theorem ys(s:PC)(q:Int)(x:Int)(hx:x%65536=q):s.busOf (rdR x).1=s.read q:=by
 unfold PC.busOf rdR;simp only [hx];rfl
theorem zfa(s:PC)(q:Int):s.busOf ⟨q,false,0,false⟩=s.read q:=rfl
theorem j8(s s':PC)(b:BusI)(r:RG)(i m:Nat)(h:List Int)(q:Int)(a:Int)(fr:Nat)(hL:Live s r i m)(hi:i<56)(hok:zE i m=true)(h4:4<=m)(h11:m<=11)
  (g:Gath s s' b q) (act:Act) (hp0:zj (za i) (zd m) r h=(0,0,act,false)) (hact:s.busOf act=s.read q)
  (hlen:(h++ [b.data]).length=fr) (hfr:1<=fr) (hp:∀l,zj (za i) (zd m) r ((h++ [b.data])++l)=(a,(fr:Int),Act.nil,true)) (hst:s'.st=2) (had:s'.ad=a) (ha:0<=a/\a<65536)
  (hS:s'.s=r.S) (hpc:s'.pc=(r.PC+vg (zd m))%65536):Good (fun s h=>Mid s r i m h) s s' b r i m (za i) (zd m) h:=by
 have hn:=jZ i m r h hi hok h4 h11 act hp0;have hp1:=hp [];rw [List.append_nil] at hp1;have hu:=Qz i m r (h++ [b.data]) hi hok h4 h11 a fr hp1;obtain ⟨-, -,hkd, -⟩:=jU i m hi hok h4 h11;unfold Good;rw [hn,hact,hu];exact ⟨g.bus,g.out,.inl ⟨QS _ r _ a fr i hkd hlen,g.live hL,fun q hq=>g.beh q hq,.acc a fr h4 h11 hfr hp (.due hlen hst had) ha hS hpc⟩⟩
theorem zlj(s:PC)(r:RG)(i:Nat)(b0:Int)(irq:Bool)(hL:Live s r i 4)(hR:Rg r)(hB:zT s)(hi:i<56)(hok:zE i 4=true)(hst:s.st=1)(hstep:s.step=0)(hS:s.s=r.S)(hpc:s.pc=(r.PC+1)%65536):Good (fun s h=>Mid s r i 4 h) s (s.turn irq).1 (s.turn irq).2 r i 4 (za i) (zd 4) [b0]:=by
 have hp:0<=s.pc/\s.pc<65536:=by rw [hpc];omega
 obtain ⟨g1,g2,g3,g4,g5⟩:=za4 s 1 2 hB hp;have e:s.turn irq=zL ({s with step:=1,st:=2}:PC).readNext:=by rw [zu s irq 4 0 hst hL.md hstep,w1];rfl
 rw [e];have hd:(zL ({s with step:=1,st:=2}:PC).readNext).2.data=s.look s.pc:=rfl;have hb:=xu hB s.pc hp.2;refine j8 s _ _ r i 4 [b0] s.pc (s.look s.pc) 2 hL hi hok zza zza g1 _ (qc _ _ r b0) (ys s s.pc _ (by rw [hpc];omega)) rfl zza ?_ g2 g4 zza (g1.sp.trans hS) ?_
 ·intro l;exact zfB _ r b0 _ l
 ·rw [g5,hpc];show _=(r.PC+2)%65536;have:=hR.PC;omega
theorem jj(s s':PC)(b:BusI)(r:RG)(i m:Nat)(h:List Int)(q:Int)(hL:Live s r i m)(hi:i<56)(hok:zE i m=true)(h4:4<=m)(h11:m<=11)
  (g:Gath s s' b q) (act act2:Act) (hp0:zj (za i) (zd m) r h=(0,0,act,false)) (hact:s.busOf act=s.read q)
  (hp:zj (za i) (zd m) r (h++ [b.data])=(0,0,act2,false)) (hM:Mid s' r i m (h++ [b.data])):Good (fun s h=>Mid s r i m h) s s' b r i m (za i) (zd m) h:=by
 unfold Good;rw [jZ i m r h hi hok h4 h11 act hp0,hact,jZ i m r _ hi hok h4 h11 act2 hp];exact ⟨g.bus,g.out,.inl ⟨rfl,g.live hL,fun q hq=>g.beh q hq,hM⟩⟩
theorem yZ(s:PC)(k:Int)(hst:s.st=1):({s with step:=k}:PC)={s with step:=k,st:=1}:=by
 cases s;simp only at hst;subst hst;rfl
theorem zfb(T:PC)(m:Nat)(hm:m∈[5,6,7,8,9])(h:T.step=1):T.doMode m=zL T.readNext:=by
 simp only [List.mem_cons,List.not_mem_nil,or_false] at hm;rcases hm with rfl|rfl|rfl|rfl|rfl
 ·show T.zeroPageBy T.x=_;unfold PC.zeroPageBy;rw [if_pos h]
 ·show T.zeroPageBy T.y=_;unfold PC.zeroPageBy;rw [if_pos h]
 ·show T.absolute=_;unfold PC.absolute;rw [if_pos h]
 ·show T.absoluteBy T.x=_;unfold PC.absoluteBy;rw [if_pos h]
 ·show T.absoluteBy T.y=_;unfold PC.absoluteBy;rw [if_pos h]
theorem zcD(op:BA)(r:RG)(m:Nat)(hm:m∈[5,6,7,8,9])(b0 b1:Int):zj op (zd m) r [b0,b1]=(0,0,if m∈[5,6] then ⟨b1,false,0,false⟩ else (rdR (r.PC+1+2-1)).1,false):=by
 simp only [List.mem_cons,List.not_mem_nil,or_false] at hm;rcases hm with rfl|rfl|rfl|rfl|rfl<;>rfl
theorem zh6(s:PC)(r:RG)(i m:Nat)(b0:Int)(irq:Bool)(hm:m∈[5,6,7,8,9])(hL:Live s r i m)(hR:Rg r)(hB:zT s)(hi:i<56)(hok:zE i m=true)(hst:s.st=1)(hstep:s.step=0)(hS:s.s=r.S)(hpc:s.pc=(r.PC+1)%65536):Good (fun s h=>Mid s r i m h) s (s.turn irq).1 (s.turn irq).2 r i m (za i) (zd m) [b0]:=by
 have hp:0<=s.pc/\s.pc<65536:=by rw [hpc];omega
 have hb4:4<=m/\m<=11:=by simp only [List.mem_cons,List.not_mem_nil,or_false] at hm;omega
 obtain ⟨g1,g2,g3,g4,g5⟩:=za4 s 1 1 hB hp;have e:s.turn irq=zL ({s with step:=1,st:=1}:PC).readNext:=by rw [zu s irq m 0 hst hL.md hstep,w1,yZ s 1 hst,zfb _ m hm rfl]
 rw [e];refine jj s _ _ r i m [b0] s.pc hL hi hok hb4.1 hb4.2 g1 _ _ (qc _ _ r b0) (ys s s.pc _ (by rw [hpc];omega)) (zcD _ r m hm b0 _) ?_;refine .low hm g2 g3 g4 (g1.sp.trans hS) ?_;rw [g5,hpc];have:=hR.PC;omega
theorem zh7(s:PC)(r:RG)(i:Nat)(b0 b1:Int)(irq:Bool)(hL:Live s r i 7)(hR:Rg r)(hB:zT s)(hi:i<56)(hok:zE i 7=true)(hb1:0<=b1/\b1<256)(hst:s.st=1)(hstep:s.step=1)(had:s.ad=b1)(hS:s.s=r.S)(hpc:s.pc=(r.PC+2)%65536):Good (fun s h=>Mid s r i 7 h) s (s.turn irq).1 (s.turn irq).2 r i 7 (za i) (zd 7) [b0,b1]:=by
 have hp:0<=s.pc/\s.pc<65536:=by rw [hpc];omega
 obtain ⟨g1,g2,g3,g4,g5⟩:=G8 s 2 2 hB hp (by rw [had];exact hb1);have e:s.turn irq=zA ({s with step:=2,st:=2}:PC).readNext:=by rw [zu s irq 7 1 hst hL.md hstep,w2];rfl
 rw [e];have hb:=xu hB s.pc hp.2;refine j8 s _ _ r i 7 [b0,b1] s.pc (b1+256*s.look s.pc) 3 hL hi hok zza zza g1 _ (zaD _ r b0 b1) (ys s s.pc _ (by rw [hpc];omega)) rfl zza ?_ g2 (by rw [g4,had]) zza (g1.sp.trans hS) ?_
 ·intro l;exact zcU _ r b0 b1 _ l
 ·rw [g5,hpc];show _=(r.PC+3)%65536;have:=hR.PC;omega
theorem zfS(s:PC)(k a A:Int):Gath s ({(({s with step:=k}:PC).read1 a) with ad:=A,st:=2}:PC) (s.read a).2 a/\({(({s with step:=k}:PC).read1 a) with ad:=A,st:=2}:PC).pc=s.pc:=by
 have K:=zO ({s with step:=k}:PC) a;have O:=yh ({s with step:=k}:PC) s a ⟨rfl,rfl,rfl,rfl,rfl,rfl,rfl⟩;exact ⟨⟨rfl,⟨O.mem,O.rom,O.cnt,O.calls,O.on,O.due,O.cyc⟩,K.a,K.x,K.y,K.sp,K.p,K.ins,K.md,K.ba,K.bx,K.b_y,K.bs,K.bp,K.bpc⟩,K.pc⟩
theorem zjb(s:PC)(k a H:Int):Gath s ({(({s with step:=k}:PC).read1 a) with hop:=H}:PC) (s.read a).2 a/\({(({s with step:=k}:PC).read1 a) with hop:=H}:PC).pc=s.pc/\({(({s with step:=k}:PC).read1 a) with hop:=H}:PC).st=s.st/\({(({s with step:=k}:PC).read1 a) with hop:=H}:PC).step=k:=by
 have K:=zO ({s with step:=k}:PC) a;have O:=yh ({s with step:=k}:PC) s a ⟨rfl,rfl,rfl,rfl,rfl,rfl,rfl⟩;exact ⟨⟨rfl,⟨O.mem,O.rom,O.cnt,O.calls,O.on,O.due,O.cyc⟩,K.a,K.x,K.y,K.sp,K.p,K.ins,K.md,K.ba,K.bx,K.b_y,K.bs,K.bp,K.bpc⟩,K.pc,K.st,K.step⟩
theorem qh(b x:Int)(h:0<=b/\b<256):zC b x=(b+x)%256:=by unfold zC zn loI hiI;omega
theorem zjc(s:PC)(r:RG)(i:Nat)(b0 b1:Int)(irq:Bool)(hL:Live s r i 5)(hi:i<56)(hok:zE i 5=true)(hb1:0<=b1/\b1<256)(hst:s.st=1)(hstep:s.step=1)(had:s.ad=b1)(hS:s.s=r.S)(hpc:s.pc=(r.PC+2)%65536):Good (fun s h=>Mid s r i 5 h) s (s.turn irq).1 (s.turn irq).2 r i 5 (za i) (zd 5) [b0,b1]:=by
 subst had;have K:=zO ({s with step:=2}:PC) s.ad;have e:s.turn irq=({(({s with step:=2}:PC).read1 s.ad) with ad:=(s.ad+r.X)%256,st:=2},(s.read s.ad).2):=by
  rw [zu s irq 5 1 hst hL.md hstep,w2];show ({(({s with step:=2}:PC).read1 s.ad) with ad:=zC (({s with step:=2}:PC).read1 s.ad).ad s.x,st:=2},(s.read s.ad).2)=_;rw [K.ad];show ({(({s with step:=2}:PC).read1 s.ad) with ad:=zC s.ad s.x,st:=2},(s.read s.ad).2)=_;rw [qh s.ad s.x hb1,hL.x]
 obtain ⟨g1,g2⟩:=zfS s 2 s.ad ((s.ad+r.X)%256);rw [e];refine j8 s _ _ r i 5 [b0,s.ad] s.ad ((s.ad+r.X)%256) 3 hL hi hok zza zza g1 _ (zaB _ r b0 s.ad) (zfa s s.ad) rfl zza ?_ rfl rfl zza (g1.sp.trans hS) ?_
 ·intro l;exact zcS _ r b0 s.ad _ l
 ·rw [g2,hpc];rfl
theorem zjd(s:PC)(r:RG)(i:Nat)(b0 b1:Int)(irq:Bool)(hL:Live s r i 6)(hi:i<56)(hok:zE i 6=true)(hb1:0<=b1/\b1<256)(hst:s.st=1)(hstep:s.step=1)(had:s.ad=b1)(hS:s.s=r.S)(hpc:s.pc=(r.PC+2)%65536):Good (fun s h=>Mid s r i 6 h) s (s.turn irq).1 (s.turn irq).2 r i 6 (za i) (zd 6) [b0,b1]:=by
 subst had;have K:=zO ({s with step:=2}:PC) s.ad;have e:s.turn irq=({(({s with step:=2}:PC).read1 s.ad) with ad:=(s.ad+r.Y)%256,st:=2},(s.read s.ad).2):=by
  rw [zu s irq 6 1 hst hL.md hstep,w2];show ({(({s with step:=2}:PC).read1 s.ad) with ad:=zC (({s with step:=2}:PC).read1 s.ad).ad s.y,st:=2},(s.read s.ad).2)=_;rw [K.ad];show ({(({s with step:=2}:PC).read1 s.ad) with ad:=zC s.ad s.y,st:=2},(s.read s.ad).2)=_;rw [qh s.ad s.y hb1,hL.y]
 obtain ⟨g1,g2⟩:=zfS s 2 s.ad ((s.ad+r.Y)%256);rw [e];refine j8 s _ _ r i 6 [b0,s.ad] s.ad ((s.ad+r.Y)%256) 3 hL hi hok zza zza g1 _ (zaC _ r b0 s.ad) (zfa s s.ad) rfl zza ?_ rfl rfl zza (g1.sp.trans hS) ?_
 ·intro l;exact zcT _ r b0 s.ad _ l
 ·rw [g2,hpc];rfl
theorem ZI(op:BA)(r:RG)(b0 b1:Int):zj op (b3 105 122 120) r [b0,b1]=(0,0,⟨b1%256,false,0,false⟩,false)/\zj op (b3 105 122 121) r [b0,b1]=(0,0,⟨(b1+2-2)%256,false,0,false⟩,false):=⟨rfl,rfl⟩
theorem Jl(op:BA)(r:RG)(b0 b1 c:Int):zj op (b3 105 122 120) r [b0,b1,c]=(0,0,⟨(b1+r.X)%256,false,0,false⟩,false):=rfl
theorem Jm(op:BA)(r:RG)(b0 b1 c d:Int):zj op (b3 105 122 120) r [b0,b1,c,d]=(0,0,⟨(b1+r.X+1)%256,false,0,false⟩,false):=rfl
theorem zc5(op:BA)(r:RG)(b0 b1 c d e:Int)(l:List Int):zj op (b3 105 122 120) r (b0::b1::c::d::e::l)=(d+256*e,5,Act.nil,true):=by
 have hl:((b0::b1::c::d::e::l).length:Int)=5+l.length:=by simp;omega
 unfold zj;simp only [];rw [hl,if_neg (by intro q;rcases q with q|⟨q,_⟩ <;>omega),if_neg zzb,if_neg zzb,if_neg zzb,if_neg zzb,if_pos zzc,if_neg zza];rfl
theorem zje(s:PC)(r:RG)(i m:Nat)(b0:Int)(irq:Bool)(hm:m∈[10,11])(hL:Live s r i m)(hR:Rg r)(hB:zT s)(hi:i<56)(hok:zE i m=true)(hst:s.st=1)(hstep:s.step=0)(hS:s.s=r.S)(hpc:s.pc=(r.PC+1)%65536):Good (fun s h=>Mid s r i m h) s (s.turn irq).1 (s.turn irq).2 r i m (za i) (zd m) [b0]:=by
 have hp:0<=s.pc/\s.pc<65536:=by rw [hpc];omega
 obtain ⟨g1,g2,g3,g4,g5⟩:=zl9 s 1 1 hB hp;have hpc2:(xn ({s with step:=1,st:=1}:PC).readNext).1.pc=(r.PC+2)%65536:=by rw [g5,hpc];have:=hR.PC;omega
 have hm':=hm;simp only [List.mem_cons,List.not_mem_nil,or_false] at hm;rcases hm with rfl|rfl
 ·have e:s.turn irq=xn ({s with step:=1,st:=1}:PC).readNext:=by rw [zu s irq 10 0 hst hL.md hstep,w1,yZ s 1 hst];rfl
  rw [e];exact jj s _ _ r i 10 [b0] s.pc hL hi hok zza zza g1 _ _ (qc _ _ r b0) (ys s s.pc _ (by rw [hpc];omega)) (ZI _ r b0 _).1 (.hop2 hm' g2 g3 g4 (g1.sp.trans hS) hpc2)
 ·have e:s.turn irq=xn ({s with step:=1,st:=1}:PC).readNext:=by rw [zu s irq 11 0 hst hL.md hstep,w1,yZ s 1 hst];rfl
  rw [e];exact jj s _ _ r i 11 [b0] s.pc hL hi hok zza zza g1 _ _ (qc _ _ r b0) (ys s s.pc _ (by rw [hpc];omega)) (ZI _ r b0 _).2 (.hop2 hm' g2 g3 g4 (g1.sp.trans hS) hpc2)
theorem ZK(s:PC)(k t a:Int)(hB:zT s)(ha:0<=a/\a<65536):Gath s (zL (({s with step:=k,st:=t}:PC).read a)).1 (zL (({s with step:=k,st:=t}:PC).read a)).2 a/\(zL (({s with step:=k,st:=t}:PC).read a)).1.st=t/\(zL (({s with step:=k,st:=t}:PC).read a)).1.step=k/\
  (zL (({s with step:=k,st:=t}:PC).read a)).1.ad=s.look a/\(zL (({s with step:=k,st:=t}:PC).read a)).1.pc=s.pc/\(zL (({s with step:=k,st:=t}:PC).read a)).1.hop=s.hop:=by
 have hb:=xu hB a ha.2;have K:=zO ({s with step:=k,st:=t}:PC) a;obtain ⟨g1,g2,g3⟩:=qu s k t a (({s with step:=k,st:=t}:PC).read1 a).pc (zn (s.look a%256) 0) (({s with step:=k,st:=t}:PC).read1 a).hop (({s with step:=k,st:=t}:PC).read1 a).data;refine ⟨g1,g2,g3,?_,K.pc,K.hop⟩;show zn (s.look a%256) 0=_;unfold zn;omega
theorem Jp(s:PC)(k t a:Int)(hB:zT s)(ha:0<=a/\a<65536)(had:0<=s.ad/\s.ad<256):Gath s (zA (({s with step:=k,st:=t}:PC).read a)).1 (zA (({s with step:=k,st:=t}:PC).read a)).2 a/\(zA (({s with step:=k,st:=t}:PC).read a)).1.st=t/\(zA (({s with step:=k,st:=t}:PC).read a)).1.step=k/\
  (zA (({s with step:=k,st:=t}:PC).read a)).1.ad=s.ad+256*s.look a/\(zA (({s with step:=k,st:=t}:PC).read a)).1.pc=s.pc:=by
 have hb:=xu hB a ha.2;have K:=zO ({s with step:=k,st:=t}:PC) a;obtain ⟨g1,g2,g3⟩:=qu s k t a (({s with step:=k,st:=t}:PC).read1 a).pc (zn (loI (({s with step:=k,st:=t}:PC).read1 a).ad) (s.look a%256)) (({s with step:=k,st:=t}:PC).read1 a).hop (({s with step:=k,st:=t}:PC).read1 a).data;refine ⟨g1,g2,g3,?_,K.pc⟩;show zn (loI (({s with step:=k,st:=t}:PC).read1 a).ad) (s.look a%256)=_;rw [K.ad];unfold zn loI;show s.look a%256*256+s.ad%256=_;omega
theorem zn4(s:PC)(r:RG)(i:Nat)(b0 b1:Int)(irq:Bool)(hL:Live s r i 10)(hi:i<56)(hok:zE i 10=true)(hb1:0<=b1/\b1<256)(hst:s.st=1)(hstep:s.step=1)(hh:s.hop=b1)(hS:s.s=r.S)(hpc:s.pc=(r.PC+2)%65536):Good (fun s h=>Mid s r i 10 h) s (s.turn irq).1 (s.turn irq).2 r i 10 (za i) (zd 10) [b0,b1]:=by
 subst hh;have K:=zO ({s with step:=2}:PC) s.hop;have e:s.turn irq=({(({s with step:=2}:PC).read1 s.hop) with hop:=(s.hop+r.X)%256},(s.read s.hop).2):=by
  rw [zu s irq 10 1 hst hL.md hstep,w2];show ({(({s with step:=2}:PC).read1 s.hop) with hop:=zC (({s with step:=2}:PC).read1 s.hop).hop (({s with step:=2}:PC).read1 s.hop).x},(s.read s.hop).2)=_;rw [K.hop,K.x];show ({(({s with step:=2}:PC).read1 s.hop) with hop:=zC s.hop s.x},(s.read s.hop).2)=_;rw [qh s.hop s.x hb1,hL.x]
 obtain ⟨g1,g2,g3,g4⟩:=zjb s 2 s.hop ((s.hop+r.X)%256);rw [e];have em:s.hop%256=s.hop:=by omega
 refine jj s _ _ r i 10 [b0,s.hop] s.hop hL hi hok zza zza g1 _ _ (ZI _ r b0 s.hop).1 (by rw [em];rfl) (Jl _ r b0 s.hop _) ?_;exact .izx3 (g3.trans hst) g4 rfl (g1.sp.trans hS) (g2.trans hpc)
theorem zn5(s:PC)(r:RG)(i:Nat)(b0 b1 c:Int)(irq:Bool)(hL:Live s r i 10)(hB:zT s)(hi:i<56)(hok:zE i 10=true)(hst:s.st=1)(hstep:s.step=2)(hh:s.hop=(b1+r.X)%256)(hS:s.s=r.S)(hpc:s.pc=(r.PC+2)%65536):Good (fun s h=>Mid s r i 10 h) s (s.turn irq).1 (s.turn irq).2 r i 10 (za i) (zd 10) [b0,b1,c]:=by
 have ha:0<=s.hop/\s.hop<65536:=by rw [hh];omega
 obtain ⟨g1,g2,g3,g4,g5,g6⟩:=ZK s 3 1 s.hop hB ha;have e:s.turn irq=zL (({s with step:=3,st:=1}:PC).read s.hop):=by rw [zu s irq 10 2 hst hL.md hstep,w3,yZ s 3 hst];rfl
 rw [e];refine jj s _ _ r i 10 [b0,b1,c] s.hop hL hi hok zza zza g1 _ _ (Jl _ r b0 b1 c) (by rw [hh];rfl) (Jm _ r b0 b1 c _) ?_;exact .izx4 g2 g3 (g6.trans hh) g4 (g1.sp.trans hS) (g5.trans hpc)
theorem zn6(s:PC)(r:RG)(i:Nat)(b0 b1 c d:Int)(irq:Bool)(hL:Live s r i 10)(hB:zT s)(hi:i<56)(hok:zE i 10=true)(hd:0<=d/\d<256)(hst:s.st=1)(hstep:s.step=3)(hh:s.hop=(b1+r.X)%256)(had:s.ad=d)(hS:s.s=r.S)(hpc:s.pc=(r.PC+2)%65536):Good (fun s h=>Mid s r i 10 h) s (s.turn irq).1 (s.turn irq).2 r i 10 (za i) (zd 10) [b0,b1,c,d]:=by
 have hw:zC s.hop 1=(b1+r.X+1)%256:=by rw [qh s.hop 1 (by rw [hh];omega),hh];omega
 have ha:0<=(b1+r.X+1)%256/\(b1+r.X+1)%256<65536:=by omega
 have hb:=xu hB _ ha.2;obtain ⟨g1,g2,g3,g4,g5⟩:=Jp s 4 2 ((b1+r.X+1)%256) hB ha (by rw [had];exact hd);have e:s.turn irq=zA (({s with step:=4,st:=2}:PC).read ((b1+r.X+1)%256)):=by
  rw [zu s irq 10 3 hst hL.md hstep,w4];show zA (({s with step:=4,st:=2}:PC).read (zC s.hop 1))=_;rw [hw]
 rw [e];refine j8 s _ _ r i 10 [b0,b1,c,d] ((b1+r.X+1)%256) (d+256*s.look ((b1+r.X+1)%256)) 5 hL hi hok zza zza g1 _ (Jm _ r b0 b1 c d) rfl rfl zza ?_ g2 (by rw [g4,had]) zza (g1.sp.trans hS) (g5.trans hpc);intro l;exact zc5 _ r b0 b1 c d _ l
theorem Jq(op:BA)(r:RG)(b0 b1 c:Int):zj op (b3 105 122 121) r [b0,b1,c]=(0,0,⟨(b1+3-2)%256,false,0,false⟩,false):=rfl
theorem zn7(s:PC)(r:RG)(i:Nat)(b0 b1:Int)(irq:Bool)(hL:Live s r i 11)(hB:zT s)(hi:i<56)(hok:zE i 11=true)(hb1:0<=b1/\b1<256)(hst:s.st=1)(hstep:s.step=1)(hh:s.hop=b1)(hS:s.s=r.S)(hpc:s.pc=(r.PC+2)%65536):Good (fun s h=>Mid s r i 11 h) s (s.turn irq).1 (s.turn irq).2 r i 11 (za i) (zd 11) [b0,b1]:=by
 have ha:0<=s.hop/\s.hop<65536:=by rw [hh];omega
 obtain ⟨g1,g2,g3,g4,g5,g6⟩:=ZK s 2 1 s.hop hB ha;have e:s.turn irq=zL (({s with step:=2,st:=1}:PC).read s.hop):=by rw [zu s irq 11 1 hst hL.md hstep,w2,yZ s 2 hst];rfl
 rw [e];have em:(b1+2-2)%256=s.hop:=by omega
 refine jj s _ _ r i 11 [b0,b1] s.hop hL hi hok zza zza g1 _ _ (ZI _ r b0 b1).2 (by rw [em];rfl) (Jq _ r b0 b1 _) ?_;exact .izy3 g2 g3 (g6.trans hh) g4 (g1.sp.trans hS) (g5.trans hpc)
theorem Outer.trans{a b c:PC}(h:Outer a b)(k:Outer b c):Outer a c:=⟨h.mem.trans k.mem,h.rom.trans k.rom,h.cnt.trans k.cnt,h.calls.trans k.calls,h.on.trans k.on,h.due.trans k.due,h.cyc.trans k.cyc⟩
theorem Hu(t s:PC)(a:Int)(h:Outer t s):t.look a=s.look a:=by unfold PC.look;rw [h.cnt,h.calls,h.mem]
theorem Ky(t s:PC)(a:Act)(h:Outer t s):(t.busOf a).2=(s.busOf a).2/\Outer (t.busOf a).1 (s.busOf a).1:=by
 unfold PC.busOf;by_cases e:a.wr=true
 ·rw [if_pos e,if_pos e];exact vd t s _ _ h
 ·rw [if_neg e,if_neg e];refine ⟨?_,yh t s _ h⟩;show (⟨a.addr,t.look a.addr,false,false⟩:BusI)=⟨a.addr,s.look a.addr,false,false⟩;rw [Hu t s _ h]
theorem Good.of{M:PC->List Int->Prop}{t s s':PC}{b:BusI}{r:RG}{i m:Nat}{op md:BA}{h:List Int}(hO:Outer t s)(hb:∀q,Beh s q->Beh t q)(g:Good M t s' b r i m op md h):Good M s s' b r i m op md h:=by
 obtain ⟨o1,o2⟩:=Ky t s (zo op md r h).1 hO;obtain ⟨g1,g2,g3⟩:=g;refine ⟨g1.trans o1,g2.trans o2,?_⟩;rcases g3 with ⟨a,b,c,d⟩|⟨a,b⟩
 ·exact .inl ⟨a,b,fun q hq=>c q (hb q hq),d⟩
 ·exact .inr ⟨a,b⟩
theorem zeb(t:PC)(irq:Bool)(h:t.st=2):t.turn irq=t.access:=by
 unfold PC.turn;rw [if_neg (by rw [h];decide),if_pos h]
theorem zmH(s:PC)(k a A:Int):Gath s ((({s with step:=k,ad:=A,st:=2}:PC).read a).1) (({s with step:=k,ad:=A,st:=2}:PC).read a).2 a/\((({s with step:=k,ad:=A,st:=2}:PC).read a).1).st=2/\((({s with step:=k,ad:=A,st:=2}:PC).read a).1).ad=A/\((({s with step:=k,ad:=A,st:=2}:PC).read a).1).pc=s.pc:=by
 have K:=zO ({s with step:=k,ad:=A,st:=2}:PC) a;have O:=yh ({s with step:=k,ad:=A,st:=2}:PC) s a ⟨rfl,rfl,rfl,rfl,rfl,rfl,rfl⟩;exact ⟨⟨rfl,O,K.a,K.x,K.y,K.sp,K.p,K.ins,K.md,K.ba,K.bx,K.b_y,K.bs,K.bp,K.bpc⟩,K.st,K.ad,K.pc⟩
theorem Vx(s:PC)(r:RG)(i m:Nat)(h:List Int)(lo hi' idx k:Int)(at_:Nat)(irq:Bool)(hL:Live s r i m)(hR:Rg r)(hB:zT s)(hi:i<56)(hok:zE i m=true)(h4:4<=m)(h11:m<=11)
  (hlo:0<=lo/\lo<256) (had:s.ad=lo+256*hi') (hS:s.s=r.S) (hpc:s.pc=(r.PC+vg (zd m))%65536) (hH:∀k,0<=hd h k/\hd h k<256)
  (hlen:h.length=at_) (hat:1<=at_) (hpl:∀l:List Int,zj (za i) (zd m) r (h++l)=zZ (za i) lo hi' idx (at_+l.length:Int) at_)
  (e:s.turn irq=({s with step:=k}:PC).indexed idx):Good (fun s h=>Mid s r i m h) s (s.turn irq).1 (s.turn irq).2 r i m (za i) (zd m) h:=by
 obtain ⟨hs,hf,hkd,hir,hic, -⟩:=jU i m hi hok h4 h11;obtain ⟨n1,n2,n3,n4⟩:=UL h4 h11;have hn:zC s.ad idx=(lo+idx)%256+256*hi':=by rw [had];unfold zC zn loI hiI;omega
 have hr:(s.ad+idx)%65536=(lo+idx+256*hi')%65536:=by rw [had];congr 1;omega
 have hki:∀j:Int,(yx s.ins=j)=(yx i=j):=fun j=>by rw [hL.ins]
 by_cases c:zY (za i)=114/\(lo+idx)%256+256*hi'=(lo+idx+256*hi')%65536
 ·have k0:yx i=0:=by
   rcases Xb i with q|q|q
   ·exact q
   ·have:=c.1;rw [Y9 hkd q] at this;cases this
   ·have:=c.1;rw [Xa hkd q] at this;cases this
  have e2:s.turn irq=({s with step:=k,ad:=(lo+idx+256*hi')%65536,st:=2}:PC).turn irq:=by
   rw [e,zeb _ irq rfl];show (if (s.ad+idx)%65536=zC s.ad idx/\yx s.ins=0 then ({s with step:=k,ad:=(s.ad+idx)%65536,st:=2}:PC).access else _)=_;rw [if_pos ⟨by rw [hr,hn];exact c.2.symm,by rw [hki];exact k0⟩,hr]
  rw [e2];refine Good.of (t:=({s with step:=k,ad:=(lo+idx+256*hi')%65536,st:=2}:PC)) ⟨rfl,rfl,rfl,rfl,rfl,rfl,rfl⟩ (fun q hq=>⟨hq.a,hq.x,hq.y,hq.sp,hq.p,hq.pc⟩) ?_;refine GT _ ({s with step:=k,ad:=(lo+idx+256*hi')%65536,st:=2}:PC) r i m (za i) (zd m) h ((lo+idx+256*hi')%65536) at_ irq ⟨hL.a,hL.x,hL.y,hL.p,hL.ins,hL.md⟩ hS hR hB hi rfl hs hf hkd hir hic n1 n2 n3 n4 zza hpc hH hat ?_ (.due hlen rfl rfl) ?_
  ·intro l;rw [hpl l];unfold zZ;simp only [];rw [if_pos c]
  ·intro s' d q;rw [k0] at q;cases q
 ·have e2:s.turn irq=({s with step:=k,ad:=(lo+idx+256*hi')%65536,st:=2}:PC).read ((lo+idx)%256+256*hi'):=by
   rw [e];show (if (s.ad+idx)%65536=zC s.ad idx/\yx s.ins=0 then _ else ({s with step:=k,ad:=(s.ad+idx)%65536,st:=2}:PC).read (zC s.ad idx))=_;rw [if_neg ?_,hr,hn];intro q;apply c;refine ⟨Y8 hkd (by have:=q.2;rw [hki] at this;exact this),?_⟩;rw [<-hr, <-hn];exact q.1.symm
  obtain ⟨g1,g2,g3,g4⟩:=zmH s k ((lo+idx)%256+256*hi') ((lo+idx+256*hi')%65536);rw [e2];refine j8 s _ _ r i m h _ ((lo+idx+256*hi')%65536) (at_+1) hL hi hok h4 h11 g1 ⟨(lo+idx)%256+256*hi',false,0,false⟩ ?_ rfl (by simp [hlen]) zza ?_ g2 g3 zza (g1.sp.trans hS) (g4.trans hpc)
  ·have:=hpl [];rw [List.append_nil] at this;rw [this];unfold zZ;simp only [];rw [if_neg c,if_pos zzc]
  ·intro l;rw [List.append_assoc,hpl];unfold zZ;simp only [];rw [if_neg c,if_neg zzd];simp
theorem Vy(op:BA)(r:RG)(b0 b1 c:Int)(l:List Int):zj op (b3 97 98 120) r (b0::b1::c::l)=zZ op b1 c r.X (3+l.length) 3:=by
 unfold zj;simp only [];rw [zfA,if_neg (by intro q;rcases q with q|⟨q,_⟩ <;>omega),if_neg zzb,if_neg zzb,if_neg zzb,if_pos zzc,if_neg zzb];rfl
theorem Vz(op:BA)(r:RG)(b0 b1 c:Int)(l:List Int):zj op (b3 97 98 121) r (b0::b1::c::l)=zZ op b1 c r.Y (3+l.length) 3:=by
 unfold zj;simp only [];rw [zfA,if_neg (by intro q;rcases q with q|⟨q,_⟩ <;>omega),if_neg zzb,if_neg zzb,if_neg zzb,if_pos zzc,if_pos zzc];rfl
theorem VA(op:BA)(r:RG)(b0 b1 c e:Int)(l:List Int):zj op (b3 105 122 121) r (b0::b1::c::e::l)=zZ op c e r.Y (4+l.length) 4:=by
 have hl:((b0::b1::c::e::l).length:Int)=4+l.length:=by simp;omega
 unfold zj;simp only [];rw [hl,if_neg (by intro q;rcases q with q|⟨q,_⟩ <;>omega),if_neg zzb,if_neg zzb,if_neg zzb,if_neg zzb,if_neg zzb,if_neg zza,if_pos zzc];rfl
theorem VB(i m:Nat)(r:RG)(h:List Int)(lo hi' idx:Int)(at_:Nat)(hi:i<56)(hok:zE i m=true)(h4:4<=m)(h11:m<=11)(hlen:h.length=at_)
  (hp:zj (za i) (zd m) r h=zZ (za i) lo hi' idx (at_:Int) at_):(zo (za i) (zd m) r h).2=true:=by
 obtain ⟨-, -,hkd, -⟩:=jU i m hi hok h4 h11;by_cases c:zY (za i)=114/\(lo+idx)%256+256*hi'=(lo+idx+256*hi')%65536
 ·have q:zj (za i) (zd m) r h=((lo+idx+256*hi')%65536,(at_:Int),Act.nil,true):=by rw [hp];unfold zZ;simp only [];rw [if_pos c]
  rw [Qz i m r h hi hok h4 h11 _ at_ q];exact QS _ r h _ at_ i hkd hlen
 ·have q:zj (za i) (zd m) r h=(0,0,⟨(lo+idx)%256+256*hi',false,0,false⟩,false):=by rw [hp];unfold zZ;simp only [];rw [if_neg c,if_pos trivial]
  rw [jZ i m r h hi hok h4 h11 _ q]
theorem YS(s s':PC)(b:BusI)(r:RG)(i m:Nat)(h:List Int)(q:Int)(hL:Live s r i m)(hi:i<56)(hok:zE i m=true)(h4:4<=m)(h11:m<=11)
  (g:Gath s s' b q) (act:Act) (hp0:zj (za i) (zd m) r h=(0,0,act,false)) (hact:s.busOf act=s.read q)
  (hmore:(zo (za i) (zd m) r (h++ [b.data])).2=true) (hM:Mid s' r i m (h++ [b.data])):Good (fun s h=>Mid s r i m h) s s' b r i m (za i) (zd m) h:=by
 unfold Good;rw [jZ i m r h hi hok h4 h11 act hp0,hact];exact ⟨g.bus,g.out,.inl ⟨hmore,g.live hL,fun q hq=>g.beh q hq,hM⟩⟩
theorem zec(s:PC)(r:RG)(i m:Nat)(b0 b1:Int)(irq:Bool)(hm:m∈[8,9])(hL:Live s r i m)(hR:Rg r)(hB:zT s)(hi:i<56)(hok:zE i m=true)(hb1:0<=b1/\b1<256)(hst:s.st=1)(hstep:s.step=1)(had:s.ad=b1)(hS:s.s=r.S)(hpc:s.pc=(r.PC+2)%65536):Good (fun s h=>Mid s r i m h) s (s.turn irq).1 (s.turn irq).2 r i m (za i) (zd m) [b0,b1]:=by
 have hp:0<=s.pc/\s.pc<65536:=by rw [hpc];omega
 obtain ⟨g1,g2,g3,g4,g5⟩:=G8 s 2 1 hB hp (by rw [had];exact hb1);have hpc3:(zA ({s with step:=2,st:=1}:PC).readNext).1.pc=(r.PC+3)%65536:=by rw [g5,hpc];have:=hR.PC;omega
 have hm':=hm;simp only [List.mem_cons,List.not_mem_nil,or_false] at hm;rcases hm with rfl|rfl
 ·have e:s.turn irq=zA ({s with step:=2,st:=1}:PC).readNext:=by rw [zu s irq 8 1 hst hL.md hstep,w2,yZ s 2 hst];rfl
  rw [e];exact YS s _ _ r i 8 [b0,b1] s.pc hL hi hok zza zza g1 _ (zaE _ r b0 b1) (ys s s.pc _ (by rw [hpc];omega)) (VB i 8 r _ b1 _ r.X 3 hi hok zza zza rfl (Vy _ r b0 b1 _ [])) (.abs3 hm' g2 g3 (by rw [g4,had];rfl) (g1.sp.trans hS) hpc3)
 ·have e:s.turn irq=zA ({s with step:=2,st:=1}:PC).readNext:=by rw [zu s irq 9 1 hst hL.md hstep,w2,yZ s 2 hst];rfl
  rw [e];exact YS s _ _ r i 9 [b0,b1] s.pc hL hi hok zza zza g1 _ (zaF _ r b0 b1) (ys s s.pc _ (by rw [hpc];omega)) (VB i 9 r _ b1 _ r.Y 3 hi hok zza zza rfl (Vz _ r b0 b1 _ [])) (.abs3 hm' g2 g3 (by rw [g4,had];rfl) (g1.sp.trans hS) hpc3)
theorem hd3(b0 b1 c:Int)(h0:0<=b0/\b0<256)(h1:0<=b1/\b1<256)(h2:0<=c/\c<256)(k:Nat):0<=hd [b0,b1,c] k/\hd [b0,b1,c] k<256:=by
 match k with
 |0=>exact h0
 |1=>exact h1
 |2=>exact h2
 |k+3=>exact ⟨Int.le_refl 0,by show (0:Int)<256;decide⟩
theorem zb5(s:PC)(r:RG)(i m:Nat)(b0 b1 c:Int)(irq:Bool)(hm:m∈[8,9])(hL:Live s r i m)(hR:Rg r)(hB:zT s)(hi:i<56)(hok:zE i m=true)(hb0:0<=b0/\b0<256)(hb1:0<=b1/\b1<256)(hc:0<=c/\c<256)(hst:s.st=1)(hstep:s.step=2)(had:s.ad=b1+256*c)(hS:s.s=r.S)(hpc:s.pc=(r.PC+3)%65536):Good (fun s h=>Mid s r i m h) s (s.turn irq).1 (s.turn irq).2 r i m (za i) (zd m) [b0,b1,c]:=by
 simp only [List.mem_cons,List.not_mem_nil,or_false] at hm;rcases hm with rfl|rfl
 ·refine Vx s r i 8 [b0,b1,c] b1 c r.X 3 3 irq hL hR hB hi hok zza zza hb1 had hS hpc (hd3 b0 b1 c hb0 hb1 hc) rfl zza (fun l=>Vy _ r b0 b1 c l) ?_;rw [zu s irq 8 2 hst hL.md hstep,w3, <-hL.x];rfl
 ·refine Vx s r i 9 [b0,b1,c] b1 c r.Y 3 3 irq hL hR hB hi hok zza zza hb1 had hS hpc (hd3 b0 b1 c hb0 hb1 hc) rfl zza (fun l=>Vz _ r b0 b1 c l) ?_;rw [zu s irq 9 2 hst hL.md hstep,w3, <-hL.y];rfl
theorem hd4(b0 b1 c d:Int)(h0:0<=b0/\b0<256)(h1:0<=b1/\b1<256)(h2:0<=c/\c<256)(h3:0<=d/\d<256)(k:Nat):0<=hd [b0,b1,c,d] k/\hd [b0,b1,c,d] k<256:=by
 match k with
 |0=>exact h0
 |1=>exact h1
 |2=>exact h2
 |3=>exact h3
 |k+4=>exact ⟨Int.le_refl 0,by show (0:Int)<256;decide⟩
theorem zmI(s:PC)(r:RG)(i:Nat)(b0 b1 c:Int)(irq:Bool)(hL:Live s r i 11)(hB:zT s)(hi:i<56)(hok:zE i 11=true)(hb1:0<=b1/\b1<256)(hc:0<=c/\c<256)(hst:s.st=1)(hstep:s.step=2)(hh:s.hop=b1)(had:s.ad=c)(hS:s.s=r.S)(hpc:s.pc=(r.PC+2)%65536):Good (fun s h=>Mid s r i 11 h) s (s.turn irq).1 (s.turn irq).2 r i 11 (za i) (zd 11) [b0,b1,c]:=by
 have hw:zC s.hop 1=(b1+3-2)%256:=by rw [qh s.hop 1 (by rw [hh];exact hb1),hh];omega
 have ha:0<=(b1+3-2)%256/\(b1+3-2)%256<65536:=by omega
 obtain ⟨g1,g2,g3,g4,g5⟩:=Jp s 3 1 ((b1+3-2)%256) hB ha (by rw [had];exact hc);have e:s.turn irq=zA (({s with step:=3,st:=1}:PC).read ((b1+3-2)%256)):=by
  rw [zu s irq 11 2 hst hL.md hstep,w3,yZ s 3 hst];show zA (({s with step:=3,st:=1}:PC).read (zC s.hop 1))=_;rw [hw]
 rw [e];exact YS s _ _ r i 11 [b0,b1,c] _ hL hi hok zza zza g1 _ (Jq _ r b0 b1 c) rfl (VB i 11 r _ c _ r.Y 4 hi hok zza zza rfl (VA _ r b0 b1 c _ [])) (.izy4 g2 g3 (by rw [g4,had];rfl) (g1.sp.trans hS) (g5.trans hpc))
theorem zmJ(s:PC)(r:RG)(i:Nat)(b0 b1 c d:Int)(irq:Bool)(hL:Live s r i 11)(hR:Rg r)(hB:zT s)(hi:i<56)(hok:zE i 11=true)(hb0:0<=b0/\b0<256)(hb1:0<=b1/\b1<256)(hc:0<=c/\c<256)(hd':0<=d/\d<256)(hst:s.st=1)(hstep:s.step=3)(had:s.ad=c+256*d)(hS:s.s=r.S)(hpc:s.pc=(r.PC+2)%65536):Good (fun s h=>Mid s r i 11 h) s (s.turn irq).1 (s.turn irq).2 r i 11 (za i) (zd 11) [b0,b1,c,d]:=by
 refine Vx s r i 11 [b0,b1,c,d] c d r.Y 4 4 irq hL hR hB hi hok zza zza hc had hS hpc (hd4 b0 b1 c d hb0 hb1 hc hd') rfl zza (fun l=>VA _ r b0 b1 c d l) ?_;rw [zu s irq 11 3 hst hL.md hstep,w4, <-hL.y];rfl
def Byt(h:List Int):Prop:=∀b∈h,0<=b/\b<256
theorem qO(h:List Int)(hb:Byt h)(k:Nat):0<=hd h k/\hd h k<256:=by
 unfold hd;by_cases e:k<h.length
 ·rw [List.getD_eq_getElem?_getD,List.getElem?_eq_getElem e];exact hb _ (List.getElem_mem e)
 ·rw [List.getD_eq_getElem?_getD,List.getElem?_eq_none zza];exact ⟨Int.le_refl 0,by decide⟩
set_option maxHeartbeats 1000000 in
theorem Xw(s:PC)(r:RG)(i m:Nat)(h:List Int)(irq:Bool)(hL:Live s r i m)(hR:Rg r)(hB:zT s)(hi:i<56)(hok:zE i m=true)(h4:4<=m)(h11:m<=11)(hH:Byt h)(hM:Mid s r i m h):Good (fun s h=>Mid s r i m h) s (s.turn irq).1 (s.turn irq).2 r i m (za i) (zd m) h:=by
 cases hM with
 |one n1 n2 st step sp pc=>
  by_cases e4:m=4
  ·subst e4;exact zlj s r i _ irq hL hR hB hi hok st step sp pc
  ·by_cases e9:m<=9
   ·exact zh6 s r i m _ irq zzd hL hR hB hi hok st step sp pc
   ·exact zje s r i m _ irq zzd hL hR hB hi hok st step sp pc
 |acc a fr a4 a11 hfr hp hA ha sp pc=>
  obtain ⟨hs,hf,hkd,hir,hic, -⟩:=jU i m hi hok h4 h11;obtain ⟨n1,n2,n3,n4⟩:=UL h4 h11;refine GT _ s r i m _ _ h a fr irq hL sp hR hB hi rfl hs hf hkd hir hic n1 n2 n3 n4 ha pc (qO h hH) hfr hp hA ?_;intro s' d hk hA' hS' hpc';exact .acc a fr h4 h11 hfr (fun l=>by rw [List.append_assoc];exact hp _) (by rw [hk];exact hA') ha hS' (hpc'.trans pc)
 |@low _ b0 b1 hm st step ad sp pc=>
  have hb1:=hH b1 zzc;by_cases e5:m=5
  ·subst e5;exact zjc s r i b0 b1 irq hL hi hok hb1 st step ad sp pc
  ·by_cases e6:m=6
   ·subst e6;exact zjd s r i b0 b1 irq hL hi hok hb1 st step ad sp pc
   ·by_cases e7:m=7
    ·subst e7;exact zh7 s r i b0 b1 irq hL hR hB hi hok hb1 st step ad sp pc
    ·exact zec s r i m b0 b1 irq (by simp at hm⊢;omega) hL hR hB hi hok hb1 st step ad sp pc
 |@abs3 _ b0 b1 c hm st step ad sp pc=>exact zb5 s r i m b0 b1 c irq hm hL hR hB hi hok (hH b0 zzc) (hH b1 zzc) (hH c zzc) st step ad sp pc
 |@hop2 _ b0 b1 hm st step hop sp pc=>
  have hb1:=hH b1 zzc;by_cases e:m=10
  ·subst e;exact zn4 s r i b0 b1 irq hL hi hok hb1 st step hop sp pc
  ·have e:m=11:=by simp at hm;omega
   subst e;exact zn7 s r i b0 b1 irq hL hB hi hok hb1 st step hop sp pc
 |izx3 st step hop sp pc=>exact zn5 s r i _ _ _ irq hL hB hi hok st step hop sp pc
 |@izx4 b0 b1 c e st step hop ad sp pc=>exact zn6 s r i b0 b1 c e irq hL hB hi hok (hH e zzc) st step hop ad sp pc
 |@izy3 b0 b1 c st step hop ad sp pc=>exact zmI s r i b0 b1 c irq hL hB hi hok (hH b1 zzc) (hH c zzc) st step hop ad sp pc
 |@izy4 b0 b1 c e st step ad sp pc=>exact zmJ s r i b0 b1 c e irq hL hR hB hi hok (hH b0 zzc) (hH b1 zzc) (hH c zzc) (hH e zzc) st step ad sp pc
theorem znR{p:Prop} (q:p:=by
 rw [hp];exact ⟨⟨rfl,⟨rfl,rfl,rfl,rfl,rfl,rfl⟩,rfl,rfl,rfl,rfl,rfl,rfl⟩,⟨rfl,rfl,rfl,rfl,rfl,rfl,rfl⟩⟩):p:=q
theorem zcn(t:PC)(r:RG)(i m:Nat)(hL:Live t r i m)(hS:t.s=r.S)(hR:Rg r)(hd:0<=t.data/\t.data<256)(hi:i∈[0,1,11,17,18,19,23,29,30,31,34,43]):Fin_ t.performLast (xA (za i) {r with PC:=t.pc} t.data)/\Outer t.performLast t:=by
 have hw:t.Wf:=⟨by rw [hL.a];exact hR.A,by rw [hL.x];exact hR.X,by rw [hL.y];exact hR.Y,by rw [hS];exact hR.S,by rw [hL.p];exact hR.P,hd⟩;have h:=KP t hw r.cyc r.jam i hi;have hrg:t.rg r.cyc r.jam={r with PC:=t.pc}:=by unfold PC.rg;rw [hL.a,hL.x,hL.y,hL.p,hS]
 rw [hrg] at h;have hn:t.ins.toNat=i:=by rw [hL.ins];rfl
 have hp:t.performLast=(t.withR (xA (za i) {r with PC:=t.pc} t.data)).finish:=by unfold PC.performLast PC.perform;rw [hn,h]
 exact znR
theorem zco(t:PC)(r:RG)(i m:Nat)(hL:Live t r i m)(hS:t.s=r.S)(hR:Rg r)(hd:0<=t.data/\t.data<256)(hi:i∈[13,14,15,16,21,22,25,26,33,44,45,46,50,51,52,53,54,55]):Fin_ t.performLast (xZ (za i) {r with PC:=t.pc})/\Outer t.performLast t:=by
 have hw:t.Wf:=⟨by rw [hL.a];exact hR.A,by rw [hL.x];exact hR.X,by rw [hL.y];exact hR.Y,by rw [hS];exact hR.S,by rw [hL.p];exact hR.P,hd⟩;have h:=zet t hw r.cyc r.jam i hi;have hrg:t.rg r.cyc r.jam={r with PC:=t.pc}:=by unfold PC.rg;rw [hL.a,hL.x,hL.y,hL.p,hS]
 rw [hrg] at h;have hn:t.ins.toNat=i:=by rw [hL.ins];rfl
 have hp:t.performLast=(t.withR (xZ (za i) {r with PC:=t.pc})).finish:=by unfold PC.performLast PC.perform;rw [hn,h]
 exact znR
theorem zkW(i:Nat)(hi:i<56)(h:zE i 3=true):Zm (za i)=false/\qz (za i)=false/\zY (za i)=114/\i∈[0,1,11,17,18,19,23,29,30,31,34,43]:=by
 have:∀i:Fin 56,zE i.val 3=true->Zm (za i.val)=false/\qz (za i.val)=false/\zY (za i.val)=114/\i.val∈[0,1,11,17,18,19,23,29,30,31,34,43]:=by decide+kernel
 exact this ⟨i,hi⟩ h
theorem zkX(i:Nat)(hi:i<56)(h:zE i 1=true):Zm (za i)=false/\qz (za i)=false/\i∈[13,14,15,16,21,22,25,26,33,44,45,46,50,51,52,53,54,55]:=by
 have:∀i:Fin 56,zE i.val 1=true->Zm (za i.val)=false/\qz (za i.val)=false/\i.val∈[13,14,15,16,21,22,25,26,33,44,45,46,50,51,52,53,54,55]:=by decide+kernel
 exact this ⟨i,hi⟩ h
theorem zkY(i:Nat)(hi:i<56)(h:zE i 2=true):Zm (za i)=false/\qz (za i)=false/\i∈[2,20,24,32,39,40]:=by
 have:∀i:Fin 56,zE i.val 2=true->Zm (za i.val)=false/\qz (za i.val)=false/\i.val∈[2,20,24,32,39,40]:=by decide+kernel
 exact this ⟨i,hi⟩ h
theorem jV(op md:BA)(r:RG)(h:List Int)(hs:Zm op=false)(hm:md=(b3 105 109 112)\/md=(b3 97 99 99)\/md=(b3 105 109 109)):zo op md r h=(if (h.length:Int)=1 then rdR (r.PC+1) else dnR):=by
 simp only [Zm,Bool.or_eq_false_iff,decide_eq_false_iff_not] at hs;obtain ⟨⟨⟨⟨⟨⟨⟨⟨⟨⟨s1,s2⟩,s3⟩,s4⟩,s5⟩,s6⟩,s7⟩,s8⟩,s9⟩,s10⟩,s11⟩:=hs;unfold zo;simp only [];rw [if_neg (by simp [s1,s2,s3]),if_neg s4,if_neg (by simp [s5,s6,s7,s8]),if_neg (by simp [s9]),if_neg (by simp [s10]),if_neg s11,if_pos hm]
theorem zhC(M:PC->List Int->Prop)(s:PC)(r:RG)(i:Nat)(b0:Int)(irq:Bool)(hL:Live s r i 3)(hR:Rg r)(hB:zT s)(hi:i<56)(hok:zE i 3=true)(hst:s.st=1)(hstep:s.step=0)(hS:s.s=r.S)(hpc:s.pc=(r.PC+1)%65536):Good M s (s.turn irq).1 (s.turn irq).2 r i 3 (za i) (zd 3) [b0]:=by
 obtain ⟨hs,hf,hk,hin⟩:=zkW i hi hok;have hp:0<=s.pc/\s.pc<65536:=by rw [hpc];omega
 have hb:=xu hB s.pc hp.2;have el:s.look s.pc%256=s.look s.pc:=by omega
 have K:=zO ({s with step:=1}:PC) s.pc;have O:=yh ({s with step:=1}:PC) s s.pc ⟨rfl,rfl,rfl,rfl,rfl,rfl,rfl⟩;obtain ⟨t,e,tL,tS,td,tp,tO⟩:∃t:PC,s.turn irq=(t.performLast,(s.read s.pc).2)/\Live t r i 3/\t.s=r.S/\t.data=s.look s.pc/\t.pc=(r.PC+2)%65536/\Outer t (s.read s.pc).1:=by
  refine ⟨({(({s with step:=1}:PC).read1 s.pc) with pc:=((({s with step:=1}:PC).read1 s.pc).pc+1)%65536,data:=s.look s.pc%256}:PC),?_,⟨K.a.trans hL.a,K.x.trans hL.x,K.y.trans hL.y,K.p.trans hL.p,K.ins.trans hL.ins,K.md.trans hL.md⟩,K.sp.trans hS,el,?_,⟨O.mem,O.rom,O.cnt,O.calls,O.on,O.due,O.cyc⟩⟩
  ·rw [zu s irq 3 0 hst hL.md hstep,w1];rfl
  ·show ((({s with step:=1}:PC).read1 s.pc).pc+1)%65536=_;rw [K.pc];show (s.pc+1)%65536=_;rw [hpc];have:=hR.PC;omega
 obtain ⟨f1,f2⟩:=zcn t r i 3 tL tS hR (by rw [td];exact hb) hin;rw [td,tp] at f1;have hn:=jV (za i) (zd 3) r [b0] hs (.inr (.inr rfl));have hn2:=jV (za i) (zd 3) r ([b0]++ [s.look s.pc]) hs (.inr (.inr rfl));rw [e];unfold Good;rw [hn];show _=(s.busOf (rdR (r.PC+1)).1).2/\Outer _ (s.busOf (rdR (r.PC+1)).1).1/\_;rw [ys s s.pc (r.PC+1) hpc.symm];refine ⟨rfl,f2.trans tO,.inr ⟨?_,?_⟩⟩
 ·show (zo (za i) (zd 3) r ([b0]++ [s.look s.pc])).2=false;rw [hn2];rfl
 ·show Fin_ t.performLast (zV (za i) (zd 3) r ([b0]++ [s.look s.pc]));rw [jH _ _ r _ hf zzb zzb zzb,if_neg (by rw [hk];decide),if_neg (by rw [hk];decide)];exact f1
theorem KR(i:Nat)(q:RG)(h:List Int)(hi:i∈[13,14,15,16,21,22,25,26,33,44,45,46,50,51,52,53,54,55]):xC (za i) q h=q:=by
 simp only [List.mem_cons,List.not_mem_nil,or_false] at hi;rcases hi with rfl|rfl|rfl|rfl|rfl|rfl|rfl|rfl|rfl|rfl|rfl|rfl|rfl|rfl|rfl|rfl|rfl|rfl<;>rfl
theorem zhD(M:PC->List Int->Prop)(s:PC)(r:RG)(i:Nat)(b0:Int)(irq:Bool)(hL:Live s r i 1)(hR:Rg r)(hD:0<=s.data/\s.data<256)(hi:i<56)(hok:zE i 1=true)(hst:s.st=1)(hstep:s.step=0)(hS:s.s=r.S)(hpc:s.pc=(r.PC+1)%65536):Good M s (s.turn irq).1 (s.turn irq).2 r i 1 (za i) (zd 1) [b0]:=by
 obtain ⟨hs,hf,hin⟩:=zkX i hi hok;have K:=zO ({s with step:=1}:PC) s.pc;have O:=yh ({s with step:=1}:PC) s s.pc ⟨rfl,rfl,rfl,rfl,rfl,rfl,rfl⟩;obtain ⟨t,e,tL,tS,td,tp,tO⟩:∃t:PC,s.turn irq=(t.performLast,(s.read s.pc).2)/\Live t r i 1/\t.s=r.S/\t.data=s.data/\t.pc=(r.PC+1)%65536/\Outer t (s.read s.pc).1:=by
  refine ⟨({s with step:=1}:PC).read1 s.pc,?_,⟨K.a.trans hL.a,K.x.trans hL.x,K.y.trans hL.y,K.p.trans hL.p,K.ins.trans hL.ins,K.md.trans hL.md⟩,K.sp.trans hS,K.data,K.pc.trans hpc,O⟩;rw [zu s irq 1 0 hst hL.md hstep,w1];rfl
 obtain ⟨f1,f2⟩:=zco t r i 1 tL tS hR (by rw [td];exact hD) hin;rw [tp] at f1;have hn:=jV (za i) (zd 1) r [b0] hs (.inl rfl);have hn2:=jV (za i) (zd 1) r ([b0]++ [s.look s.pc]) hs (.inl rfl);rw [e];unfold Good;rw [hn];show _=(s.busOf (rdR (r.PC+1)).1).2/\Outer _ (s.busOf (rdR (r.PC+1)).1).1/\_;rw [ys s s.pc (r.PC+1) hpc.symm];refine ⟨rfl,f2.trans tO,.inr ⟨?_,?_⟩⟩
 ·show (zo (za i) (zd 1) r ([b0]++ [s.look s.pc])).2=false;rw [hn2];rfl
 ·show Fin_ t.performLast (zV (za i) (zd 1) r ([b0]++ [s.look s.pc]));have hd:zV (za i) (zd 1) r ([b0]++ [s.look s.pc])=xZ (za i) {r with PC:=(r.PC+1)%65536}:=by
   unfold zV;rw [if_neg (by rw [hf];decide)];show xC (za i) (xZ (za i) {r with PC:=(r.PC+1)%65536}) _=_;exact KR i _ _ hin
  rw [hd];exact f1
theorem zhE(M:PC->List Int->Prop)(s:PC)(r:RG)(i:Nat)(b0:Int)(irq:Bool)(hL:Live s r i 2)(hR:Rg r)(hi:i<56)(hok:zE i 2=true)(hst:s.st=1)(hstep:s.step=0)(hS:s.s=r.S)(hpc:s.pc=(r.PC+1)%65536):Good M s (s.turn irq).1 (s.turn irq).2 r i 2 (za i) (zd 2) [b0]:=by
 obtain ⟨hs,hf,hin⟩:=zkY i hi hok;have K:=zO ({s with step:=1}:PC) s.pc;have O:=yh ({s with step:=1}:PC) s s.pc ⟨rfl,rfl,rfl,rfl,rfl,rfl,rfl⟩;obtain ⟨u,e,uL,uS,ud,up,uO⟩:∃u:PC,s.turn irq=(({u.perform with a:=u.perform.data}:PC).finish,(s.read s.pc).2)/\Live u r i 2/\u.s=r.S/\u.data=r.A/\u.pc=(r.PC+1)%65536/\Outer u (s.read s.pc).1:=by
  refine ⟨({(({s with step:=1}:PC).read1 s.pc) with data:=(({s with step:=1}:PC).read1 s.pc).a}:PC),?_,⟨K.a.trans hL.a,K.x.trans hL.x,K.y.trans hL.y,K.p.trans hL.p,K.ins.trans hL.ins,K.md.trans hL.md⟩,K.sp.trans hS,K.a.trans hL.a,K.pc.trans hpc,⟨O.mem,O.rom,O.cnt,O.calls,O.on,O.due,O.cyc⟩⟩;rw [zu s irq 2 0 hst hL.md hstep,w1];rfl
 have hw:u.Wf:=⟨by rw [uL.a];exact hR.A,by rw [uL.x];exact hR.X,by rw [uL.y];exact hR.Y,by rw [uS];exact hR.S,by rw [uL.p];exact hR.P,by rw [ud];exact hR.A⟩;have hc:=Ql u hw i hin;rw [ud,uL.p] at hc;have hu:u.ins.toNat=i:=by rw [uL.ins];rfl
 have hp:u.perform={u with data:=(zF (za i) r.A r.P).1,p:=(zF (za i) r.A r.P).2}:=by unfold PC.perform;rw [hu,hc]
 have hn:=jV (za i) (zd 2) r [b0] hs (.inr (.inl rfl));have hn2:=jV (za i) (zd 2) r ([b0]++ [s.look s.pc]) hs (.inr (.inl rfl));have hd:zV (za i) (zd 2) r ([b0]++ [s.look s.pc])={r with PC:=(r.PC+1)%65536,A:=(zF (za i) r.A r.P).1,P:=(zF (za i) r.A r.P).2}:=by
  unfold zV;rw [if_neg (by rw [hf];decide)];rfl
 rw [e,hp];generalize (zF (za i) r.A r.P).1=v at*;generalize (zF (za i) r.A r.P).2=q at*;unfold Good;rw [hn];show _=(s.busOf (rdR (r.PC+1)).1).2/\Outer _ (s.busOf (rdR (r.PC+1)).1).1/\_;rw [ys s s.pc (r.PC+1) hpc.symm];refine ⟨rfl,⟨uO.mem,uO.rom,uO.cnt,uO.calls,uO.on,uO.due,uO.cyc⟩,.inr ⟨?_,?_⟩⟩
 ·show (zo (za i) (zd 2) r ([b0]++ [s.look s.pc])).2=false;rw [hn2];rfl
 ·show Fin_ _ (zV (za i) (zd 2) r ([b0]++ [s.look s.pc]));rw [hd];exact ⟨rfl,⟨rfl,uL.x,uL.y,uS,rfl,up⟩,rfl,uL.x,uL.y,uS,rfl,up⟩
theorem zab(i:Nat)(hi:i<56)(h:zE i 12=true):Zm (za i)=false/\qz (za i)=false/\i∈[3,4,5,6,7,8,9,10]:=by
 have:∀i:Fin 56,zE i.val 12=true->Zm (za i.val)=false/\qz (za i.val)=false/\i.val∈[3,4,5,6,7,8,9,10]:=by decide+kernel
 exact this ⟨i,hi⟩ h
theorem ZG(op:BA)(r:RG)(h:List Int)(hs:Zm op=false):zo op (b3 114 101 108) r h=yd op r h:=by
 simp only [Zm,Bool.or_eq_false_iff,decide_eq_false_iff_not] at hs;obtain ⟨⟨⟨⟨⟨⟨⟨⟨⟨⟨s1,s2⟩,s3⟩,s4⟩,s5⟩,s6⟩,s7⟩,s8⟩,s9⟩,s10⟩,s11⟩:=hs;unfold zo;simp only [];rw [if_neg (by simp [s1,s2,s3]),if_neg s4,if_neg (by simp [s5,s6,s7,s8]),if_neg (by simp [s9]),if_neg (by simp [s10]),if_neg s11,if_neg zzb,if_pos zzc]
theorem Uv(op:BA)(r:RG)(h:List Int)(hf:qz op=false):zV op (b3 114 101 108) r h={r with PC:=if yS op r.P=true then yv r (hd h 1) else (r.PC+2)%65536}:=by
 unfold zV;rw [if_neg (by rw [hf];decide)];by_cases t:yS op r.P=true
 ·simp only [t];rfl
 ·simp only [t];rfl
theorem zhz(P d:Int)(hd:0<=d/\d<256):((P+2)%65536+sgn d)%65536=(P+2+(if 127<d then d-256 else d))%65536:=by
 unfold sgn;split<;>split<;>omega
inductive MidB (s:PC) (r:RG) (op:BA):List Int->Prop
 |two {b0 d:Int}:yS op r.P=true->s.st=1->s.step=1->s.ad=yv r d->s.s=r.S->s.pc=(r.PC+2)%65536->MidB s r op [b0,d]
 |three {b0 d x:Int}:yS op r.P=true->s.st=1->s.step=2->s.ad=yv r d->s.s=r.S->s.pc=(r.PC+2)%65536->yv r d/256≠(r.PC+2)%65536/256->MidB s r op [b0,d,x]
theorem zhA(s:PC)(r:RG)(i:Nat)(b0:Int)(irq:Bool)(hL:Live s r i 12)(hR:Rg r)(hB:zT s)(hD:0<=s.data/\s.data<256)(hi:i<56)(hok:zE i 12=true)(hst:s.st=1)(hstep:s.step=0)(hS:s.s=r.S)(hpc:s.pc=(r.PC+1)%65536):Good (fun s h=>MidB s r (za i) h) s (s.turn irq).1 (s.turn irq).2 r i 12 (za i) (zd 12) [b0]:=by
 obtain ⟨hs,hf,hin⟩:=zab i hi hok;have hp:0<=s.pc/\s.pc<65536:=by rw [hpc];omega
 have hb:=xu hB s.pc hp.2;have hpc2:(s.pc+1)%65536=(r.PC+2)%65536:=by rw [hpc];have:=hR.PC;omega
 have K:=zO ({s with step:=1}:PC) s.pc;have O:=yh ({s with step:=1}:PC) s s.pc ⟨rfl,rfl,rfl,rfl,rfl,rfl,rfl⟩;obtain ⟨u,e,uL,uS,ud,up,ua,ust,ustep,ub,uO⟩:∃u:PC,s.turn irq=(if u.perform.taken=true then u.perform else u.perform.finish,(s.read s.pc).2)/\Live u r i 12/\u.s=r.S/\u.data=s.data/\u.pc=(r.PC+2)%65536/\u.ad=yv r (s.look s.pc)/\u.st=1/\u.step=1/\(∀q,Beh s q->Beh u q)/\Outer u (s.read s.pc).1:=by
  refine ⟨({(({s with step:=1}:PC).read1 s.pc) with pc:=((({s with step:=1}:PC).read1 s.pc).pc+1)%65536,ad:=(((({s with step:=1}:PC).read1 s.pc).pc+1)%65536+sgn (s.look s.pc))%65536}:PC),?_,⟨K.a.trans hL.a,K.x.trans hL.x,K.y.trans hL.y,K.p.trans hL.p,K.ins.trans hL.ins,K.md.trans hL.md⟩,K.sp.trans hS,K.data,?_,?_,K.st.trans hst,K.step,fun q hq=>⟨K.ba.trans hq.a,K.bx.trans hq.x,K.b_y.trans hq.y,K.bs.trans hq.sp,K.bp.trans hq.p,K.bpc.trans hq.pc⟩,⟨O.mem,O.rom,O.cnt,O.calls,O.on,O.due,O.cyc⟩⟩
  ·rw [zu s irq 12 0 hst hL.md hstep,w1];rfl
  ·show ((({s with step:=1}:PC).read1 s.pc).pc+1)%65536=_;rw [K.pc];exact hpc2
  ·show (((({s with step:=1}:PC).read1 s.pc).pc+1)%65536+sgn (s.look s.pc))%65536=_;rw [K.pc];show ((s.pc+1)%65536+sgn (s.look s.pc))%65536=_;rw [hpc2,zhz _ _ hb];rfl
 have hw:u.Wf:=⟨by rw [uL.a];exact hR.A,by rw [uL.x];exact hR.X,by rw [uL.y];exact hR.Y,by rw [uS];exact hR.S,by rw [uL.p];exact hR.P,by rw [ud];exact hD⟩;have hc:=zeu u hw i hin;rw [uL.p] at hc;have hu:u.ins.toNat=i:=by rw [uL.ins];rfl
 have hpf:u.perform={u with p:=r.P,taken:=yS (za i) r.P}:=by unfold PC.perform;rw [hu,hc]
 have hn:zo (za i) (zd 12) r [b0]=rdR (r.PC+1):=by rw [show zd 12=(b3 114 101 108) from rfl,ZG _ r _ hs];rfl
 have hn2:zo (za i) (zd 12) r ([b0]++ [s.look s.pc])=if yS (za i) r.P=true then rdR ((r.PC+2)%65536) else dnR:=by
  rw [show zd 12=(b3 114 101 108) from rfl,ZG _ r _ hs];by_cases t:yS (za i) r.P=true
  ·rw [if_pos t];unfold yd;simp only [t];rfl
  ·rw [if_neg t];unfold yd;simp only [t];rfl
 have hdn:=Uv (za i) r ([b0]++ [s.look s.pc]) hf;rw [e,hpf];unfold Good;rw [hn,ys s s.pc (r.PC+1) hpc.symm];by_cases t:yS (za i) r.P=true
 ·refine ⟨rfl,?_,.inl ⟨?_,?_,?_,?_⟩⟩
  ·simp only [t,if_true];exact ⟨uO.mem,uO.rom,uO.cnt,uO.calls,uO.on,uO.due,uO.cyc⟩
  ·show (zo (za i) (zd 12) r ([b0]++ [s.look s.pc])).2=true;rw [hn2,if_pos t];rfl
  ·simp only [t,if_true];exact ⟨uL.a,uL.x,uL.y,rfl,uL.ins,uL.md⟩
  ·intro q hq;have:=ub q hq;simp only [t,if_true];exact ⟨this.a,this.x,this.y,this.sp,this.p,this.pc⟩
  ·simp only [t,if_true];exact .two t ust ustep ua uS up
 ·have tf:yS (za i) r.P=false:=by simpa using t
  refine ⟨rfl,?_,.inr ⟨?_,?_⟩⟩
  ·simp only [tf];exact ⟨uO.mem,uO.rom,uO.cnt,uO.calls,uO.on,uO.due,uO.cyc⟩
  ·show (zo (za i) (zd 12) r ([b0]++ [s.look s.pc])).2=false;rw [hn2,if_neg t];rfl
  ·show Fin_ _ (zV (za i) (b3 114 101 108) r ([b0]++ [s.look s.pc]));rw [hdn,if_neg t];simp only [tf];exact ⟨rfl,⟨uL.a,uL.x,uL.y,uS,rfl,up⟩,uL.a,uL.x,uL.y,uS,rfl,up⟩
theorem zkV(r:RG)(d:Int):0<=yv r d/\yv r d<65536:=by unfold yv;omega
theorem VN(t:PC)(r:RG)(i:Nat)(g:Int)(hL:Live t r i 12)(hS:t.s=r.S)(ha:t.ad=g):Fin_ t.branch {r with PC:=g} /\Outer t.branch t:=
 ⟨⟨rfl,⟨hL.a,hL.x,hL.y,hS,hL.p,ha⟩,hL.a,hL.x,hL.y,hS,hL.p,ha⟩,⟨rfl,rfl,rfl,rfl,rfl,rfl,rfl⟩⟩
theorem zhB(s:PC)(r:RG)(i:Nat)(b0 d:Int)(irq:Bool)(hL:Live s r i 12)(hi:i<56)(hok:zE i 12=true)(ht:yS (za i) r.P=true)(hst:s.st=1)(hstep:s.step=1)(had:s.ad=yv r d)(hS:s.s=r.S)(hpc:s.pc=(r.PC+2)%65536):Good (fun s h=>MidB s r (za i) h) s (s.turn irq).1 (s.turn irq).2 r i 12 (za i) (zd 12) [b0,d]:=by
 obtain ⟨hs,hf, -⟩:=zab i hi hok;have K:=zO ({s with step:=2}:PC) s.pc;have O:=yh ({s with step:=2}:PC) s s.pc ⟨rfl,rfl,rfl,rfl,rfl,rfl,rfl⟩;have e:s.turn irq=(if hiI (({s with step:=2}:PC).read1 s.pc).ad=hiI (({s with step:=2}:PC).read1 s.pc).pc then (({s with step:=2}:PC).read1 s.pc).branch else ({s with step:=2}:PC).read1 s.pc,(s.read s.pc).2):=by rw [zu s irq 12 1 hst hL.md hstep,w2];rfl
 have tL:Live (({s with step:=2}:PC).read1 s.pc) r i 12:=⟨K.a.trans hL.a,K.x.trans hL.x,K.y.trans hL.y,K.p.trans hL.p,K.ins.trans hL.ins,K.md.trans hL.md⟩;have ta:(({s with step:=2}:PC).read1 s.pc).ad=yv r d:=K.ad.trans had;have tp:(({s with step:=2}:PC).read1 s.pc).pc=(r.PC+2)%65536:=K.pc.trans hpc;have tS:(({s with step:=2}:PC).read1 s.pc).s=r.S:=K.sp.trans hS;have tst:(({s with step:=2}:PC).read1 s.pc).st=1:=K.st.trans hst;have tstep:(({s with step:=2}:PC).read1 s.pc).step=2:=K.step;have tb:∀q,Beh s q->Beh (({s with step:=2}:PC).read1 s.pc) q:=fun q hq=>⟨K.ba.trans hq.a,K.bx.trans hq.x,K.b_y.trans hq.y,K.bs.trans hq.sp,K.bp.trans hq.p,K.bpc.trans hq.pc⟩
 have tO:Outer (({s with step:=2}:PC).read1 s.pc) (s.read s.pc).1:=O;generalize ({s with step:=2}:PC).read1 s.pc=t at*;rw [ta,tp] at e;have hn:zo (za i) (zd 12) r [b0,d]=rdR ((r.PC+2)%65536):=by
  rw [show zd 12=(b3 114 101 108) from rfl,ZG _ r _ hs];unfold yd;simp only [ht];rfl
 have hn2:zo (za i) (zd 12) r ([b0,d]++ [s.look s.pc])=if yv r d/256≠(r.PC+2)%65536/256 then rdR ((r.PC+2)%65536/256*256+yv r d%256) else dnR:=by
  rw [show zd 12=(b3 114 101 108) from rfl,ZG _ r _ hs];rfl
 have hdn:=Uv (za i) r ([b0,d]++ [s.look s.pc]) hf;rw [if_pos ht] at hdn;rw [e];unfold Good;rw [hn,ys s s.pc _ (by rw [hpc];omega)];by_cases c:hiI (yv r d)=hiI ((r.PC+2)%65536)
 ·obtain ⟨f1,f2⟩:=VN t r i _ tL tS ta;refine ⟨rfl,?_,.inr ⟨?_,?_⟩⟩
  ·simp only [c,if_true];exact f2.trans tO
  ·show (zo (za i) (zd 12) r ([b0,d]++ [s.look s.pc])).2=false;rw [hn2,if_neg (by intro q;exact q c)];rfl
  ·show Fin_ _ (zV (za i) (b3 114 101 108) r ([b0,d]++ [s.look s.pc]));rw [hdn];simp only [c,if_true];exact f1
 ·refine ⟨rfl,?_,.inl ⟨?_,?_,?_,?_⟩⟩
  ·simp only [c,if_false];exact tO
  ·show (zo (za i) (zd 12) r ([b0,d]++ [s.look s.pc])).2=true;rw [hn2,if_pos (show yv r d/256≠(r.PC+2)%65536/256 from c)];rfl
  ·simp only [c,if_false];exact tL
  ·intro q hq;simp only [c,if_false];exact tb q hq
  ·simp only [c,if_false];exact .three ht tst tstep ta tS tp c
theorem zcm(s:PC)(r:RG)(i:Nat)(b0 d x:Int)(irq:Bool)(hL:Live s r i 12)(hi:i<56)(hok:zE i 12=true)(ht:yS (za i) r.P=true)(hst:s.st=1)(hstep:s.step=2)(had:s.ad=yv r d)(hS:s.s=r.S)(hpc:s.pc=(r.PC+2)%65536)(hne:yv r d/256≠(r.PC+2)%65536/256):Good (fun s h=>MidB s r (za i) h) s (s.turn irq).1 (s.turn irq).2 r i 12 (za i) (zd 12) [b0,d,x]:=by
 obtain ⟨hs,hf, -⟩:=zab i hi hok;have hg:=zkV r d;have hq:zn (loI s.ad) (hiI s.pc)=(r.PC+2)%65536/256*256+yv r d%256:=by rw [had,hpc];unfold zn loI hiI;omega
 have K:=zO ({s with step:=3}:PC) ((r.PC+2)%65536/256*256+yv r d%256);have O:=yh ({s with step:=3}:PC) s ((r.PC+2)%65536/256*256+yv r d%256) ⟨rfl,rfl,rfl,rfl,rfl,rfl,rfl⟩;have e:s.turn irq=((({s with step:=3}:PC).read1 ((r.PC+2)%65536/256*256+yv r d%256)).branch,(s.read ((r.PC+2)%65536/256*256+yv r d%256)).2):=by
  rw [zu s irq 12 2 hst hL.md hstep,w3];show ((({s with step:=3}:PC).read1 (zn (loI s.ad) (hiI s.pc))).branch,(s.read (zn (loI s.ad) (hiI s.pc))).2)=_;rw [hq]
 obtain ⟨f1,f2⟩:=VN (({s with step:=3}:PC).read1 ((r.PC+2)%65536/256*256+yv r d%256)) r i (yv r d) ⟨K.a.trans hL.a,K.x.trans hL.x,K.y.trans hL.y,K.p.trans hL.p,K.ins.trans hL.ins,K.md.trans hL.md⟩ (K.sp.trans hS) (K.ad.trans had);have hn:zo (za i) (zd 12) r [b0,d,x]=rdR ((r.PC+2)%65536/256*256+yv r d%256):=by
  rw [show zd 12=(b3 114 101 108) from rfl,ZG _ r _ hs];show (if yv r d/256≠(r.PC+2)%65536/256 then rdR ((r.PC+2)%65536/256*256+yv r d%256) else dnR)=_;rw [if_pos hne]
 have hdn:=Uv (za i) r ([b0,d,x]++ [s.look ((r.PC+2)%65536/256*256+yv r d%256)]) hf;rw [if_pos ht] at hdn;rw [e];unfold Good;rw [hn,ys s ((r.PC+2)%65536/256*256+yv r d%256) _ zza];refine ⟨rfl,f2.trans O,.inr ⟨?_,?_⟩⟩
 ·show (zo (za i) (zd 12) r ([b0,d,x]++ [s.look ((r.PC+2)%65536/256*256+yv r d%256)])).2=false;rw [show zd 12=(b3 114 101 108) from rfl,ZG _ r _ hs];rfl
 ·show Fin_ _ (zV (za i) (b3 114 101 108) r ([b0,d,x]++ [s.look ((r.PC+2)%65536/256*256+yv r d%256)]));rw [hdn];exact f1
theorem zff(i m:Nat)(hi:i<56)(hm:m=13\/m=14)(h:zE i m=true):i=27:=by
 have:∀i:Fin 56,(zE i.val 13=true->i.val=27)/\(zE i.val 14=true->i.val=27):=by decide+kernel
 rcases hm with rfl|rfl
 ·exact (this ⟨i,hi⟩).1 h
 ·exact (this ⟨i,hi⟩).2 h
theorem Zs(md:BA)(r:RG)(h:List Int):zo (za 27) md r h=xj md r h:=rfl
inductive MidJ (s:PC) (r:RG):Nat->List Int->Prop
 |two {m:Nat} {b0 b1:Int}:m=13\/m=14->s.st=1->s.step=1->s.ad=b1->s.s=r.S->s.pc=(r.PC+2)%65536->MidJ s r m [b0,b1]
 |three {b0 b1 c:Int}:s.st=1->s.step=2->s.hop=b1+256*c->s.s=r.S->MidJ s r 14 [b0,b1,c]
 |four {b0 b1 c d:Int}:s.st=1->s.step=3->s.hop=b1+256*c->s.ad=d->s.s=r.S->MidJ s r 14 [b0,b1,c,d]
theorem zbo(s:PC)(r:RG)(m:Nat)(k a:Int)(hL:Live s r 27 m)(hS:s.s=r.S)(hB:zT s)(ha:0<=a/\a<65536)(had:0<=s.ad/\s.ad<256):(yC (({s with step:=k}:PC).read a)).2=(s.read a).2/\Outer (yC (({s with step:=k}:PC).read a)).1 (s.read a).1/\Fin_ (yC (({s with step:=k}:PC).read a)).1 {r with PC:=s.ad+256*s.look a}:=by
 have hb:=xu hB a ha.2;have K:=zO ({s with step:=k}:PC) a;have O:=yh ({s with step:=k}:PC) s a ⟨rfl,rfl,rfl,rfl,rfl,rfl,rfl⟩;have hn:(({s with step:=k}:PC).read1 a).ins.toNat=27:=by rw [K.ins];show s.ins.toNat=27;rw [hL.ins];rfl
 have hj:zn (loI (({s with step:=k}:PC).read1 a).ad) (s.look a%256)=s.ad+256*s.look a:=by
  rw [K.ad];unfold zn loI;show s.look a%256*256+s.ad%256=_;omega
 have e:(yC (({s with step:=k}:PC).read a)).1=({({(({s with step:=k}:PC).read1 a) with ad:=s.ad+256*s.look a}:PC) with pc:=s.ad+256*s.look a}:PC).finish:=by
  show ({(({s with step:=k}:PC).read1 a) with ad:=zn (loI (({s with step:=k}:PC).read1 a).ad) (s.look a%256)}:PC).performLast=_;rw [hj];unfold PC.performLast PC.perform;show (({(({s with step:=k}:PC).read1 a) with ad:=s.ad+256*s.look a}:PC).doIns (({s with step:=k}:PC).read1 a).ins.toNat).finish=_;rw [hn];rfl
 rw [e];exact ⟨rfl,⟨O.mem,O.rom,O.cnt,O.calls,O.on,O.due,O.cyc⟩,⟨rfl,⟨K.a.trans hL.a,K.x.trans hL.x,K.y.trans hL.y,K.sp.trans hS,K.p.trans hL.p,rfl⟩,K.a.trans hL.a,K.x.trans hL.x,K.y.trans hL.y,K.sp.trans hS,K.p.trans hL.p,rfl⟩⟩
theorem zic(s:PC)(r:RG)(m:Nat)(b0:Int)(irq:Bool)(hm:m=13\/m=14)(hL:Live s r 27 m)(hR:Rg r)(hB:zT s)(hst:s.st=1)(hstep:s.step=0)(hS:s.s=r.S)(hpc:s.pc=(r.PC+1)%65536):Good (fun s h=>MidJ s r m h) s (s.turn irq).1 (s.turn irq).2 r 27 m (za 27) (zd m) [b0]:=by
 have hp:0<=s.pc/\s.pc<65536:=by rw [hpc];omega
 obtain ⟨g1,g2,g3,g4,g5⟩:=za4 s 1 1 hB hp;have e:s.turn irq=zL ({s with step:=1,st:=1}:PC).readNext:=by
  rcases hm with rfl|rfl
  ·rw [zu s irq 13 0 hst hL.md hstep,w1,yZ s 1 hst];rfl
  ·rw [zu s irq 14 0 hst hL.md hstep,w1,yZ s 1 hst];rfl
 rw [e];unfold Good;rw [Zs];show _=(s.busOf (rdR (r.PC+1)).1).2/\Outer _ (s.busOf (rdR (r.PC+1)).1).1/\_;rw [ys s s.pc (r.PC+1) hpc.symm];refine ⟨g1.bus,g1.out,.inl ⟨rfl,g1.live hL,fun q hq=>g1.beh q hq,.two hm g2 g3 g4 (g1.sp.trans hS) ?_⟩⟩;rw [g5,hpc];have:=hR.PC;omega
theorem zid(s:PC)(r:RG)(b0 b1:Int)(irq:Bool)(hL:Live s r 27 13)(hB:zT s)(hb1:0<=b1/\b1<256)(hst:s.st=1)(hstep:s.step=1)(had:s.ad=b1)(hS:s.s=r.S)(hpc:s.pc=(r.PC+2)%65536):Good (fun s h=>MidJ s r 13 h) s (s.turn irq).1 (s.turn irq).2 r 27 13 (za 27) (zd 13) [b0,b1]:=by
 subst had;have hp:0<=s.pc/\s.pc<65536:=by rw [hpc];omega
 obtain ⟨f1,f2,f3⟩:=zbo s r 13 2 s.pc hL hS hB hp hb1;have e:s.turn irq=yC (({s with step:=2}:PC).read s.pc):=by rw [zu s irq 13 1 hst hL.md hstep,w2];rfl
 rw [e];unfold Good;rw [Zs];show _=(s.busOf (rdR (r.PC+2)).1).2/\Outer _ (s.busOf (rdR (r.PC+2)).1).1/\_;rw [ys s s.pc (r.PC+2) hpc.symm,f1];refine ⟨rfl,f2,.inr ⟨rfl,?_⟩⟩;exact f3
theorem zie(s:PC)(r:RG)(b0 b1:Int)(irq:Bool)(hL:Live s r 27 14)(hB:zT s)(hb1:0<=b1/\b1<256)(hst:s.st=1)(hstep:s.step=1)(had:s.ad=b1)(hS:s.s=r.S)(hpc:s.pc=(r.PC+2)%65536):Good (fun s h=>MidJ s r 14 h) s (s.turn irq).1 (s.turn irq).2 r 27 14 (za 27) (zd 14) [b0,b1]:=by
 have hp:0<=s.pc/\s.pc<65536:=by rw [hpc];omega
 obtain ⟨g1,g2,g3,g4,g5⟩:=G8 s 2 1 hB hp (by rw [had];exact hb1);have e:s.turn irq=({(zA ({s with step:=2,st:=1}:PC).readNext).1 with hop:=(zA ({s with step:=2,st:=1}:PC).readNext).1.ad},(zA ({s with step:=2,st:=1}:PC).readNext).2):=by
  rw [zu s irq 14 1 hst hL.md hstep,w2,yZ s 2 hst];rfl
 have hl:Live (zA ({s with step:=2,st:=1}:PC).readNext).1 r 27 14:=g1.live hL;have hb:∀q,Beh s q->Beh (zA ({s with step:=2,st:=1}:PC).readNext).1 q:=fun q hq=>g1.beh q hq
 have hsp:=g1.sp.trans hS;have ho:=g1.out;rw [e];unfold Good;rw [Zs];show _=(s.busOf (rdR (r.PC+2)).1).2/\Outer _ (s.busOf (rdR (r.PC+2)).1).1/\_;rw [ys s s.pc (r.PC+2) hpc.symm];exact ⟨g1.bus,⟨ho.mem,ho.rom,ho.cnt,ho.calls,ho.on,ho.due,ho.cyc⟩,.inl ⟨rfl,⟨hl.a,hl.x,hl.y,hl.p,hl.ins,hl.md⟩,fun q hq=>⟨(hb q hq).a,(hb q hq).x,(hb q hq).y,(hb q hq).sp,(hb q hq).p,(hb q hq).pc⟩,.three g2 g3 (by show (zA ({s with step:=2,st:=1}:PC).readNext).1.ad=_;rw [g4,had];rfl) hsp⟩⟩
theorem zcG(s:PC)(r:RG)(b0 b1 c:Int)(irq:Bool)(hL:Live s r 27 14)(hB:zT s)(hb1:0<=b1/\b1<256)(hc:0<=c/\c<256)(hst:s.st=1)(hstep:s.step=2)(hh:s.hop=b1+256*c)(hS:s.s=r.S):Good (fun s h=>MidJ s r 14 h) s (s.turn irq).1 (s.turn irq).2 r 27 14 (za 27) (zd 14) [b0,b1,c]:=by
 have ha:0<=s.hop/\s.hop<65536:=by rw [hh];omega
 obtain ⟨g1,g2,g3,g4,g5,g6⟩:=ZK s 3 1 s.hop hB ha;have e:s.turn irq=zL (({s with step:=3,st:=1}:PC).read s.hop):=by rw [zu s irq 14 2 hst hL.md hstep,w3,yZ s 3 hst];rfl
 rw [e];unfold Good;rw [Zs];show _=(s.busOf (rdR (b1+256*c)).1).2/\Outer _ (s.busOf (rdR (b1+256*c)).1).1/\_;rw [ys s s.hop (b1+256*c) (by rw [hh];omega)];exact ⟨g1.bus,g1.out,.inl ⟨rfl,g1.live hL,fun q hq=>g1.beh q hq,.four g2 g3 (g6.trans hh) g4 (g1.sp.trans hS)⟩⟩
theorem zfg(s:PC)(r:RG)(b0 b1 c d:Int)(irq:Bool)(hL:Live s r 27 14)(hB:zT s)(hb1:0<=b1/\b1<256)(hc:0<=c/\c<256)(hd:0<=d/\d<256)(hst:s.st=1)(hstep:s.step=3)(hh:s.hop=b1+256*c)(had:s.ad=d)(hS:s.s=r.S):Good (fun s h=>MidJ s r 14 h) s (s.turn irq).1 (s.turn irq).2 r 27 14 (za 27) (zd 14) [b0,b1,c,d]:=by
 subst had;have hw:zC s.hop 1=(b1+1)%256+256*c:=by rw [hh];unfold zC zn loI hiI;omega
 have ha:0<=(b1+1)%256+256*c/\(b1+1)%256+256*c<65536:=by omega
 obtain ⟨f1,f2,f3⟩:=zbo s r 14 4 ((b1+1)%256+256*c) hL hS hB ha hd;have e:s.turn irq=yC (({s with step:=4}:PC).read ((b1+1)%256+256*c)):=by
  rw [zu s irq 14 3 hst hL.md hstep,w4];show yC (({s with step:=4}:PC).read (zC s.hop 1))=_;rw [hw]
 rw [e];unfold Good;rw [Zs];show _=(s.busOf (rdR ((b1+1)%256+256*c)).1).2/\Outer _ (s.busOf (rdR ((b1+1)%256+256*c)).1).1/\_;rw [ys s ((b1+1)%256+256*c) _ zza,f1];exact ⟨rfl,f2,.inr ⟨rfl,f3⟩⟩
theorem Z5(s:PC)(k a:Int):Gath s (({s with step:=k}:PC).read a).1 (({s with step:=k}:PC).read a).2 a/\(({s with step:=k}:PC).read a).1.st=s.st/\(({s with step:=k}:PC).read a).1.step=k/\(({s with step:=k}:PC).read a).1.pc=s.pc/\(({s with step:=k}:PC).read a).1.ad=s.ad:=by
 have K:=zO ({s with step:=k}:PC) a;have O:=yh ({s with step:=k}:PC) s a ⟨rfl,rfl,rfl,rfl,rfl,rfl,rfl⟩;exact ⟨⟨rfl,O,K.a,K.x,K.y,K.sp,K.p,K.ins,K.md,K.ba,K.bx,K.b_y,K.bs,K.bp,K.bpc⟩,K.st,K.step,K.pc,K.ad⟩
theorem UX(i:Nat)(hi:i<56)(h:zE i 18=true):i=37\/i=38:=by
 have:∀i:Fin 56,zE i.val 18=true->i.val=37\/i.val=38:=by decide+kernel
 exact this ⟨i,hi⟩ h
theorem ZJ(i:Nat)(md:BA)(r:RG)(h:List Int)(hi:i=37\/i=38):zo (za i) md r h=xJ (za i) r h:=by
 rcases hi with rfl|rfl<;>rfl
inductive MidP (s:PC) (r:RG):List Int->Prop
 |two {b0 b1:Int}:s.st=1->s.step=1->s.s=r.S->s.pc=(r.PC+1)%65536->MidP s r [b0,b1]
 |three {b0 b1 c:Int}:s.st=1->s.step=2->s.s=r.S->s.pc=(r.PC+1)%65536->MidP s r [b0,b1,c]
theorem zfV(s:PC)(r:RG)(i:Nat)(b0:Int)(irq:Bool)(hi:i=37\/i=38)(hL:Live s r i 18)(hst:s.st=1)(hstep:s.step=0)(hS:s.s=r.S)(hpc:s.pc=(r.PC+1)%65536):Good (fun s h=>MidP s r h) s (s.turn irq).1 (s.turn irq).2 r i 18 (za i) (zd 18) [b0]:=by
 obtain ⟨g1,g2,g3,g4, -⟩:=Z5 s 1 s.pc;have e:s.turn irq=({s with step:=1}:PC).read s.pc:=by rw [zu s irq 18 0 hst hL.md hstep,w1];rfl
 have hm:(zo (za i) (zd 18) r ([b0]++ [(({s with step:=1}:PC).read s.pc).2.data])).2=true:=by rw [ZJ i _ r _ hi];rcases hi with rfl|rfl<;>rfl
 rw [e];unfold Good;rw [ZJ i _ r _ hi];show _=(s.busOf (rdR (r.PC+1)).1).2/\Outer _ (s.busOf (rdR (r.PC+1)).1).1/\_;rw [ys s s.pc (r.PC+1) hpc.symm];exact ⟨g1.bus,g1.out,.inl ⟨hm,g1.live hL,fun q hq=>g1.beh q hq,.two (g2.trans hst) g3 (g1.sp.trans hS) (g4.trans hpc)⟩⟩
theorem zfW(s:PC)(r:RG)(i:Nat)(b0 b1:Int)(irq:Bool)(hi:i=37\/i=38)(hL:Live s r i 18)(hR:Rg r)(hst:s.st=1)(hstep:s.step=1)(hS:s.s=r.S)(hpc:s.pc=(r.PC+1)%65536):Good (fun s h=>MidP s r h) s (s.turn irq).1 (s.turn irq).2 r i 18 (za i) (zd 18) [b0,b1]:=by
 obtain ⟨g1,g2,g3,g4, -⟩:=Z5 s 2 (256+r.S);have e:s.turn irq=({s with step:=2}:PC).read (256+r.S):=by
  rw [zu s irq 18 1 hst hL.md hstep,w2];show ({s with step:=2}:PC).read (zn s.s 1)=_;rw [hS];rfl
 have hm:(zo (za i) (zd 18) r ([b0,b1]++ [(({s with step:=2}:PC).read (256+r.S)).2.data])).2=true:=by rw [ZJ i _ r _ hi];rcases hi with rfl|rfl<;>rfl
 have hn:zo (za i) (zd 18) r [b0,b1]=rdR (256+(r.S+2-2)%256):=by rw [ZJ i _ r _ hi];rcases hi with rfl|rfl<;>rfl
 rw [e];unfold Good;rw [hn,ys s (256+r.S) _ (by have:=hR.S;omega)];exact ⟨g1.bus,g1.out,.inl ⟨hm,g1.live hL,fun q hq=>g1.beh q hq,.three (g2.trans hst) g3 (g1.sp.trans hS) (g4.trans hpc)⟩⟩
theorem zaT(s:PC)(r:RG)(i:Nat)(b0 b1 c:Int)(irq:Bool)(hi:i=37\/i=38)(hL:Live s r i 18)(hR:Rg r)(hB:zT s)(hst:s.st=1)(hstep:s.step=2)(hS:s.s=r.S)(hpc:s.pc=(r.PC+1)%65536):Good (fun s h=>MidP s r h) s (s.turn irq).1 (s.turn irq).2 r i 18 (za i) (zd 18) [b0,b1,c]:=by
 have ha:0<=256+(r.S+1)%256/\256+(r.S+1)%256<65536:=by omega
 have hb:=xu hB _ ha.2;have el:s.look (256+(r.S+1)%256)%256=s.look (256+(r.S+1)%256):=by omega
 have K:=zO ({s with step:=3,s:=(r.S+1)%256}:PC) (256+(r.S+1)%256);have O:=yh ({s with step:=3,s:=(r.S+1)%256}:PC) s (256+(r.S+1)%256) ⟨rfl,rfl,rfl,rfl,rfl,rfl,rfl⟩;obtain ⟨t,e,tL,tS,td,tp,tO⟩:∃t:PC,s.turn irq=(t.performLast,(s.read (256+(r.S+1)%256)).2)/\Live t r i 18/\t.s=(r.S+1)%256/\t.data=s.look (256+(r.S+1)%256)/\t.pc=(r.PC+1)%65536/\Outer t (s.read (256+(r.S+1)%256)).1:=by
  refine ⟨({(({s with step:=3,s:=(r.S+1)%256}:PC).read1 (256+(r.S+1)%256)) with data:=s.look (256+(r.S+1)%256)%256}:PC),?_,⟨K.a.trans hL.a,K.x.trans hL.x,K.y.trans hL.y,K.p.trans hL.p,K.ins.trans hL.ins,K.md.trans hL.md⟩,K.sp,el,K.pc.trans hpc,⟨O.mem,O.rom,O.cnt,O.calls,O.on,O.due,O.cyc⟩⟩;rw [zu s irq 18 2 hst hL.md hstep,w3];show (({(({s with step:=3,s:=(s.s+1)%256}:PC).read1 (zn ((s.s+1)%256) 1)) with data:=s.look (zn ((s.s+1)%256) 1)%256}:PC).performLast,(s.read (zn ((s.s+1)%256) 1)).2)=_;rw [hS];rfl
 have hn:zo (za i) (zd 18) r [b0,b1,c]=rdR (256+(r.S+3-2)%256):=by rw [ZJ i _ r _ hi];rcases hi with rfl|rfl<;>rfl
 have hm:(zo (za i) (zd 18) r ([b0,b1,c]++ [s.look (256+(r.S+1)%256)])).2=false:=by rw [ZJ i _ r _ hi];rcases hi with rfl|rfl<;>rfl
 have hf:Fin_ t.performLast (zV (za i) (zd 18) r ([b0,b1,c]++ [s.look (256+(r.S+1)%256)]))/\Outer t.performLast t:=by
  have hn:t.ins.toNat=i:=by rw [tL.ins];rfl
  rcases hi with rfl|rfl
  ·have q:t.performLast=({t with a:=t.data,p:=nzR t.p t.data}:PC).finish:=by
    unfold PC.performLast PC.perform;rw [hn];show (t.loadA t.data).finish=_;unfold PC.loadA;rw [VZ t.p t.data (by rw [tL.p];exact hR.P.1) (by rw [tL.p];exact hR.P.2) (by rw [td];exact hb.1) (by rw [td];exact hb.2)]
   rw [q];refine ⟨⟨rfl,⟨td,tL.x,tL.y,tS,?_,tp⟩,td,tL.x,tL.y,tS,?_,tp⟩,⟨rfl,rfl,rfl,rfl,rfl,rfl,rfl⟩⟩;all_goals (show nzR t.p t.data=nzR r.P (s.look (256+(r.S+1)%256));rw [tL.p,td])
  ·have q:t.performLast=({t with p:=yp (zp t.data 207) 32}:PC).finish:=by
    unfold PC.performLast PC.perform;rw [hn];show ({t with p:=YG t.data}:PC).finish=_;rw [zbe t.data (by rw [td];exact hb.1) (by rw [td];exact hb.2)]
   rw [q];refine ⟨⟨rfl,⟨tL.a,tL.x,tL.y,tS,?_,tp⟩,tL.a,tL.x,tL.y,tS,?_,tp⟩,⟨rfl,rfl,rfl,rfl,rfl,rfl,rfl⟩⟩;all_goals (show yp (zp t.data 207) 32=yp (zp (s.look (256+(r.S+1)%256)) 207) 32;rw [td])
 rw [e];unfold Good;rw [hn,ys s (256+(r.S+1)%256) _ (by have:=hR.S;omega)];exact ⟨rfl,hf.2.trans tO,.inr ⟨hm,hf.1⟩⟩
theorem zbp(i:Nat)(hi:i<56)(h:zE i 17=true):i=35\/i=36:=by
 have:∀i:Fin 56,zE i.val 17=true->i.val=35\/i.val=36:=by decide+kernel
 exact this ⟨i,hi⟩ h
inductive MidU (s:PC) (r:RG):List Int->Prop
 |two {b0 b1:Int}:s.st=1->s.step=1->s.s=r.S->s.pc=(r.PC+1)%65536->MidU s r [b0,b1]
theorem zfq(s:PC)(r:RG)(i:Nat)(b0:Int)(irq:Bool)(hi:i=35\/i=36)(hL:Live s r i 17)(hst:s.st=1)(hstep:s.step=0)(hS:s.s=r.S)(hpc:s.pc=(r.PC+1)%65536):Good (fun s h=>MidU s r h) s (s.turn irq).1 (s.turn irq).2 r i 17 (za i) (zd 17) [b0]:=by
 obtain ⟨g1,g2,g3,g4, -⟩:=Z5 s 1 s.pc;have e:s.turn irq=({s with step:=1}:PC).read s.pc:=by rw [zu s irq 17 0 hst hL.md hstep,w1];rfl
 have hm:(zo (za i) (zd 17) r ([b0]++ [(({s with step:=1}:PC).read s.pc).2.data])).2=true:=by rcases hi with rfl|rfl<;>rfl
 have hn:zo (za i) (zd 17) r [b0]=rdR (r.PC+1):=by rcases hi with rfl|rfl<;>rfl
 rw [e];unfold Good;rw [hn,ys s s.pc (r.PC+1) hpc.symm];exact ⟨g1.bus,g1.out,.inl ⟨hm,g1.live hL,fun q hq=>g1.beh q hq,.two (g2.trans hst) g3 (g1.sp.trans hS) (g4.trans hpc)⟩⟩
theorem zfr(s:PC)(r:RG)(i:Nat)(b0 b1:Int)(irq:Bool)(hi:i=35\/i=36)(hL:Live s r i 17)(hR:Rg r)(hst:s.st=1)(hstep:s.step=1)(hS:s.s=r.S)(hpc:s.pc=(r.PC+1)%65536):Good (fun s h=>MidU s r h) s (s.turn irq).1 (s.turn irq).2 r i 17 (za i) (zd 17) [b0,b1]:=by
 have em:(256+r.S)%65536=256+r.S:=by have:=hR.S;omega
 have hv:∃v:Int,({s with step:=2}:PC).perform={s with step:=2,data:=v} /\zo (za i) (zd 17) r [b0,b1]=wrR (256+r.S) v:=by
  have hn:({s with step:=2}:PC).ins.toNat=i:=by show s.ins.toNat=i;rw [hL.ins];rfl
  rcases hi with rfl|rfl
  ·refine ⟨s.a,?_,?_⟩
   ·unfold PC.perform;rw [hn];rfl
   ·rw [hL.a];rfl
  ·refine ⟨bits .or .u8 s.p 16,?_,?_⟩
   ·unfold PC.perform;rw [hn];rfl
   ·rw [YX s.p 16 (by rw [hL.p];exact hR.P.1) (by rw [hL.p];exact hR.P.2) zza zza,hL.p];rfl
 obtain ⟨v,hpf,hn⟩:=hv;have e:s.turn irq=(({(({s with step:=2,data:=v}:PC).write1 (256+r.S) v) with s:=((({s with step:=2,data:=v}:PC).write1 (256+r.S) v).s-1)%256}:PC).finish,(s.write (256+r.S) v).2):=by
  rw [zu s irq 17 1 hst hL.md hstep,w2];show ((({s with step:=2}:PC).perform.pushed ({s with step:=2}:PC).perform.data).1.finish,(({s with step:=2}:PC).perform.pushed ({s with step:=2}:PC).perform.data).2)=_;rw [hpf];show (({(({s with step:=2,data:=v}:PC).write1 (zn s.s 1) v) with s:=((({s with step:=2,data:=v}:PC).write1 (zn s.s 1) v).s-1)%256}:PC).finish,(s.write (zn s.s 1) v).2)=_;rw [show zn s.s 1=256+r.S from by rw [hS];rfl]
 obtain ⟨w1',w2'⟩:=vd ({s with step:=2,data:=v}:PC) s (256+r.S) v ⟨rfl,rfl,rfl,rfl,rfl,rfl,rfl⟩;obtain ⟨u,hu,u1,u2,u3,u4,u5,u6, -⟩:=vP ({s with step:=2,data:=v}:PC) (256+r.S) v;have hu':({s with step:=2,data:=v}:PC).write1 (256+r.S) v=u:=hu;have w2'':Outer u (s.write (256+r.S) v).1:=by rw [<-hu];exact w2'
 rw [hu'] at e;have hm:(zo (za i) (zd 17) r ([b0,b1]++ [v])).2=false:=by rcases hi with rfl|rfl<;>rfl
 have hd:zV (za i) (zd 17) r ([b0,b1]++ [v])={r with PC:=(r.PC+1)%65536,S:=(r.S-1)%256}:=by rcases hi with rfl|rfl<;>rfl
 rw [e];unfold Good;rw [hn];have hbus:s.busOf (wrR (256+r.S) v).1=s.write (256+r.S) v:=by unfold PC.busOf wrR;simp only [em];rfl
 rw [hbus];refine ⟨rfl,⟨w2''.mem,w2''.rom,w2''.cnt,w2''.calls,w2''.on,w2''.due,w2''.cyc⟩,.inr ⟨hm,?_⟩⟩;show Fin_ _ (zV (za i) (zd 17) r ([b0,b1]++ [v]));rw [hd];have us:(u.s-1)%256=(r.S-1)%256:=by rw [u4];show (s.s-1)%256=_;rw [hS]
 exact ⟨rfl,⟨u1.trans hL.a,u2.trans hL.x,u3.trans hL.y,us,u5.trans hL.p,u6.trans hpc⟩,u1.trans hL.a,u2.trans hL.x,u3.trans hL.y,us,u5.trans hL.p,u6.trans hpc⟩
theorem XV(i:Nat)(hi:i<56):(zE i 16=true->i=42)/\(zE i 22=true->i=41):=by
 have:∀i:Fin 56,(zE i.val 16=true->i.val=42)/\(zE i.val 22=true->i.val=41):=by decide+kernel
 exact this ⟨i,hi⟩
inductive MidO (s:PC) (r:RG):Nat->List Int->Prop
 |two {m:Nat} {b0 b1:Int}:s.st=1->s.step=1->s.s=r.S->MidO s r m [b0,b1]
 |three {m:Nat} {b0 b1 c:Int}:s.st=1->s.step=2->s.s=r.S->MidO s r m [b0,b1,c]
 |rts4 {b0 b1 c d:Int}:s.st=1->s.step=3->s.s=(r.S+1)%256->s.ad=d->MidO s r 16 [b0,b1,c,d]
 |rts5 {b0 b1 c d e:Int}:s.st=1->s.step=4->s.s=(r.S+2)%256->s.ad=d+256*e->MidO s r 16 [b0,b1,c,d,e]
 |rti4 {b0 b1 c d:Int}:s.st=1->s.step=3->s.s=(r.S+1)%256->s.data=d->MidO s r 22 [b0,b1,c,d]
 |rti5 {b0 b1 c d e:Int}:s.st=1->s.step=4->s.s=(r.S+2)%256->s.data=d->s.ad=e->MidO s r 22 [b0,b1,c,d,e]
def bi(m:Nat):Nat:=if m=16 then 42 else 41
theorem zfw(s:PC)(r:RG)(m:Nat)(b0:Int)(irq:Bool)(hm:m=16\/m=22)(hL:Live s r (bi m) m)(hst:s.st=1)(hstep:s.step=0)(hS:s.s=r.S)(hpc:s.pc=(r.PC+1)%65536):Good (fun s h=>MidO s r m h) s (s.turn irq).1 (s.turn irq).2 r (bi m) m (za (bi m)) (zd m) [b0]:=by
 obtain ⟨g1,g2,g3, -, -⟩:=Z5 s 1 s.pc;have e:s.turn irq=({s with step:=1}:PC).read s.pc:=by
  rw [zu s irq m 0 hst hL.md hstep,w1];rcases hm with rfl|rfl<;>rfl
 have hmore:(zo (za (bi m)) (zd m) r ([b0]++ [(({s with step:=1}:PC).read s.pc).2.data])).2=true:=by rcases hm with rfl|rfl<;>rfl
 have hn:zo (za (bi m)) (zd m) r [b0]=rdR (r.PC+1):=by rcases hm with rfl|rfl<;>rfl
 rw [e];unfold Good;rw [hn,ys s s.pc (r.PC+1) hpc.symm];exact ⟨g1.bus,g1.out,.inl ⟨hmore,g1.live hL,fun q hq=>g1.beh q hq,.two (g2.trans hst) g3 (g1.sp.trans hS)⟩⟩
theorem zfx(s:PC)(r:RG)(m:Nat)(b0 b1:Int)(irq:Bool)(hm:m=16\/m=22)(hL:Live s r (bi m) m)(hR:Rg r)(hst:s.st=1)(hstep:s.step=1)(hS:s.s=r.S):Good (fun s h=>MidO s r m h) s (s.turn irq).1 (s.turn irq).2 r (bi m) m (za (bi m)) (zd m) [b0,b1]:=by
 obtain ⟨g1,g2,g3, -, -⟩:=Z5 s 2 (256+r.S);have e:s.turn irq=({s with step:=2}:PC).read (256+r.S):=by
  rw [zu s irq m 1 hst hL.md hstep,w2, <-hS];rcases hm with rfl|rfl<;>rfl
 have hmore:(zo (za (bi m)) (zd m) r ([b0,b1]++ [(({s with step:=2}:PC).read (256+r.S)).2.data])).2=true:=by rcases hm with rfl|rfl<;>rfl
 have hn:zo (za (bi m)) (zd m) r [b0,b1]=rdR (256+(r.S+2-2)%256):=by rcases hm with rfl|rfl<;>rfl
 rw [e];unfold Good;rw [hn,ys s (256+r.S) _ (by have:=hR.S;omega)];exact ⟨g1.bus,g1.out,.inl ⟨hmore,g1.live hL,fun q hq=>g1.beh q hq,.three (g2.trans hst) g3 (g1.sp.trans hS)⟩⟩
theorem znF(s:PC)(r:RG)(b0 b1 c:Int)(irq:Bool)(hL:Live s r 42 16)(hB:zT s)(hst:s.st=1)(hstep:s.step=2)(hS:s.s=r.S):Good (fun s h=>MidO s r 16 h) s (s.turn irq).1 (s.turn irq).2 r 42 16 (za 42) (zd 16) [b0,b1,c]:=by
 have ha:0<=256+(r.S+1)%256/\256+(r.S+1)%256<65536:=by omega
 obtain ⟨g1,g2,g3,g4, -, -⟩:=ZK ({s with s:=(r.S+1)%256}:PC) 3 1 (256+(r.S+1)%256) hB ha;have e:s.turn irq=zL (({({s with s:=(r.S+1)%256}:PC) with step:=3,st:=1}:PC).read (256+(r.S+1)%256)):=by
  rw [zu s irq 16 2 hst hL.md hstep,w3,yZ s 3 hst, <-hS];rfl
 rw [e];refine Good.of (t:=({s with s:=(r.S+1)%256}:PC)) ⟨rfl,rfl,rfl,rfl,rfl,rfl,rfl⟩ (fun q hq=>⟨hq.a,hq.x,hq.y,hq.sp,hq.p,hq.pc⟩) ?_;unfold Good;rw [show zo (za 42) (zd 16) r [b0,b1,c]=rdR (256+(r.S+3-2)%256) from rfl,ys _ (256+(r.S+1)%256) _ zza];exact ⟨g1.bus,g1.out,.inl ⟨rfl,g1.live ⟨hL.a,hL.x,hL.y,hL.p,hL.ins,hL.md⟩,fun q hq=>g1.beh q hq,.rts4 g2 g3 g1.sp g4⟩⟩
theorem znG(s:PC)(r:RG)(b0 b1 c d:Int)(irq:Bool)(hL:Live s r 42 16)(hB:zT s)(hd:0<=d/\d<256)(hst:s.st=1)(hstep:s.step=3)(hS:s.s=(r.S+1)%256)(had:s.ad=d):Good (fun s h=>MidO s r 16 h) s (s.turn irq).1 (s.turn irq).2 r 42 16 (za 42) (zd 16) [b0,b1,c,d]:=by
 have hs2:(s.s+1)%256=(r.S+2)%256:=by rw [hS];omega
 have ha:0<=256+(r.S+2)%256/\256+(r.S+2)%256<65536:=by omega
 obtain ⟨g1,g2,g3,g4, -⟩:=Jp ({s with s:=(r.S+2)%256}:PC) 4 1 (256+(r.S+2)%256) hB ha (by show 0<=s.ad/\s.ad<256;rw [had];exact hd);have e:s.turn irq=zA (({({s with s:=(r.S+2)%256}:PC) with step:=4,st:=1}:PC).read (256+(r.S+2)%256)):=by
  rw [zu s irq 16 3 hst hL.md hstep,w4,yZ s 4 hst, <-hs2];rfl
 rw [e];refine Good.of (t:=({s with s:=(r.S+2)%256}:PC)) ⟨rfl,rfl,rfl,rfl,rfl,rfl,rfl⟩ (fun q hq=>⟨hq.a,hq.x,hq.y,hq.sp,hq.p,hq.pc⟩) ?_;unfold Good;rw [show zo (za 42) (zd 16) r [b0,b1,c,d]=rdR (256+(r.S+4-2)%256) from rfl,ys _ (256+(r.S+2)%256) _ zza];refine ⟨g1.bus,g1.out,.inl ⟨rfl,g1.live ⟨hL.a,hL.x,hL.y,hL.p,hL.ins,hL.md⟩,fun q hq=>g1.beh q hq,.rts5 g2 g3 g1.sp ?_⟩⟩;rw [g4];show s.ad+256*_=d+256*_;rw [had];rfl
theorem znH(s:PC)(r:RG)(b0 b1 c d f:Int)(irq:Bool)(hL:Live s r 42 16)(hd:0<=d/\d<256)(hf:0<=f/\f<256)(hst:s.st=1)(hstep:s.step=4)(hS:s.s=(r.S+2)%256)(had:s.ad=d+256*f):Good (fun s h=>MidO s r 16 h) s (s.turn irq).1 (s.turn irq).2 r 42 16 (za 42) (zd 16) [b0,b1,c,d,f]:=by
 have ha:0<=s.ad/\s.ad<65536:=by rw [had];omega
 have K:=zO ({s with step:=5}:PC) s.ad;have O:=yh ({s with step:=5}:PC) s s.ad ⟨rfl,rfl,rfl,rfl,rfl,rfl,rfl⟩;have e:s.turn irq=((({s with step:=5}:PC).read1 s.ad).performLast,(s.read s.ad).2):=by rw [zu s irq 16 4 hst hL.md hstep,w5];rfl
 have tL:Live (({s with step:=5}:PC).read1 s.ad) r 42 16:=⟨K.a.trans hL.a,K.x.trans hL.x,K.y.trans hL.y,K.p.trans hL.p,K.ins.trans hL.ins,K.md.trans hL.md⟩;have ta:(({s with step:=5}:PC).read1 s.ad).ad=d+256*f:=K.ad.trans had;have tS:(({s with step:=5}:PC).read1 s.ad).s=(r.S+2)%256:=K.sp.trans hS;have tO:Outer (({s with step:=5}:PC).read1 s.ad) (s.read s.ad).1:=O;generalize ({s with step:=5}:PC).read1 s.ad=t at*;have hn:t.ins.toNat=42:=by rw [tL.ins];rfl
 have q:t.performLast=({t with pc:=(t.ad+1)%65536}:PC).finish:=by unfold PC.performLast PC.perform;rw [hn];rfl
 have tp:(t.ad+1)%65536=(d+256*f+1)%65536:=by rw [ta]
 rw [e,q];unfold Good;rw [show zo (za 42) (zd 16) r [b0,b1,c,d,f]=rdR (d+256*f) from rfl,ys s s.ad _ (by rw [had];omega)];exact ⟨rfl,⟨tO.mem,tO.rom,tO.cnt,tO.calls,tO.on,tO.due,tO.cyc⟩,.inr ⟨rfl,⟨rfl,⟨tL.a,tL.x,tL.y,tS,tL.p,tp⟩,tL.a,tL.x,tL.y,tS,tL.p,tp⟩⟩⟩
theorem zdj(s:PC)(k t a:Int)(hB:zT s)(ha:0<=a/\a<65536):Gath s (yg (({s with step:=k,st:=t}:PC).read a)).1 (yg (({s with step:=k,st:=t}:PC).read a)).2 a/\(yg (({s with step:=k,st:=t}:PC).read a)).1.st=t/\(yg (({s with step:=k,st:=t}:PC).read a)).1.step=k/\
  (yg (({s with step:=k,st:=t}:PC).read a)).1.data=s.look a:=by
 have hb:=xu hB a ha.2;obtain ⟨g1,g2,g3⟩:=qu s k t a (({s with step:=k,st:=t}:PC).read1 a).pc (({s with step:=k,st:=t}:PC).read1 a).ad (({s with step:=k,st:=t}:PC).read1 a).hop (s.look a%256);refine ⟨g1,g2,g3,?_⟩;show s.look a%256=_;omega
theorem Q0(s:PC)(k t a:Int):(zL (({s with step:=k,st:=t}:PC).read a)).1.data=s.data:=(zO ({s with step:=k,st:=t}:PC) a).data
theorem zl1(s:PC)(r:RG)(b0 b1 c:Int)(irq:Bool)(hL:Live s r 41 22)(hB:zT s)(hst:s.st=1)(hstep:s.step=2)(hS:s.s=r.S):Good (fun s h=>MidO s r 22 h) s (s.turn irq).1 (s.turn irq).2 r 41 22 (za 41) (zd 22) [b0,b1,c]:=by
 have ha:0<=256+(r.S+1)%256/\256+(r.S+1)%256<65536:=by omega
 obtain ⟨g1,g2,g3,g4⟩:=zdj ({s with s:=(r.S+1)%256}:PC) 3 1 (256+(r.S+1)%256) hB ha;have e:s.turn irq=yg (({({s with s:=(r.S+1)%256}:PC) with step:=3,st:=1}:PC).read (256+(r.S+1)%256)):=by
  rw [zu s irq 22 2 hst hL.md hstep,w3,yZ s 3 hst, <-hS];rfl
 rw [e];refine Good.of (t:=({s with s:=(r.S+1)%256}:PC)) ⟨rfl,rfl,rfl,rfl,rfl,rfl,rfl⟩ (fun q hq=>⟨hq.a,hq.x,hq.y,hq.sp,hq.p,hq.pc⟩) ?_;unfold Good;rw [show zo (za 41) (zd 22) r [b0,b1,c]=rdR (256+(r.S+3-2)%256) from rfl,ys _ (256+(r.S+1)%256) _ zza];exact ⟨g1.bus,g1.out,.inl ⟨rfl,g1.live ⟨hL.a,hL.x,hL.y,hL.p,hL.ins,hL.md⟩,fun q hq=>g1.beh q hq,.rti4 g2 g3 g1.sp g4⟩⟩
theorem zl2(s:PC)(r:RG)(b0 b1 c d:Int)(irq:Bool)(hL:Live s r 41 22)(hB:zT s)(hst:s.st=1)(hstep:s.step=3)(hS:s.s=(r.S+1)%256)(hd:s.data=d):Good (fun s h=>MidO s r 22 h) s (s.turn irq).1 (s.turn irq).2 r 41 22 (za 41) (zd 22) [b0,b1,c,d]:=by
 have hs2:(s.s+1)%256=(r.S+2)%256:=by rw [hS];omega
 have ha:0<=256+(r.S+2)%256/\256+(r.S+2)%256<65536:=by omega
 obtain ⟨g1,g2,g3,g4, -, -⟩:=ZK ({s with s:=(r.S+2)%256}:PC) 4 1 (256+(r.S+2)%256) hB ha;have gd:=Q0 ({s with s:=(r.S+2)%256}:PC) 4 1 (256+(r.S+2)%256);have e:s.turn irq=zL (({({s with s:=(r.S+2)%256}:PC) with step:=4,st:=1}:PC).read (256+(r.S+2)%256)):=by
  rw [zu s irq 22 3 hst hL.md hstep,w4,yZ s 4 hst, <-hs2];rfl
 rw [e];refine Good.of (t:=({s with s:=(r.S+2)%256}:PC)) ⟨rfl,rfl,rfl,rfl,rfl,rfl,rfl⟩ (fun q hq=>⟨hq.a,hq.x,hq.y,hq.sp,hq.p,hq.pc⟩) ?_;unfold Good;rw [show zo (za 41) (zd 22) r [b0,b1,c,d]=rdR (256+(r.S+4-2)%256) from rfl,ys _ (256+(r.S+2)%256) _ zza];exact ⟨g1.bus,g1.out,.inl ⟨rfl,g1.live ⟨hL.a,hL.x,hL.y,hL.p,hL.ins,hL.md⟩,fun q hq=>g1.beh q hq,.rti5 g2 g3 g1.sp (gd.trans hd) g4⟩⟩
theorem zl3(s:PC)(r:RG)(b0 b1 c d f:Int)(irq:Bool)(hL:Live s r 41 22)(hB:zT s)(hdb:0<=d/\d<256)(hf:0<=f/\f<256)(hst:s.st=1)(hstep:s.step=4)(hS:s.s=(r.S+2)%256)(hd:s.data=d)(had:s.ad=f):Good (fun s h=>MidO s r 22 h) s (s.turn irq).1 (s.turn irq).2 r 41 22 (za 41) (zd 22) [b0,b1,c,d,f]:=by
 have hs3:(s.s+1)%256=(r.S+3)%256:=by rw [hS];omega
 have ha:0<=256+(r.S+3)%256/\256+(r.S+3)%256<65536:=by omega
 have hb:=xu hB _ ha.2;have K:=zO ({s with step:=5,s:=(r.S+3)%256}:PC) (256+(r.S+3)%256);have O:=yh ({s with step:=5,s:=(r.S+3)%256}:PC) s (256+(r.S+3)%256) ⟨rfl,rfl,rfl,rfl,rfl,rfl,rfl⟩;have hj:zn (loI (({s with step:=5,s:=(r.S+3)%256}:PC).read1 (256+(r.S+3)%256)).ad) (s.look (256+(r.S+3)%256)%256)=f+256*s.look (256+(r.S+3)%256):=by
  rw [K.ad];unfold zn loI;show s.look (256+(r.S+3)%256)%256*256+s.ad%256=_;rw [had];omega
 obtain ⟨t,e,tL,tS,td,ta,tO⟩:∃t:PC,s.turn irq=(t.performLast,(s.read (256+(r.S+3)%256)).2)/\Live t r 41 22/\t.s=(r.S+3)%256/\t.data=d/\t.ad=f+256*s.look (256+(r.S+3)%256)/\Outer t (s.read (256+(r.S+3)%256)).1:=by
  refine ⟨({(({s with step:=5,s:=(r.S+3)%256}:PC).read1 (256+(r.S+3)%256)) with ad:=zn (loI (({s with step:=5,s:=(r.S+3)%256}:PC).read1 (256+(r.S+3)%256)).ad) (s.look (256+(r.S+3)%256)%256)}:PC),?_,⟨K.a.trans hL.a,K.x.trans hL.x,K.y.trans hL.y,K.p.trans hL.p,K.ins.trans hL.ins,K.md.trans hL.md⟩,K.sp,K.data.trans hd,hj,⟨O.mem,O.rom,O.cnt,O.calls,O.on,O.due,O.cyc⟩⟩;rw [zu s irq 22 4 hst hL.md hstep,w5, <-hs3];rfl
 have hn:t.ins.toNat=41:=by rw [tL.ins];rfl
 have q:t.performLast=({t with p:=yp (zp d 207) 32,pc:=t.ad}:PC).finish:=by
  unfold PC.performLast PC.perform;rw [hn];show ({t with p:=YG t.data,pc:=t.ad}:PC).finish=_;rw [td,zbe d hdb.1 hdb.2]
 rw [e,q];unfold Good;rw [show zo (za 41) (zd 22) r [b0,b1,c,d,f]=rdR (256+(r.S+5-2)%256) from rfl,ys s (256+(r.S+3)%256) _ zza];exact ⟨rfl,⟨tO.mem,tO.rom,tO.cnt,tO.calls,tO.on,tO.due,tO.cyc⟩,.inr ⟨rfl,⟨rfl,⟨tL.a,tL.x,tL.y,tS,rfl,ta⟩,tL.a,tL.x,tL.y,tS,rfl,ta⟩⟩⟩
