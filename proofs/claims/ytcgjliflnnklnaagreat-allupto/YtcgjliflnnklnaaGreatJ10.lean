import Derived.Test.YtcgjliflnnklnaaGreatJ09
import Derived.Test.YtcgjliflnnklnaaGreatJ02
namespace Go.Proofs.YtcgjliflnnklnaaGreat
open Go.RowKit
structure Push (s s':PC) (b:BusI) (a v k:Int):Prop where
 bus:b=(s.write a v).2
 out:Outer s' (s.write a v).1
 a:s'.a=s.a
 x:s'.x=s.x
 y:s'.y=s.y
 p:s'.p=s.p
 pc:s'.pc=s.pc
 ins:s'.ins=s.ins
 md:s'.md=s.md
 st:s'.st=s.st
 step:s'.step=k
 ad:s'.ad=s.ad
 sp:s'.s=(s.s-1)%256
 beh:∀q,Beh s q->Beh s' q
theorem VT(s:PC)(k v a:Int)(ha:zn s.s 1=a):Push s (({s with step:=k}:PC).pushed v).1 (({s with step:=k}:PC).pushed v).2 a v k:=by
 subst ha;obtain ⟨-,w2⟩:=vd ({s with step:=k}:PC) s (zn s.s 1) v ⟨rfl,rfl,rfl,rfl,rfl,rfl,rfl⟩;obtain ⟨u,hu,u1,u2,u3,u4,u5,u6,u7,u8,u9,u10,u11,u12,u13,u14,u15,u16,u17, -⟩:=vP ({s with step:=k}:PC) (zn s.s 1) v;have e:({s with step:=k}:PC).pushed v=({u with s:=(u.s-1)%256},(s.write (zn s.s 1) v).2):=by
  show ({(({s with step:=k}:PC).write (zn s.s 1) v).1 with s:=((({s with step:=k}:PC).write (zn s.s 1) v).1.s-1)%256},(s.write (zn s.s 1) v).2)=_;rw [hu]
 rw [hu] at w2;rw [e];exact ⟨rfl,⟨w2.mem,w2.rom,w2.cnt,w2.calls,w2.on,w2.due,w2.cyc⟩,u1,u2,u3,u5,u6,u14,u15,u13,u16,u17,by show (u.s-1)%256=_;rw [u4],fun q hq=>⟨u7.trans hq.a,u8.trans hq.x,u9.trans hq.y,u10.trans hq.sp,u11.trans hq.p,u12.trans hq.pc⟩⟩
theorem Push.live{s s':PC}{b:BusI}{a v k:Int}(h:Push s s' b a v k){r:RG}{i m:Nat}(hL:Live s r i m):Live s' r i m:=
 ⟨h.a.trans hL.a,h.x.trans hL.x,h.y.trans hL.y,h.p.trans hL.p,h.ins.trans hL.ins,h.md.trans hL.md⟩
theorem VU(s:PC)(a x v:Int)(hx:x%65536=a):s.busOf (wrR x v).1=s.write a v:=by
 unfold PC.busOf wrR;simp only [hx];rfl
inductive MidS (s:PC) (r:RG):List Int->Prop
 |two {b0 b1:Int}:s.st=1->s.step=1->s.ad=b1->s.s=r.S->s.pc=(r.PC+2)%65536->MidS s r [b0,b1]
 |three {b0 b1 c:Int}:s.st=1->s.step=2->s.ad=b1->s.s=r.S->s.pc=(r.PC+2)%65536->MidS s r [b0,b1,c]
 |four {b0 b1 c d:Int}:s.st=1->s.step=3->s.ad=b1->s.s=(r.S-1)%256->s.pc=(r.PC+2)%65536->MidS s r [b0,b1,c,d]
 |five {b0 b1 c d f:Int}:s.st=1->s.step=4->s.ad=b1->s.s=(r.S-2)%256->s.pc=(r.PC+2)%65536->MidS s r [b0,b1,c,d,f]
theorem zm6(s:PC)(r:RG)(b0:Int)(irq:Bool)(hL:Live s r 28 15)(hR:Rg r)(hB:zT s)(hst:s.st=1)(hstep:s.step=0)(hS:s.s=r.S)(hpc:s.pc=(r.PC+1)%65536):Good (fun s h=>MidS s r h) s (s.turn irq).1 (s.turn irq).2 r 28 15 (za 28) (zd 15) [b0]:=by
 have hp:0<=s.pc/\s.pc<65536:=by rw [hpc];omega
 obtain ⟨g1,g2,g3,g4,g5⟩:=za4 s 1 1 hB hp;have e:s.turn irq=zL ({s with step:=1,st:=1}:PC).readNext:=by rw [zu s irq 15 0 hst hL.md hstep,w1,yZ s 1 hst];rfl
 rw [e];unfold Good;rw [show zo (za 28) (zd 15) r [b0]=rdR (r.PC+1) from rfl,ys s s.pc (r.PC+1) hpc.symm];refine ⟨g1.bus,g1.out,.inl ⟨rfl,g1.live hL,fun q hq=>g1.beh q hq,.two g2 g3 g4 (g1.sp.trans hS) ?_⟩⟩;rw [g5,hpc];have:=hR.PC;omega
theorem zm7(s:PC)(r:RG)(b0 b1:Int)(irq:Bool)(hL:Live s r 28 15)(hR:Rg r)(hst:s.st=1)(hstep:s.step=1)(had:s.ad=b1)(hS:s.s=r.S)(hpc:s.pc=(r.PC+2)%65536):Good (fun s h=>MidS s r h) s (s.turn irq).1 (s.turn irq).2 r 28 15 (za 28) (zd 15) [b0,b1]:=by
 obtain ⟨g1,g2,g3,g4,g5⟩:=Z5 s 2 (256+r.S);have e:s.turn irq=({s with step:=2}:PC).read (256+r.S):=by rw [zu s irq 15 1 hst hL.md hstep,w2, <-hS];rfl
 rw [e];unfold Good;rw [show zo (za 28) (zd 15) r [b0,b1]=rdR (256+r.S) from rfl,ys s (256+r.S) _ (by have:=hR.S;omega)];exact ⟨g1.bus,g1.out,.inl ⟨rfl,g1.live hL,fun q hq=>g1.beh q hq,.three (g2.trans hst) g3 (g5.trans had) (g1.sp.trans hS) (g4.trans hpc)⟩⟩
theorem zm8(s:PC)(r:RG)(b0 b1 c:Int)(irq:Bool)(hL:Live s r 28 15)(hR:Rg r)(hst:s.st=1)(hstep:s.step=2)(had:s.ad=b1)(hS:s.s=r.S)(hpc:s.pc=(r.PC+2)%65536):Good (fun s h=>MidS s r h) s (s.turn irq).1 (s.turn irq).2 r 28 15 (za 28) (zd 15) [b0,b1,c]:=by
 have g:=VT s 3 ((r.PC+2)%65536/256) (256+r.S) (by rw [hS];rfl);have e:s.turn irq=({s with step:=3}:PC).pushed ((r.PC+2)%65536/256):=by rw [zu s irq 15 2 hst hL.md hstep,w3, <-hpc];rfl
 rw [e];unfold Good;rw [show zo (za 28) (zd 15) r [b0,b1,c]=wrR (256+r.S) ((r.PC+1+1)%65536/256) from rfl,show r.PC+1+1=r.PC+2 from by omega,VU s (256+r.S) _ _ (by have:=hR.S;omega)];exact ⟨g.bus,g.out,.inl ⟨rfl,g.live hL,g.beh,.four (g.st.trans hst) g.step (g.ad.trans had) (by rw [g.sp,hS]) (g.pc.trans hpc)⟩⟩
theorem zm9(s:PC)(r:RG)(b0 b1 c d:Int)(irq:Bool)(hL:Live s r 28 15)(hst:s.st=1)(hstep:s.step=3)(had:s.ad=b1)(hS:s.s=(r.S-1)%256)(hpc:s.pc=(r.PC+2)%65536):Good (fun s h=>MidS s r h) s (s.turn irq).1 (s.turn irq).2 r 28 15 (za 28) (zd 15) [b0,b1,c,d]:=by
 have g:=VT s 4 ((r.PC+2)%65536%256) (256+(r.S-1)%256) (by rw [hS];rfl);have e:s.turn irq=({s with step:=4}:PC).pushed ((r.PC+2)%65536%256):=by rw [zu s irq 15 3 hst hL.md hstep,w4, <-hpc];rfl
 rw [e];unfold Good;rw [show zo (za 28) (zd 15) r [b0,b1,c,d]=wrR (256+(r.S-1)%256) ((r.PC+1+1)%256) from rfl,show (r.PC+1+1)%256=(r.PC+2)%65536%256 from by omega,VU s (256+(r.S-1)%256) _ _ zza];exact ⟨g.bus,g.out,.inl ⟨rfl,g.live hL,g.beh,.five (g.st.trans hst) g.step (g.ad.trans had) (by rw [g.sp,hS];omega) (g.pc.trans hpc)⟩⟩
theorem zf5(s:PC)(r r':RG)(i m:Nat)(k a:Int)(f:Int->Int)(hdo:∀t:PC,t.doIns i={t with pc:=t.ad,p:=f t.p})(hL:Live s r i m)(hA:r'.A=r.A)(hX:r'.X=r.X)(hY:r'.Y=r.Y)(hS:s.s=r'.S)(hP:f r.P=r'.P)(hB:zT s)(ha:0<=a/\a<65536)(had:0<=s.ad/\s.ad<256)(hpc:r'.PC=s.ad+256*s.look a):(yC (({s with step:=k}:PC).read a)).2=(s.read a).2/\Outer (yC (({s with step:=k}:PC).read a)).1 (s.read a).1/\Fin_ (yC (({s with step:=k}:PC).read a)).1 r':=by
 have hb:=xu hB a ha.2;have K:=zO ({s with step:=k}:PC) a;have O:=yh ({s with step:=k}:PC) s a ⟨rfl,rfl,rfl,rfl,rfl,rfl,rfl⟩;have hn:(({s with step:=k}:PC).read1 a).ins.toNat=i:=by rw [K.ins];show s.ins.toNat=i;rw [hL.ins];rfl
 have hj:zn (loI (({s with step:=k}:PC).read1 a).ad) (s.look a%256)=s.ad+256*s.look a:=by
  rw [K.ad];unfold zn loI;show s.look a%256*256+s.ad%256=_;omega
 have e:(yC (({s with step:=k}:PC).read a)).1=({({(({s with step:=k}:PC).read1 a) with ad:=s.ad+256*s.look a}:PC) with pc:=s.ad+256*s.look a,p:=f (({s with step:=k}:PC).read1 a).p}:PC).finish:=by
  show ({(({s with step:=k}:PC).read1 a) with ad:=zn (loI (({s with step:=k}:PC).read1 a).ad) (s.look a%256)}:PC).performLast=_;rw [hj];unfold PC.performLast PC.perform;show (({(({s with step:=k}:PC).read1 a) with ad:=s.ad+256*s.look a}:PC).doIns (({s with step:=k}:PC).read1 a).ins.toNat).finish=_;rw [hn,hdo]
 have qp:f (({s with step:=k}:PC).read1 a).p=r'.P:=by rw [K.p, <-hP];show f s.p=_;rw [hL.p]
 have qa:=(K.a.trans hL.a).trans hA.symm;have qx:=(K.x.trans hL.x).trans hX.symm;have qy:=(K.y.trans hL.y).trans hY.symm;have qs:=K.sp.trans hS;rw [e];exact ⟨rfl,⟨O.mem,O.rom,O.cnt,O.calls,O.on,O.due,O.cyc⟩,⟨rfl,⟨qa,qx,qy,qs,qp,hpc.symm⟩,qa,qx,qy,qs,qp,hpc.symm⟩⟩
theorem zog(s:PC)(r:RG)(b0 b1 c d f:Int)(irq:Bool)(hL:Live s r 28 15)(hB:zT s)(hb1:0<=b1/\b1<256)(hst:s.st=1)(hstep:s.step=4)(had:s.ad=b1)(hS:s.s=(r.S-2)%256)(hpc:s.pc=(r.PC+2)%65536):Good (fun s h=>MidS s r h) s (s.turn irq).1 (s.turn irq).2 r 28 15 (za 28) (zd 15) [b0,b1,c,d,f]:=by
 subst had;have hp:0<=s.pc/\s.pc<65536:=by rw [hpc];omega
 obtain ⟨f1,f2,f3⟩:=zf5 s r {r with S:=(r.S-2)%256,PC:=s.ad+256*s.look s.pc} 28 15 5 s.pc (fun p=>p) (fun _=>rfl) hL rfl rfl rfl hS rfl hB hp hb1 rfl;have e:s.turn irq=yC (({s with step:=5}:PC).read s.pc):=by rw [zu s irq 15 4 hst hL.md hstep,w5];rfl
 rw [e];unfold Good;rw [show zo (za 28) (zd 15) r [b0,s.ad,c,d,f]=rdR (r.PC+1+1) from rfl,ys s s.pc (r.PC+1+1) (by rw [hpc];omega),f1];exact ⟨rfl,f2,.inr ⟨rfl,f3⟩⟩
structure Seq (m:Nat) (r:RG) (back fl vec:Int):Prop where
 nx:∀h:List Int,zo (ya 12 m) (zd m) r h=yI (ya 12 m) r h.length
 e2:yI (ya 12 m) r 2=wrR (256+r.S) (back/256)
 e3:yI (ya 12 m) r 3=wrR (256+(r.S-1)%256) (back%256)
 e4:yI (ya 12 m) r 4=wrR (256+(r.S-2)%256) fl
 e5:yI (ya 12 m) r 5=rdR vec
 e6:yI (ya 12 m) r 6=rdR (vec+1)
 e7:yI (ya 12 m) r 7=dnR
 dn:∀h:List Int,zV (ya 12 m) (zd m) r h={r with S:=(r.S-3)%256,P:=yp r.P 4,PC:=hd h 5+256*hd h 6}
 tn:∀t:PC,t.p=r.P->t.step≠1->t.doMode m=t.enter vec fl
 vr:vec=65530\/vec=65534
def jF(m:Nat)(r:RG):Int:=if m=19 then (r.PC+2)%65536 else r.PC
def flI(m:Nat)(r:RG):Int:=if m=19 then yp r.P 16 else r.P
def XK(m:Nat):Int:=if m=20 then 65530 else 65534
theorem YY(m:Nat)(r:RG)(hR:Rg r)(hm:m=19\/m=20\/m=21):Seq m r (jF m r) (flI m r) (XK m):=by
 rcases hm with rfl|rfl|rfl
 ·refine ⟨fun h=>rfl,rfl,rfl,rfl,rfl,rfl,rfl,fun h=>rfl,fun t ht hk=>?_,.inr rfl⟩;show t.enterByBreak=_;unfold PC.enterByBreak;rw [if_neg hk,ht,YX r.P 16 hR.P.1 hR.P.2 zzb zzb];rfl
 ·refine ⟨fun h=>rfl,rfl,rfl,rfl,rfl,rfl,rfl,fun h=>rfl,fun t ht hk=>?_,.inl rfl⟩;show t.enterByNMI=_;unfold PC.enterByNMI;rw [if_neg hk,ht];rfl
 ·refine ⟨fun h=>rfl,rfl,rfl,rfl,rfl,rfl,rfl,fun h=>rfl,fun t ht hk=>?_,.inr rfl⟩;show t.enterByIRQ=_;unfold PC.enterByIRQ;rw [if_neg hk,ht];rfl
inductive MidI (s:PC) (r:RG) (m:Nat):List Int->Prop
 |two {b0 b1:Int}:s.st=1->s.step=1->s.s=r.S->s.pc=jF m r->MidI s r m [b0,b1]
 |three {b0 b1 c:Int}:s.st=1->s.step=2->s.s=(r.S-1)%256->s.pc=jF m r->MidI s r m [b0,b1,c]
 |four {b0 b1 c d:Int}:s.st=1->s.step=3->s.s=(r.S-2)%256->MidI s r m [b0,b1,c,d]
 |five {b0 b1 c d f:Int}:s.st=1->s.step=4->s.s=(r.S-3)%256->MidI s r m [b0,b1,c,d,f]
 |six {b0 b1 c d f g:Int}:s.st=1->s.step=5->s.ad=g->s.s=(r.S-3)%256->MidI s r m [b0,b1,c,d,f,g]
theorem zln(p:Int)(h0:0<=p)(h1:p<256):xb p 4 true=yp p 4:=
 yX (p:=fun p=>xb p 4 true=yp p 4) (by decide+kernel) p h0 h1
section
theorem zj9(s:PC)(r:RG)(m:Nat)(irq:Bool)(hm:m=19\/m=20\/m=21)(hR:Rg r)(hL:Live s r 12 m)(hst:s.st=1)(b0:Int)(hstep:s.step=0)(hS:s.s=r.S)(hpc:s.pc=if m=19 then (r.PC+1)%65536 else r.PC):Good (fun s h=>MidI s r m h) s (s.turn irq).1 (s.turn irq).2 r 12 m (ya 12 m) (zd m) [b0]:=by
 have S:=YY m r hR hm;have hp:0<=s.pc/\s.pc<65536:=by have:=hR.PC;rw [hpc];split<;>omega
 by_cases h19:m=19
 ·subst h19;have e:s.turn irq=({s with step:=1,st:=1}:PC).readNext:=by rw [zu s irq 19 0 hst hL.md hstep,w1,yZ s 1 hst];rfl
  obtain ⟨g1,g2,g3⟩:=qu s 1 1 s.pc ((s.pc+1)%65536) s.ad s.hop s.data;have K:=zO ({s with step:=1,st:=1}:PC) s.pc;have e2:({s with step:=1,st:=1}:PC).readNext=(({(({s with step:=1,st:=1}:PC).read1 s.pc) with pc:=(s.pc+1)%65536,ad:=s.ad,hop:=s.hop,data:=s.data}:PC),(s.read s.pc).2):=by
   have q:∀V:PC,V.pc=s.pc->V.ad=s.ad->V.hop=s.hop->V.data=s.data->({V with pc:=(V.pc+1)%65536}:PC)={V with pc:=(s.pc+1)%65536,ad:=s.ad,hop:=s.hop,data:=s.data}:=by
    intro V h1 h2 h3 h4;rw [<-h1, <-h2, <-h3, <-h4]
   show (({(({s with step:=1,st:=1}:PC).read1 s.pc) with pc:=((({s with step:=1,st:=1}:PC).read1 s.pc).pc+1)%65536}:PC),(s.read s.pc).2)=_;rw [q _ K.pc K.ad K.hop K.data]
  rw [e,e2];unfold Good;rw [show zo (ya 12 19) (zd 19) r [b0]=rdR (r.PC+1) from rfl,ys s s.pc (r.PC+1) (by rw [hpc];rfl)];refine ⟨g1.bus,g1.out,.inl ⟨rfl,g1.live hL,fun q hq=>g1.beh q hq,.two g2 g3 (g1.sp.trans hS) ?_⟩⟩;show (s.pc+1)%65536=jF 19 r;rw [hpc];unfold jF;have:=hR.PC;simp;omega
 ·rw [if_neg h19] at hpc;have e:s.turn irq=({s with step:=1}:PC).read s.pc:=by
   rw [zu s irq m 0 hst hL.md hstep,w1];rcases hm with h|rfl|rfl
   ·exact absurd h h19
   ·rfl
   ·rfl
  obtain ⟨g1,g2,g3,g4,g5⟩:=Z5 s 1 s.pc;have hn:zo (ya 12 m) (zd m) r [b0]=rdR r.PC:=by
   rcases hm with h|rfl|rfl
   ·exact absurd h h19
   ·rfl
   ·rfl
  rw [e];unfold Good;rw [hn,ys s s.pc r.PC (by rw [hpc];have:=hR.PC;omega)];refine ⟨g1.bus,g1.out,.inl ⟨?_,g1.live hL,fun q hq=>g1.beh q hq,.two (g2.trans hst) g3 (g1.sp.trans hS) ?_⟩⟩
  ·rw [S.nx];show (yI (ya 12 m) r 2).2=true;rw [S.e2];rfl
  ·rw [g4,hpc];unfold jF;rw [if_neg h19]
theorem znr(s:PC)(r:RG)(m:Nat)(irq:Bool)(hm:m=19\/m=20\/m=21)(hR:Rg r)(hL:Live s r 12 m)(hst:s.st=1)(b0 b1:Int)(hstep:s.step=1)(hS:s.s=r.S)(hpc:s.pc=jF m r):Good (fun s h=>MidI s r m h) s (s.turn irq).1 (s.turn irq).2 r 12 m (ya 12 m) (zd m) [b0,b1]:=by
 have S:=YY m r hR hm;have g:=VT s 2 (jF m r/256) (256+r.S) (by rw [hS];rfl);have e:s.turn irq=({s with step:=2}:PC).pushed (jF m r/256):=by
  rw [zu s irq m 1 hst hL.md hstep,w2,S.tn ({s with step:=2}:PC) hL.p (by show (2:Int)≠1;decide), <-hpc];rfl
 rw [e];unfold Good;rw [show zo (ya 12 m) (zd m) r [b0,b1]=wrR (256+r.S) (jF m r/256) from by rw [S.nx];exact S.e2,VU s (256+r.S) _ _ (by have:=hR.S;omega)];refine ⟨g.bus,g.out,.inl ⟨?_,g.live hL,g.beh,.three (g.st.trans hst) g.step (by rw [g.sp,hS]) (g.pc.trans hpc)⟩⟩;rw [S.nx];show (yI (ya 12 m) r 3).2=true;rw [S.e3];rfl
theorem zns(s:PC)(r:RG)(m:Nat)(irq:Bool)(hm:m=19\/m=20\/m=21)(hR:Rg r)(hL:Live s r 12 m)(hst:s.st=1)(b0 b1 c:Int)(hstep:s.step=2)(hS:s.s=(r.S-1)%256)(hpc:s.pc=jF m r):Good (fun s h=>MidI s r m h) s (s.turn irq).1 (s.turn irq).2 r 12 m (ya 12 m) (zd m) [b0,b1,c]:=by
 have S:=YY m r hR hm;have g:=VT s 3 (jF m r%256) (256+(r.S-1)%256) (by rw [hS];rfl);have e:s.turn irq=({s with step:=3}:PC).pushed (jF m r%256):=by
  rw [zu s irq m 2 hst hL.md hstep,w3,S.tn ({s with step:=3}:PC) hL.p (by show (3:Int)≠1;decide), <-hpc];rfl
 rw [e];unfold Good;rw [show zo (ya 12 m) (zd m) r [b0,b1,c]=wrR (256+(r.S-1)%256) (jF m r%256) from by rw [S.nx];exact S.e3,VU s (256+(r.S-1)%256) _ _ zza];refine ⟨g.bus,g.out,.inl ⟨?_,g.live hL,g.beh,.four (g.st.trans hst) g.step (by rw [g.sp,hS];omega)⟩⟩;rw [S.nx];show (yI (ya 12 m) r 4).2=true;rw [S.e4];rfl
theorem znt(s:PC)(r:RG)(m:Nat)(irq:Bool)(hm:m=19\/m=20\/m=21)(hR:Rg r)(hL:Live s r 12 m)(hst:s.st=1)(b0 b1 c d:Int)(hstep:s.step=3)(hS:s.s=(r.S-2)%256):Good (fun s h=>MidI s r m h) s (s.turn irq).1 (s.turn irq).2 r 12 m (ya 12 m) (zd m) [b0,b1,c,d]:=by
 have S:=YY m r hR hm;have g:=VT s 4 (flI m r) (256+(r.S-2)%256) (by rw [hS];rfl);have e:s.turn irq=({s with step:=4}:PC).pushed (flI m r):=by
  rw [zu s irq m 3 hst hL.md hstep,w4,S.tn ({s with step:=4}:PC) hL.p (by show (4:Int)≠1;decide)];rfl
 rw [e];unfold Good;rw [show zo (ya 12 m) (zd m) r [b0,b1,c,d]=wrR (256+(r.S-2)%256) (flI m r) from by rw [S.nx];exact S.e4,VU s (256+(r.S-2)%256) _ _ zza];refine ⟨g.bus,g.out,.inl ⟨?_,g.live hL,g.beh,.five (g.st.trans hst) g.step (by rw [g.sp,hS];omega)⟩⟩;rw [S.nx];show (yI (ya 12 m) r 5).2=true;rw [S.e5];rfl
theorem znu(s:PC)(r:RG)(m:Nat)(irq:Bool)(hm:m=19\/m=20\/m=21)(hR:Rg r)(hL:Live s r 12 m)(hst:s.st=1)(b0 b1 c d f:Int)(hB:zT s)(hstep:s.step=4)(hS:s.s=(r.S-3)%256):Good (fun s h=>MidI s r m h) s (s.turn irq).1 (s.turn irq).2 r 12 m (ya 12 m) (zd m) [b0,b1,c,d,f]:=by
 have S:=YY m r hR hm;have hv:=S.vr;obtain ⟨g1,g2,g3,g4,g5⟩:=ZK s 5 1 (XK m) hB zza;have e:s.turn irq=zL (({s with step:=5,st:=1}:PC).read (XK m)):=by
  rw [zu s irq m 4 hst hL.md hstep,w5,S.tn ({s with step:=5}:PC) hL.p (by show (5:Int)≠1;decide),yZ s 5 hst];rfl
 rw [e];unfold Good;rw [show zo (ya 12 m) (zd m) r [b0,b1,c,d,f]=rdR (XK m) from by rw [S.nx];exact S.e5,ys s (XK m) _ zza];refine ⟨g1.bus,g1.out,.inl ⟨?_,g1.live hL,fun q hq=>g1.beh q hq,.six g2 g3 g4 (g1.sp.trans hS)⟩⟩;rw [S.nx];show (yI (ya 12 m) r 6).2=true;rw [S.e6];rfl
theorem znv(s:PC)(r:RG)(m:Nat)(irq:Bool)(hm:m=19\/m=20\/m=21)(hR:Rg r)(hL:Live s r 12 m)(hst:s.st=1)(b0 b1 c d f g:Int)(hB:zT s)(hg:0<=g/\g<256)(hstep:s.step=5)(had:s.ad=g)(hS:s.s=(r.S-3)%256):Good (fun s h=>MidI s r m h) s (s.turn irq).1 (s.turn irq).2 r 12 m (ya 12 m) (zd m) [b0,b1,c,d,f,g]:=by
 have S:=YY m r hR hm;subst had;have hv:=S.vr;have em:(XK m+1)%65536=XK m+1:=by omega
 obtain ⟨f1,f2,f3⟩:=zf5 s r {r with S:=(r.S-3)%256,P:=yp r.P 4,PC:=s.ad+256*s.look (XK m+1)} 12 m 6 (XK m+1) (fun p=>xb p 4 true) (fun _=>rfl) hL rfl rfl rfl hS (zln r.P hR.P.1 hR.P.2) hB zza hg rfl;have e:s.turn irq=yC (({s with step:=6}:PC).read (XK m+1)):=by
  rw [zu s irq m 5 hst hL.md hstep,w6,S.tn ({s with step:=6}:PC) hL.p (by show (6:Int)≠1;decide), <-em];rfl
 rw [e];unfold Good;rw [show zo (ya 12 m) (zd m) r [b0,b1,c,d,f,s.ad]=rdR (XK m+1) from by rw [S.nx];exact S.e6,ys s (XK m+1) _ zza,f1];refine ⟨rfl,f2,.inr ⟨?_,?_⟩⟩
 ·rw [S.nx];show (yI (ya 12 m) r 7).2=false;rw [S.e7];rfl
 ·rw [S.dn];exact f3
end
inductive Midst (s:PC) (r:RG) (i m:Nat) (h:List Int):Prop
 |one (b0:Int):h=[b0] ->s.st=1->s.step=0->s.s=r.S->(s.pc=if m=20\/m=21 then r.PC else (r.PC+1)%65536)->Midst s r i m h
 |plc:4<=m->m<=11->Mid s r i m h->Midst s r i m h
 |rel:m=12->MidB s r (za i) h->Midst s r i m h
 |jmp:m=13\/m=14->MidJ s r m h->Midst s r i m h
 |jsr:m=15->MidS s r h->Midst s r i m h
 |back:m=16\/m=22->MidO s r m h->Midst s r i m h
 |push:m=17->MidU s r h->Midst s r i m h
 |pull:m=18->MidP s r h->Midst s r i m h
 |int:m=19\/m=20\/m=21->MidI s r m h->Midst s r i m h
theorem Good.mono{M M':PC->List Int->Prop}{s s':PC}{b:BusI}{r:RG}{i m:Nat}{op md:BA}{h:List Int}(f:∀s h,M s h->M' s h)(g:Good M s s' b r i m op md h):Good M' s s' b r i m op md h:=by
 obtain ⟨g1,g2,g3⟩:=g;refine ⟨g1,g2,?_⟩;rcases g3 with ⟨a,b,c,d⟩|q
 ·exact .inl ⟨a,b,c,f _ _ d⟩
 ·exact .inr q
theorem x9(i m:Nat)(h0:m≠20)(h1:m≠21):ya i m=za i:=by unfold ya;rw [if_neg h0,if_neg h1]
theorem zll(i:Nat)(hi:i<56):zE i 0=false:=by
 have:∀i:Fin 56,zE i.val 0=false:=by decide+kernel
 exact this ⟨i,hi⟩
theorem m_le(i m:Nat)(h:zE i m=true):m<=22:=by
 unfold zE at h;rw [Bool.or_eq_true] at h;rcases h with h|h
 ·rw [List.any_eq_true] at h;obtain ⟨e,he,hh⟩:=h;have all:∀e∈jG,e.2.2<=22:=by decide+kernel
  have:=all e he;simp at hh;omega
 ·simp at h;omega
theorem zau(i m:Nat)(hi:i<56)(hm:m=19\/m=20\/m=21)(h:zE i m=true):i=12:=by
 have:∀i:Fin 56,(zE i.val 19=true->i.val=12)/\(zE i.val 20=true->i.val=12)/\(zE i.val 21=true->i.val=12):=by decide+kernel
 rcases hm with rfl|rfl|rfl
 ·exact (this ⟨i,hi⟩).1 h
 ·exact (this ⟨i,hi⟩).2.1 h
 ·exact (this ⟨i,hi⟩).2.2 h
theorem zfe(i:Nat)(hi:i<56)(h:zE i 15=true):i=28:=by
 have:∀i:Fin 56,zE i.val 15=true->i.val=28:=by decide+kernel
 exact this ⟨i,hi⟩ h
set_option maxHeartbeats 1000000 in
theorem zav(s:PC)(r:RG)(i m:Nat)(h:List Int)(irq:Bool)(hL:Live s r i m)(hR:Rg r)(hB:zT s)(hD:0<=s.data/\s.data<256)(hi:i<56)(hok:zE i m=true)(hH:Byt h)(hM:Midst s r i m h):Good (fun s h=>Midst s r i m h) s (s.turn irq).1 (s.turn irq).2 r i m (ya i m) (zd m) h:=by
 cases hM with
 |one b0 e st step sp pc=>
  subst e;by_cases m2:m=20\/m=21
  ·rw [if_pos m2] at pc;have e12:i=12:=zau i m hi zza hok;subst e12;exact (zj9 s r m irq zza hR hL st b0 step sp (by rw [if_neg zza];exact pc)).mono (fun s h q=>.int zza q)
  ·rw [if_neg m2] at pc;rw [x9 i m zza zza];have h22:=m_le i m hok;have hm0:m≠0:=by rintro rfl;rw [zll i hi] at hok;cases hok
   by_cases e1:m=1
   ·subst e1;exact zhD _ s r i b0 irq hL hR hD hi hok st step sp pc
   by_cases e2:m=2
   ·subst e2;exact zhE _ s r i b0 irq hL hR hi hok st step sp pc
   by_cases e3:m=3
   ·subst e3;exact zhC _ s r i b0 irq hL hR hB hi hok st step sp pc
   by_cases e11:m<=11
   ·exact (Xw s r i m [b0] irq hL hR hB hi hok zza e11 hH (.one zza zza st step sp pc)).mono (fun s h q=>.plc zza e11 q)
   by_cases e12:m=12
   ·subst e12;exact (zhA s r i b0 irq hL hR hB hD hi hok st step sp pc).mono (fun s h q=>.rel rfl q)
   by_cases e13:m=13\/m=14
   ·have:=zff i m hi e13 hok;subst this;exact (zic s r m b0 irq e13 hL hR hB st step sp pc).mono (fun s h q=>.jmp e13 q)
   by_cases e15:m=15
   ·subst e15;have:=zfe i hi hok;subst this;exact (zm6 s r b0 irq hL hR hB st step sp pc).mono (fun s h q=>.jsr rfl q)
   by_cases e16:m=16\/m=22
   ·have hb:i=bi m:=by rcases e16 with rfl|rfl;exact (XV i hi).1 hok;exact (XV i hi).2 hok
    subst hb;exact (zfw s r m b0 irq e16 hL st step sp pc).mono (fun s h q=>.back e16 q)
   by_cases e17:m=17
   ·subst e17;exact (zfq s r i b0 irq (zbp i hi hok) hL st step sp pc).mono (fun s h q=>.push rfl q)
   by_cases e18:m=18
   ·subst e18;exact (zfV s r i b0 irq (UX i hi hok) hL st step sp pc).mono (fun s h q=>.pull rfl q)
   have e19:m=19:=by omega
   subst e19;have:=zau i 19 hi (.inl rfl) hok;subst this;exact (zj9 s r 19 irq (.inl rfl) hR hL st b0 step sp pc).mono (fun s h q=>.int (.inl rfl) q)
 |plc h4 h11 q=>
  rw [x9 i m zza zza];exact (Xw s r i m h irq hL hR hB hi hok h4 h11 hH q).mono (fun s h q=>.plc h4 h11 q)
 |rel e q=>
  subst e;rw [x9 i 12 zzb zzb];refine Good.mono (fun s h q=>.rel rfl q) (?_:Good (fun s h=>MidB s r (za i) h) _ _ _ _ _ _ _ _ _);cases q with
  |two ht st step ad sp pc=>exact zhB s r i _ _ irq hL hi hok ht st step ad sp pc
  |three ht st step ad sp pc hne=>exact zcm s r i _ _ _ irq hL hi hok ht st step ad sp pc hne
 |jmp e q=>
  have:=zff i m hi e hok;subst this;rw [x9 27 m zza zza];refine Good.mono (fun s h q=>.jmp e q) (?_:Good (fun s h=>MidJ s r m h) _ _ _ _ _ _ _ _ _);cases q with
  |@two _ b0 b1 hm st step ad sp pc=>
   rcases hm with rfl|rfl
   ·exact zid s r b0 b1 irq hL hB (hH b1 zzc) st step ad sp pc
   ·exact zie s r b0 b1 irq hL hB (hH b1 zzc) st step ad sp pc
  |@three b0 b1 c st step hop sp=>exact zcG s r b0 b1 c irq hL hB (hH b1 zzc) (hH c zzc) st step hop sp
  |@four b0 b1 c d st step hop ad sp=>exact zfg s r b0 b1 c d irq hL hB (hH b1 zzc) (hH c zzc) (hH d zzc) st step hop ad sp
 |jsr e q=>
  subst e;have:=zfe i hi hok;subst this;refine Good.mono (fun s h q=>.jsr rfl q) (?_:Good (fun s h=>MidS s r h) _ _ _ _ _ _ _ _ _);cases q with
  |two st step ad sp pc=>exact zm7 s r _ _ irq hL hR st step ad sp pc
  |three st step ad sp pc=>exact zm8 s r _ _ _ irq hL hR st step ad sp pc
  |four st step ad sp pc=>exact zm9 s r _ _ _ _ irq hL st step ad sp pc
  |@five b0 b1 c d f st step ad sp pc=>exact zog s r b0 b1 c d f irq hL hB (hH b1 zzc) st step ad sp pc
 |back e q=>
  have hb:i=bi m:=by rcases e with rfl|rfl;exact (XV i hi).1 hok;exact (XV i hi).2 hok
  subst hb;rw [x9 _ m zza zza];refine Good.mono (fun s h q=>.back e q) (?_:Good (fun s h=>MidO s r m h) _ _ _ _ _ _ _ _ _);cases q with
  |two st step sp=>exact zfx s r m _ _ irq e hL hR st step sp
  |three st step sp=>
   rcases e with rfl|rfl
   ·exact znF s r _ _ _ irq hL hB st step sp
   ·exact zl1 s r _ _ _ irq hL hB st step sp
  |@rts4 b0 b1 c d st step sp ad=>exact znG s r b0 b1 c d irq hL hB (hH d zzc) st step sp ad
  |@rts5 b0 b1 c d f st step sp ad=>exact znH s r b0 b1 c d f irq hL (hH d zzc) (hH f zzc) st step sp ad
  |rti4 st step sp d=>exact zl2 s r _ _ _ _ irq hL hB st step sp d
  |@rti5 b0 b1 c d f st step sp dt ad=>exact zl3 s r b0 b1 c d f irq hL hB (hH d zzc) (hH f zzc) st step sp dt ad
 |push e q=>
  subst e;rw [x9 i 17 zzb zzb];refine Good.mono (fun s h q=>.push rfl q) (?_:Good (fun s h=>MidU s r h) _ _ _ _ _ _ _ _ _);cases q with
  |two st step sp pc=>exact zfr s r i _ _ irq (zbp i hi hok) hL hR st step sp pc
 |pull e q=>
  subst e;rw [x9 i 18 zzb zzb];refine Good.mono (fun s h q=>.pull rfl q) (?_:Good (fun s h=>MidP s r h) _ _ _ _ _ _ _ _ _);cases q with
  |two st step sp pc=>exact zfW s r i _ _ irq (UX i hi hok) hL hR st step sp pc
  |three st step sp pc=>exact zaT s r i _ _ _ irq (UX i hi hok) hL hR hB st step sp pc
 |int e q=>
  have:=zau i m hi e hok;subst this;refine Good.mono (fun s h q=>.int e q) (?_:Good (fun s h=>MidI s r m h) _ _ _ _ _ _ _ _ _);cases q with
  |two st step sp pc=>exact znr s r m irq e hR hL st _ _ step sp pc
  |three st step sp pc=>exact zns s r m irq e hR hL st _ _ _ step sp pc
  |four st step sp=>exact znt s r m irq e hR hL st _ _ _ _ step sp
  |five st step sp=>exact znu s r m irq e hR hL st _ _ _ _ _ hB step sp
  |@six b0 b1 c d f g st step ad sp=>exact znv s r m irq e hR hL st b0 b1 c d f g hB (hH g zzc) step ad sp
def qW(a:Act):Prop:=a.ft=false/\(a.wr=true->0<=a.data/\a.data<256)/\a.addr<65536/\0<=a.addr
theorem Ya(a:Int):qW (rdR a).1:=⟨rfl,fun h=>(by cases h),by show a%65536<65536;omega,by show 0<=a%65536;omega⟩
theorem X4:qW dnR.1:=⟨rfl,fun h=>(by cases h),by decide,by decide⟩
theorem zjT(q:Int)(h:0<=q/\q<65536):qW ⟨q,false,0,false⟩:=⟨rfl,fun h=>(by cases h),h.2,h.1⟩
theorem G1:qW Act.nil:=⟨rfl,fun h=>(by cases h),by decide,by decide⟩
theorem Yb(a v:Int)(h:0<=v/\v<256):qW (wrR a v).1:=⟨rfl,fun _=>h,by show a%65536<65536;omega,by show 0<=a%65536;omega⟩
theorem zkk(p:Int)(h:0<=p/\p<256):0<=zp p 1/\zp p 1<=1:=
 yX (p:=fun p=>0<=zp p 1/\zp p 1<=1) (by decide+kernel) p h.1 h.2
theorem zdn(p:Int)(h:0<=p/\p<256):0<=yp p 16/\yp p 16<256:=
 yX (p:=fun p=>0<=yp p 16/\yp p 16<256) (by decide+kernel) p h.1 h.2
theorem zbH(op:BA)(b p:Int)(hb:0<=b/\b<256)(hp:0<=p/\p<256):0<=(zF op b p).1/\(zF op b p).1<256:=by
 have:=zkk p hp;unfold zF;repeat' split
 all_goals (simp only [];omega)
theorem zgd(op:BA)(r:RG)(h:List Int)(a fr:Int)(hR:Rg r)(hH:Byt h):qW (yD op r h a fr).1:=by
 unfold yD;simp only [];split
 ·split
  ·exact Ya _
  ·exact X4
 ·split
  ·split
   ·refine Yb _ _ ?_;split
    ·exact hR.A
    ·split
     ·exact hR.X
     ·exact hR.Y
   ·exact X4
  ·split
   ·exact Ya _
   ·split
    ·exact Yb _ _ (qO h hH _)
    ·split
     ·exact Yb _ _ (zbH op _ _ (qO h hH _) hR.P)
     ·exact X4
theorem zbI(op:BA)(r:RG)(n:Int)(hR:Rg r):qW (yI op r n).1:=by
 have h1:=hR.PC;have h2:=zdn r.P hR.P;have h3:=hR.P;unfold yI;simp only [];split
 ·split<;>exact Ya _
 ·split
  ·refine Yb _ _ ?_;split<;>omega
  ·split
   ·refine Yb _ _ ?_;omega
   ·split
    ·refine Yb _ _ ?_;split
     ·exact h2
     ·exact h3
    ·split
     ·exact Ya _
     ·split
      ·exact Ya _
      ·exact X4
theorem G4(op:BA)(lo hi index n at_:Int)(hh:0<=hi/\hi<256):qW (zZ op lo hi index n at_).2.2.1:=by
 unfold zZ;simp only [];split
 ·exact G1
 ·split
  ·exact zjT _ zza
  ·exact G1
theorem zdo(op md:BA)(r:RG)(h:List Int)(hH:Byt h):qW (zj op md r h).2.2.1:=by
 have h1:=qO h hH 1;have h2:=qO h hH 2;have h3:=qO h hH 3;unfold zj;simp only [];repeat' split
 all_goals first|exact Ya _|exact G1|exact zjT _ zza|exact G4 _ _ _ _ _ _ zza
theorem zn0{p:Prop} (q:p:=by
 simp only [];repeat' split
 all_goals first|exact Ya _|exact X4):p:=q
theorem za1(op md:BA)(r:RG)(h:List Int)(hR:Rg r)(hH:Byt h):qW (zo op md r h).1:=by
 have h1:=hR.PC;unfold zo;simp only [];split
 ·exact zbI op r _ hR
 split
 ·repeat' split
  all_goals first|exact Ya _|exact X4|(refine Yb _ _ ?_;omega)
 split
 ·unfold xJ;exact zn0
 split
 ·exact Yb _ _ hR.A
 split
 ·exact Yb _ _ (zdn r.P hR.P)
 split
 ·unfold xj;exact zn0
 split
 ·split
  ·exact Ya _
  ·exact X4
 split
 ·unfold yd;exact zn0
 split
 ·exact zdo op md r h hH
 ·exact zgd op r h _ _ hR hH
theorem zdp(op md:BA)(r:RG)(b0:Int):(zo op md r [b0]).2=true:=by
 unfold zo;have hl:(([b0]:List Int).length:Int)=1:=rfl;simp only [hl];split
 ·unfold yI;simp only [if_true];split<;>rfl
 split
 ·rfl
 split
 ·unfold xJ;simp only [hl,if_true];rfl
 split
 ·rename_i h;exact absurd h.2 zzb
 split
 ·rename_i h;exact absurd h.2 zzb
 split
 ·unfold xj;simp only [hl];rw [if_pos zzb];rfl
 split
 ·rfl
 split
 ·unfold yd;simp only [hl,if_true];rfl
 ·rw [qc];rfl
abbrev PC.off(s:PC)(a b:Bool)(c:Int)(d:Bool)(e:Int):PC:={s with nmiOn:=a,nmiDue:=b,cnt:=c,calls:=d,cyc:=e}
abbrev RG.off(r:RG)(f:Int):RG:={r with cyc:=f}
section
variable {s:PC} {r:RG} {i m:Nat} {h:List Int} (a b:Bool) (c:Int) (d:Bool) (e f:Int)
theorem Acc.off{k A:Int}{fr:Nat}(q:Acc s k h A fr):Acc (s.off a b c d e) k h A fr:=by
 cases q with
 |due x y z=>exact .due x y z
 |was x y z v w=>exact .was x y z v w
 |new x y z v w=>exact .new x y z v w
theorem Mid.off(q:Mid s r i m h):Mid (s.off a b c d e) (r.off f) i m h:=by
 cases q with
 |one x y z v w u=>exact .one x y z v w u
 |acc A fr x y z v w u t p=>exact .acc A fr x y z v (w.off a b c d e) u t p
 |low x y z v w u=>exact .low x y z v w u
 |abs3 x y z v w u=>exact .abs3 x y z v w u
 |hop2 x y z v w u=>exact .hop2 x y z v w u
 |izx3 x y z v w=>exact .izx3 x y z v w
 |izx4 x y z v w u=>exact .izx4 x y z v w u
 |izy3 x y z v w u=>exact .izy3 x y z v w u
 |izy4 x y z v w=>exact .izy4 x y z v w
theorem MidB.off{op:BA}(q:MidB s r op h):MidB (s.off a b c d e) (r.off f) op h:=by
 cases q with
 |two x y z v w u=>exact .two x y z v w u
 |three x y z v w u t=>exact .three x y z v w u t
theorem MidJ.off(q:MidJ s r m h):MidJ (s.off a b c d e) (r.off f) m h:=by
 cases q with
 |two x y z v w u=>exact .two x y z v w u
 |three x y z v=>exact .three x y z v
 |four x y z v w=>exact .four x y z v w
theorem MidS.off(q:MidS s r h):MidS (s.off a b c d e) (r.off f) h:=by
 cases q with
 |two x y z v w=>exact .two x y z v w
 |three x y z v w=>exact .three x y z v w
 |four x y z v w=>exact .four x y z v w
 |five x y z v w=>exact .five x y z v w
theorem MidO.off(q:MidO s r m h):MidO (s.off a b c d e) (r.off f) m h:=by
 cases q with
 |two x y z=>exact .two x y z
 |three x y z=>exact .three x y z
 |rts4 x y z v=>exact .rts4 x y z v
 |rts5 x y z v=>exact .rts5 x y z v
 |rti4 x y z v=>exact .rti4 x y z v
 |rti5 x y z v w=>exact .rti5 x y z v w
theorem MidU.off(q:MidU s r h):MidU (s.off a b c d e) (r.off f) h:=by
 cases q with
 |two x y z v=>exact .two x y z v
theorem MidP.off(q:MidP s r h):MidP (s.off a b c d e) (r.off f) h:=by
 cases q with
 |two x y z v=>exact .two x y z v
 |three x y z v=>exact .three x y z v
theorem MidI.off(q:MidI s r m h):MidI (s.off a b c d e) (r.off f) m h:=by
 cases q with
 |two x y z v=>exact .two x y z v
 |three x y z v=>exact .three x y z v
 |four x y z=>exact .four x y z
 |five x y z=>exact .five x y z
 |six x y z v=>exact .six x y z v
theorem Midst.off(q:Midst s r i m h):Midst (s.off a b c d e) (r.off f) i m h:=by
 cases q with
 |one b0 x y z v w=>exact .one b0 x y z v w
 |plc x y z=>exact .plc x y (z.off a b c d e f)
 |rel x y=>exact .rel x (y.off a b c d e f)
 |jmp x y=>exact .jmp x (y.off a b c d e f)
 |jsr x y=>exact .jsr x (y.off a b c d e f)
 |back x y=>exact .back x (y.off a b c d e f)
 |push x y=>exact .push x (y.off a b c d e f)
 |pull x y=>exact .pull x (y.off a b c d e f)
 |int x y=>exact .int x (y.off a b c d e f)
end
structure Rn (s:PC):Prop where
 bytes:zT s
 data:0<=s.data/\s.data<256
 a:0<=s.ba/\s.ba<256
 x:0<=s.bx/\s.bx<256
 y:0<=s.b_y/\s.b_y<256
 sp:0<=s.bs/\s.bs<256
 p:0<=s.bp/\s.bp<256
 pc:0<=s.bpc/\s.bpc<65536
inductive Way (s:PC) (t:RS):Prop
 |idle:t.h=[] ->t.r.jam=false->Fin_ s t.r->Way s t
 |midst (i m:Nat):t.h≠ [] ->t.r.jam=false->i<56->zE i m=true->t.op=ya i m->t.md=zd m->Live s t.r i m->Byt t.h->Beh s t.r->Midst s t.r i m t.h->Way s t
 |jam:t.r.jam=true->s.st=5->Beh s t.r->Way s t
structure Alike (s:PC) (t:RS):Prop where
 mem:s.mem=t.mem
 rom:s.rom=t.rom
 cnt:s.cnt=t.cnt
 calls:s.calls=t.calls
 on:s.nmiOn=t.nmi
 due:s.nmiDue=t.due
 cyc:s.cyc=t.r.cyc
 way:Way s t
theorem Way.beh{s:PC}{t:RS}(w:Way s t):Beh s t.r:=by
 cases w with
 |idle _ _ f=>exact f.b
 |midst _ _ _ _ _ _ _ _ _ _ b _=>exact b
 |jam _ _ b=>exact b
theorem Alike.rg{s:PC}{t:RS}(h:Alike s t)(n:Rn s):Rg t.r:=by
 have b:=h.way.beh;exact ⟨b.a ▸ n.a,b.x ▸ n.x,b.y ▸ n.y,b.sp ▸ n.sp,b.p ▸ n.p,b.pc ▸ n.pc⟩
theorem zfv(s:PC):∃c d,s.tick={s with cnt:=c,calls:=d}:=by
 unfold PC.tick;split
 ·exact ⟨s.cnt,s.calls,rfl⟩
 ·split
  ·exact ⟨_,true,rfl⟩
  ·exact ⟨_,s.calls,rfl⟩
theorem YA(s:PC)(t:RS)(b:BusI)(c0:0<=s.cnt/\s.cnt<256)(hc:s.cnt=t.cnt)(hk:s.calls=t.calls)(s3:PC)(h3:s3=if b.wr=false\/b.addr≠53248 then s.tick else s):s3.cnt=(t.counts b).cnt/\s3.calls=(t.counts b).calls/\∃c d,s3={s with cnt:=c,calls:=d}:=by
 subst h3;unfold RS.counts;by_cases e:b.wr=true/\b.addr=53248
 ·rw [if_neg (by rintro (q|q);rw [e.1] at q;cases q;exact q e.2),if_pos (.inl e)];exact ⟨hc,hk,s.cnt,s.calls,rfl⟩
 ·rw [if_pos (by
   by_cases q:b.wr=true
   ·exact .inr (fun x=>e ⟨q,x⟩)
   ·exact .inl (by simpa using q))]
  obtain ⟨c,d,q⟩:=zfv s;by_cases z:s.cnt=0
  ·have tk:s.tick=s:=by unfold PC.tick;rw [if_pos z]
   rw [if_pos (.inr (hc ▸ z))];exact ⟨by rw [tk];exact hc,by rw [tk];exact hk,c,d,q⟩
  ·have n:¬(b.wr=true/\b.addr=53248\/t.cnt=0):=fun x=>x.elim e (fun x=>z (hc.trans x))
   rw [if_neg n];by_cases y:(s.cnt-1)%256=0
   ·have tk:s.tick={s with cnt:=(s.cnt-1)%256,calls:=true}:=by unfold PC.tick;rw [if_neg z,if_pos y]
    rw [if_pos zza];exact ⟨by rw [tk];show (s.cnt-1)%256=t.cnt-1;omega,by rw [tk],c,d,q⟩
   ·have tk:s.tick={s with cnt:=(s.cnt-1)%256}:=by unfold PC.tick;rw [if_neg z,if_neg y]
    rw [if_neg zza];exact ⟨by rw [tk];show (s.cnt-1)%256=t.cnt-1;omega,by rw [tk];exact hk,c,d,q⟩
theorem zcR(s:PC)(t:RS)(a:Act)(ok:a.ft=false)(h1:s.mem=t.mem)(h2:s.rom=t.rom)(h3:s.cnt=t.cnt)(h4:s.calls=t.calls):(s.busOf a).2=(t.bus a).2/\(s.busOf a).1.mem=(t.bus a).1.mem/\(s.busOf a).1.rom=(t.bus a).1.rom/\(s.busOf a).1.cnt=(t.bus a).1.cnt/\(s.busOf a).1.calls=(t.bus a).1.calls/\
  (s.busOf a).1.nmiOn=s.nmiOn/\(s.busOf a).1.nmiDue=s.nmiDue/\(s.busOf a).1.cyc=s.cyc/\(t.bus a).1.nmi=t.nmi/\(t.bus a).1.due=t.due/\(t.bus a).1.r=t.r/\(t.bus a).1.op=t.op/\(t.bus a).1.md=t.md/\(t.bus a).1.h=t.h:=by
 unfold PC.busOf RS.bus;by_cases w:a.wr=true
 ·rw [if_pos w,if_neg (by rw [w];decide)];unfold PC.write PC.write1;by_cases e:a.addr=53248
  ·rw [if_pos e,if_pos e];exact ⟨by rw [ok],h1,h2,rfl,h4,rfl,rfl,rfl,rfl,rfl,rfl,rfl,rfl,rfl⟩
  ·rw [if_neg e,if_neg e];by_cases e2:a.addr≠53249/\a.addr<s.rom
   ·rw [if_pos e2,if_pos ⟨h2 ▸ e2.2,e2.1⟩];exact ⟨by rw [ok],by rw [h1],h2,h3,h4,rfl,rfl,rfl,rfl,rfl,rfl,rfl,rfl,rfl⟩
   ·rw [if_neg e2,if_neg (fun x=>e2 ⟨x.2,h2 ▸ x.1⟩)];exact ⟨by rw [ok],h1,h2,h3,h4,rfl,rfl,rfl,rfl,rfl,rfl,rfl,rfl,rfl⟩
 ·have w':a.wr=false:=by simpa using w
  rw [if_neg w,if_pos w'];have pk:s.look a.addr=t.peek a.addr:=by unfold PC.look RS.peek;rw [h1,h3,h4]
  unfold PC.read PC.read1;by_cases e:a.addr=53249
  ·rw [if_pos e,if_pos e];exact ⟨by rw [ok,pk],h1,h2,h3,rfl,rfl,rfl,rfl,rfl,rfl,rfl,rfl,rfl,rfl⟩
  ·rw [if_neg e,if_neg e];exact ⟨by rw [ok,pk],h1,h2,h3,h4,rfl,rfl,rfl,rfl,rfl,rfl,rfl,rfl,rfl⟩
theorem zaz(s:PC)(a:Act)(hB:zT s)(ok:qW a):0<=(s.busOf a).2.data/\(s.busOf a).2.data<256:=by
 unfold PC.busOf;by_cases w:a.wr=true
 ·rw [if_pos w];exact ok.2.1 w
 ·rw [if_neg w];exact xu hB _ ok.2.2.1
def RS.pinsB(t:RS)(nmi:Bool):RS:={t with due:=t.due||(nmi&& !t.nmi),nmi:=nmi,r:={t.r with cyc:=IntKind.wrap .i64 (t.r.cyc+1)} }
theorem zoo(t:RS)(b:BusI):(t.counts b).op=t.op/\(t.counts b).md=t.md/\(t.counts b).r=t.r/\(t.counts b).h=t.h/\(t.counts b).mem=t.mem/\(t.counts b).rom=t.rom/\(t.counts b).nmi=t.nmi/\(t.counts b).due=t.due:=by
 unfold RS.counts;split
 ·exact ⟨rfl,rfl,rfl,rfl,rfl,rfl,rfl,rfl⟩
 ·split<;>exact ⟨rfl,rfl,rfl,rfl,rfl,rfl,rfl,rfl⟩
theorem ze8(t:RS)(a:Act):(t.bus a).1.op=t.op/\(t.bus a).1.md=t.md/\(t.bus a).1.r=t.r/\(t.bus a).1.h=t.h/\(t.bus a).1.nmi=t.nmi/\(t.bus a).1.due=t.due:=by
 unfold RS.bus;split
 ·split<;>exact ⟨rfl,rfl,rfl,rfl,rfl,rfl⟩
 ·split
  ·exact ⟨rfl,rfl,rfl,rfl,rfl,rfl⟩
  ·split<;>exact ⟨rfl,rfl,rfl,rfl,rfl,rfl⟩
def RS.act(t:RS):Act:=if t.h.length>0 then (zo t.op t.md t.r t.h).1 else ⟨t.r.PC,false,0,true⟩
def RS.after(t:RS)(b:BusI):RS × BusI:=
 if t.r.jam=true then (t,b)
 else if (zo t.op t.md t.r (t.h++ [b.data])).2=true then ({t with h:=t.h++ [b.data] },b)
 else ({t with h:=[],r:=zV t.op t.md t.r (t.h++ [b.data])},b)
def RS.mids(t:RS)(irq:Bool):RS:=if t.h.length=0 then (t.bus t.act).1.begins (t.bus t.act).2.data irq else (t.bus t.act).1
theorem Gq(t:RS)(nmi irq:Bool):t.cycle nmi irq=(((t.pinsB nmi).mids irq).counts ((t.pinsB nmi).bus (t.pinsB nmi).act).2).after ((t.pinsB nmi).bus (t.pinsB nmi).act).2:=rfl
theorem zlh(t1:RS)(irq:Bool)(hh:t1.h≠ [])(hj:t1.r.jam=false)(q:RS × BusI)(hq:q=t1.bus (zo t1.op t1.md t1.r t1.h).1)(t3:RS)(h3:t3=q.1.counts q.2):((t1.mids irq).counts (t1.bus t1.act).2).after (t1.bus t1.act).2=if (zo t1.op t1.md t1.r (t1.h++ [q.2.data])).2=true then ({t3 with h:=t1.h++ [q.2.data] },q.2) else ({t3 with h:=[],r:=zV t1.op t1.md t1.r (t1.h++ [q.2.data])},q.2):=by
 have hl:0<t1.h.length:=by cases h:t1.h with|nil=>exact absurd h hh|cons x l=>simp
 obtain ⟨k1,k2,k3,k4, -⟩:=zoo q.1 q.2;obtain ⟨b1,b2,b3',b4, -⟩:=ze8 t1 (zo t1.op t1.md t1.r t1.h).1;rw [<-hq] at b1 b2 b3' b4;rw [<-h3] at k1 k2 k3 k4;have e1:=k1.trans b1;have e2:=k2.trans b2;have e3:=k3.trans b3';have e4:=k4.trans b4;have ea:t1.act=(zo t1.op t1.md t1.r t1.h).1:=by unfold RS.act;rw [if_pos hl]
 have em:t1.mids irq=q.1:=by unfold RS.mids;rw [if_neg zza,ea,hq]
 rw [em,ea, <-hq, <-h3];unfold RS.after;rw [if_neg (by rw [e3,hj];decide),e1,e2,e3,e4]
theorem zcB(s:PC)(a:Act)(hB:0<=s.cnt/\s.cnt<256)(ok:qW a):0<=(s.busOf a).1.cnt/\(s.busOf a).1.cnt<256:=by
 unfold PC.busOf;by_cases w:a.wr=true
 ·rw [if_pos w];unfold PC.write PC.write1;simp only [];split
  ·exact ok.2.1 w
  ·split<;>exact hB
 ·rw [if_neg w];unfold PC.read PC.read1;simp only [];split<;>exact hB
def Qy(r q:RG):Prop:=q.cyc=r.cyc/\q.jam=r.jam
theorem ze9{r a b:RG}{c:Prop}[Decidable c](h1:Qy r a)(h2:Qy r b):Qy r (if c then a else b):=by
 split
 ·exact h1
 ·exact h2
theorem zm4{p:Prop} (q:p:=by
 repeat' (first|exact ⟨rfl,rfl⟩|with_reducible apply ze9)):p:=q
theorem Gr(op:BA)(r:RG)(m:Int):(xA op r m).cyc=r.cyc/\(xA op r m).jam=r.jam:=by
 show Qy r _;unfold xA;exact zm4
theorem Xt(op:BA)(r:RG):(xZ op r).cyc=r.cyc/\(xZ op r).jam=r.jam:=by
 show Qy r _;unfold xZ;exact zm4
theorem Zr(op:BA)(r:RG)(h:List Int):(xC op r h).cyc=r.cyc/\(xC op r h).jam=r.jam:=by
 show Qy r _;unfold xC;exact zm4
theorem V4(op md:BA)(r:RG)(h:List Int):(zV op md r h).cyc=r.cyc/\(zV op md r h).jam=r.jam:=by
 unfold zV;simp only [];split
 ·exact Zr op r h
 split
 ·exact ⟨(Zr op _ h).1.trans (Xt op _).1,(Zr op _ h).2.trans (Xt op _).2⟩
 split
 ·exact ⟨rfl,rfl⟩
 split
 ·exact ⟨rfl,rfl⟩
 split
 ·exact ⟨rfl,rfl⟩
 ·exact Gr op _ _
set_option maxHeartbeats 1000000 in
theorem zcC(s:PC)(t:RS)(nmi irq:Bool)(H:Alike s t)(N:Rn s)(hj:t.r.jam=false)(i m:Nat)(hne:t.h≠ [])(hi:i<56)(hok:zE i m=true)(hop:t.op=ya i m)(hmd:t.md=zd m)(hL:Live s t.r i m)(hH:Byt t.h)(hb:Beh s t.r)(hM:Midst s t.r i m t.h):(s.cycle nmi irq).2=(t.cycle nmi irq).2/\Alike (s.cycle nmi irq).1 (t.cycle nmi irq).1:=by
 have hR:=H.rg N;have hR1:Rg (t.pinsB nmi).r:=⟨hR.A,hR.X,hR.Y,hR.S,hR.P,hR.PC⟩;have hL1:Live (s.pins nmi) (t.pinsB nmi).r i m:=⟨hL.a,hL.x,hL.y,hL.p,hL.ins,hL.md⟩;have hB1:Beh (s.pins nmi) (t.pinsB nmi).r:=⟨hb.a,hb.x,hb.y,hb.sp,hb.p,hb.pc⟩;have hM1:Midst (s.pins nmi) (t.pinsB nmi).r i m (t.pinsB nmi).h:=hM.off nmi (s.nmiDue||(nmi&& !s.nmiOn)) s.cnt s.calls s.cyc (IntKind.wrap .i64 (t.r.cyc+1));obtain ⟨g1,g2,g3⟩:=zav (s.pins nmi) (t.pinsB nmi).r i m (t.pinsB nmi).h irq hL1 hR1 N.bytes N.data hi hok hH hM1;have ho1:(t.pinsB nmi).op=ya i m:=hop;have hm1:(t.pinsB nmi).md=zd m:=hmd;rw [<-ho1, <-hm1] at g1 g2 g3;have hA:=za1 (t.pinsB nmi).op (t.pinsB nmi).md (t.pinsB nmi).r (t.pinsB nmi).h hR1 hH;have hc:=H.cyc;have hn1:(t.pinsB nmi).h≠ []:=hne;have hH1:Byt (t.pinsB nmi).h:=hH;have hj1:(t.pinsB nmi).r.jam=false:=hj;have hcy:(t.pinsB nmi).r.cyc=IntKind.wrap .i64 ((s.pins nmi).cyc+1):=by show IntKind.wrap .i64 (t.r.cyc+1)=IntKind.wrap .i64 (s.cyc+1);rw [hc]
 have x1:(s.pins nmi).mem=(t.pinsB nmi).mem:=H.mem;have x2:(s.pins nmi).rom=(t.pinsB nmi).rom:=H.rom;have x3:(s.pins nmi).cnt=(t.pinsB nmi).cnt:=H.cnt;have x4:(s.pins nmi).calls=(t.pinsB nmi).calls:=H.calls;have x5:(s.pins nmi).nmiOn=(t.pinsB nmi).nmi:=rfl;have x6:(s.pins nmi).nmiDue=(t.pinsB nmi).due:=by show (s.nmiDue||(nmi&& !s.nmiOn))=(t.due||(nmi&& !t.nmi));rw [H.on,H.due]
 have xB:zT (s.pins nmi):=N.bytes;rw [vX,Gq];generalize s.pins nmi=u at*;generalize t.pinsB nmi=v at*;obtain ⟨a1,a2,a3,a4,a5,a6,a7,a8,a9,a10,a11,a12,a13,a14⟩:=zcR u v _ hA.1 x1 x2 x3 x4;rw [zlh v irq hn1 hj1 _ rfl _ rfl];have hbb:(u.turn irq).2=(v.bus (zo v.op v.md v.r v.h).1).2:=g1.trans a1;generalize hS:u.turn irq=S at*;generalize hQ:v.bus (zo v.op v.md v.r v.h).1=Q at*;rw [<-hbb];have c0:0<=S.1.cnt/\S.1.cnt<256:=by rw [g2.cnt];exact zcB u _ xB.2 hA
 obtain ⟨t1,t2,c',d',t3⟩:=YA S.1 Q.1 S.2 c0 (g2.cnt.trans a4) (g2.calls.trans a5) (S.1.ends S.2) rfl;obtain ⟨k1,k2,k3,k4,k5,k6,k7,k8⟩:=zoo Q.1 S.2;have r3:(Q.1.counts S.2).r=v.r:=k3.trans a11;have oo:(Q.1.counts S.2).op=ya i m:=(k1.trans a12).trans ho1;have mm:(Q.1.counts S.2).md=zd m:=(k2.trans a13).trans hm1;have j3:(Q.1.counts S.2).r.jam=false:=by rw [r3];exact hj1
 have y1:S.1.mem=(Q.1.counts S.2).mem:=(g2.mem.trans a2).trans k5.symm;have y2:S.1.rom=(Q.1.counts S.2).rom:=(g2.rom.trans a3).trans k6.symm;have y5:S.1.nmiOn=(Q.1.counts S.2).nmi:=((g2.on.trans (a6.trans x5)).trans a9.symm).trans k7.symm;have y6:S.1.nmiDue=(Q.1.counts S.2).due:=((g2.due.trans (a7.trans x6)).trans a10.symm).trans k8.symm;have y7:IntKind.wrap .i64 (S.1.cyc+1)=(Q.1.counts S.2).r.cyc:=by rw [r3,hcy,g2.cyc,a8]
 have hd:0<=S.2.data/\S.2.data<256:=by rw [g1];exact zaz u _ xB hA
 rw [t3] at t1 t2⊢;generalize Q.1.counts S.2=T at*;rcases g3 with ⟨e,L,B,M⟩|⟨e,F⟩
 ·rw [if_pos e];refine ⟨rfl,⟨y1,y2,t1,t2,y5,y6,y7,?_⟩⟩;have M':Midst S.1 T.r i m (v.h++ [S.2.data]):=by rw [r3];exact M
  refine .midst i m (by show v.h++ [S.2.data]≠ [];simp) j3 hi hok oo mm ?_ ?_ ?_ (M'.off S.1.nmiOn S.1.nmiDue c' d' (IntKind.wrap .i64 (S.1.cyc+1)) T.r.cyc)
  ·show Live _ T.r i m;rw [r3];exact ⟨L.a,L.x,L.y,L.p,L.ins,L.md⟩
  ·intro b hb';rcases List.mem_append.1 hb' with q|q
   ·exact hH1 b q
   ·rw [List.mem_singleton.1 q];exact hd
  ·show Beh _ T.r;have B':=B v.r hB1;rw [r3];exact ⟨B'.a,B'.x,B'.y,B'.sp,B'.p,B'.pc⟩
 ·rw [if_neg (by rw [e];decide)];have dk:=V4 v.op v.md v.r (v.h++ [S.2.data]);refine ⟨rfl,⟨y1,y2,t1,t2,y5,y6,?_,?_⟩⟩
  ·show IntKind.wrap .i64 (S.1.cyc+1)=(zV v.op v.md v.r (v.h++ [S.2.data])).cyc;rw [dk.1, <-r3];exact y7
  ·exact .idle rfl (dk.2.trans hj1) ⟨F.st,⟨F.b.a,F.b.x,F.b.y,F.b.sp,F.b.p,F.b.pc⟩,F.a,F.x,F.y,F.sp,F.p,F.pc⟩
theorem GU(t:RS)(b:BusI):(t.after b).2=b/\(t.after b).1.mem=t.mem/\(t.after b).1.rom=t.rom/\(t.after b).1.cnt=t.cnt/\(t.after b).1.calls=t.calls/\(t.after b).1.nmi=t.nmi/\(t.after b).1.due=t.due/\(t.after b).1.r.cyc=t.r.cyc:=by
 unfold RS.after;split
 ·exact ⟨rfl,rfl,rfl,rfl,rfl,rfl,rfl,rfl⟩
 split
 ·exact ⟨rfl,rfl,rfl,rfl,rfl,rfl,rfl,rfl⟩
 ·exact ⟨rfl,rfl,rfl,rfl,rfl,rfl,rfl,(V4 t.op t.md t.r _).1⟩
theorem qV(W:PC)(X:RS)(b:BusI)(c0:0<=W.cnt/\W.cnt<256)(h1:W.mem=X.mem)(h2:W.rom=X.rom)(h3:W.cnt=X.cnt)(h4:W.calls=X.calls)(h5:W.nmiOn=X.nmi)(h6:W.nmiDue=X.due)(h7:IntKind.wrap .i64 (W.cyc+1)=X.r.cyc)
  (hw:∀ (c:Int) (d:Bool) (e:Int) (T:RS),T.op=X.op->T.md=X.md->T.r=X.r->T.h=X.h->Way ({W with cnt:=c,calls:=d,cyc:=e}:PC) (T.after b).1):
  b=((X.counts b).after b).2/\Alike ({W.ends b with cyc:=IntKind.wrap .i64 ((W.ends b).cyc+1)}:PC) ((X.counts b).after b).1:=by
 obtain ⟨t1,t2,c',d',t3⟩:=YA W X b c0 h3 h4 (W.ends b) rfl;obtain ⟨k1,k2,k3,k4,k5,k6,k7,k8⟩:=zoo X b;obtain ⟨a0,a1,a2,a3,a4,a5,a6,a7⟩:=GU (X.counts b) b;refine ⟨a0.symm,?_⟩;rw [t3] at t1 t2⊢;exact ⟨(h1.trans k5.symm).trans a1.symm,(h2.trans k6.symm).trans a2.symm,t1.trans a3.symm,t2.trans a4.symm,(h5.trans k7.symm).trans a5.symm,(h6.trans k8.symm).trans a6.symm,(h7.trans (by rw [k3])).trans a7.symm,hw _ _ _ _ k1 k2 k3 k4⟩
theorem Xe(W:PC)(X:RS)(b:BusI)(i m:Nat)(hj:X.r.jam=false)(hh:X.h=[])(hi:i<56)(hok:zE i m=true)(hop:X.op=ya i m)(hmd:X.md=zd m)(hL:Live W X.r i m)(hB:Beh W X.r)(hd:0<=b.data/\b.data<256)
  (hst:W.st=1) (hstep:W.step=0) (hS:W.s=X.r.S) (hpc:W.pc=if m=20\/m=21 then X.r.PC else (X.r.PC+1)%65536) (c:Int) (d:Bool) (e:Int) (T:RS) (e1:T.op=X.op) (e2:T.md=X.md) (e3:T.r=X.r) (e4:T.h=X.h):
  Way ({W with cnt:=c,calls:=d,cyc:=e}:PC) (T.after b).1:=by
 have ea:(T.after b).1={T with h:=[b.data] }:=by
  unfold RS.after;rw [if_neg (by rw [e3,hj];decide),e4,hh,List.nil_append,if_pos (zdp _ _ _ _)]
 rw [ea];rw [<-e3] at hL hB hS hpc hj;refine .midst i m (by show [b.data]≠ [];simp) hj hi hok (e1.trans hop) (e2.trans hmd) ⟨hL.a,hL.x,hL.y,hL.p,hL.ins,hL.md⟩ ?_ ⟨hB.a,hB.x,hB.y,hB.sp,hB.p,hB.pc⟩ (.one b.data rfl hst hstep hS hpc);intro x hx;rw [List.mem_singleton.1 hx];exact hd
set_option maxHeartbeats 1000000 in
theorem zaZ(s:PC)(t:RS)(nmi irq:Bool)(H:Alike s t)(N:Rn s)(hj:t.r.jam=false)(hh:t.h=[])(hF:Fin_ s t.r):(s.cycle nmi irq).2=(t.cycle nmi irq).2/\Alike (s.cycle nmi irq).1 (t.cycle nmi irq).1:=by
 have hR:=H.rg N;have hR1:Rg (t.pinsB nmi).r:=⟨hR.A,hR.X,hR.Y,hR.S,hR.P,hR.PC⟩;have hF1:Fin_ (s.pins nmi) (t.pinsB nmi).r:=⟨hF.st,⟨hF.b.a,hF.b.x,hF.b.y,hF.b.sp,hF.b.p,hF.b.pc⟩,hF.a,hF.x,hF.y,hF.sp,hF.p,hF.pc⟩;have hc:=H.cyc;have hh1:(t.pinsB nmi).h=[]:=hh;have hj1:(t.pinsB nmi).r.jam=false:=hj;have hcy:IntKind.wrap .i64 ((s.pins nmi).cyc+1)=(t.pinsB nmi).r.cyc:=by show IntKind.wrap .i64 (s.cyc+1)=IntKind.wrap .i64 (t.r.cyc+1);rw [hc]
 have x1:(s.pins nmi).mem=(t.pinsB nmi).mem:=H.mem;have x2:(s.pins nmi).rom=(t.pinsB nmi).rom:=H.rom;have x3:(s.pins nmi).cnt=(t.pinsB nmi).cnt:=H.cnt;have x4:(s.pins nmi).calls=(t.pinsB nmi).calls:=H.calls;have x5:(s.pins nmi).nmiOn=(t.pinsB nmi).nmi:=rfl;have x6:(s.pins nmi).nmiDue=(t.pinsB nmi).due:=by show (s.nmiDue||(nmi&& !s.nmiOn))=(t.due||(nmi&& !t.nmi));rw [H.on,H.due]
 have xB:zT (s.pins nmi):=N.bytes;rw [vX,Gq];generalize s.pins nmi=u at*;generalize t.pinsB nmi=v at*;have hpk:u.look u.pc=v.peek v.r.PC:=by unfold PC.look RS.peek;rw [x1,x3,x4,hF1.pc]
 have hbyte:=xu xB u.pc (by rw [hF1.pc];exact hR1.PC.2);have ea:v.act=⟨v.r.PC,false,0,true⟩:=by unfold RS.act;rw [if_neg (by rw [hh1];decide)]
 have K:=zO u u.pc;obtain ⟨V,hV,w1,w2,w3,w4,w5,w6,w7,w8⟩:∃V:RS,v.bus v.act=(V,⟨u.pc,u.look u.pc,false,true⟩)/\V.mem=v.mem/\V.rom=v.rom/\V.cnt=v.cnt/\(u.read1 u.pc).calls=V.calls/\V.nmi=v.nmi/\V.due=v.due/\V.r=v.r/\V.h=v.h:=by
  rw [ea];unfold RS.bus PC.read1;simp only [if_true];rw [hpk,hF1.pc];by_cases e:v.r.PC=53249
  ·rw [if_pos e,if_pos e];exact ⟨_,rfl,rfl,rfl,rfl,rfl,rfl,rfl,rfl,rfl⟩
  ·rw [if_neg e,if_neg e];exact ⟨_,rfl,rfl,rfl,rfl,x4,rfl,rfl,rfl,rfl⟩
 have em:v.mids irq=V.begins (u.look u.pc) irq:=by unfold RS.mids;rw [if_pos (by rw [hh1];rfl),hV]
 rw [em,hV];have et:u.turn irq=u.fetch irq:=by unfold PC.turn;rw [if_pos hF1.st]
 rw [et];have O:=yh u u u.pc ⟨rfl,rfl,rfl,rfl,rfl,rfl,rfl⟩;have ofields:(u.read1 u.pc).mem=u.mem/\(u.read1 u.pc).rom=u.rom/\(u.read1 u.pc).cnt=u.cnt/\(u.read1 u.pc).nmiOn=u.nmiOn/\(u.read1 u.pc).nmiDue=u.nmiDue/\(u.read1 u.pc).cyc=u.cyc:=by
  unfold PC.read1;split<;>exact ⟨rfl,rfl,rfl,rfl,rfl,rfl⟩
 obtain ⟨o1,o2,o3,o4,o5,o6⟩:=ofields;clear O;have fB:Beh (u.read1 u.pc) V.r:=by rw [w7];exact ⟨K.ba.trans hF1.b.a,K.bx.trans hF1.b.x,K.b_y.trans hF1.b.y,K.bs.trans hF1.b.sp,K.bp.trans hF1.b.p,K.bpc.trans hF1.b.pc⟩
 have fA:=K.a.trans hF1.a;have fX:=K.x.trans hF1.x;have fY:=K.y.trans hF1.y;have fS:=K.sp.trans hF1.sp;have fP:=K.p.trans hF1.p;have fPC:=K.pc.trans hF1.pc;rw [<-w7] at fA fX fY fS fP fPC hj1 hcy hR1;have y1:=(o1.trans x1).trans w1.symm;have y2:=(o2.trans x2).trans w2.symm;have y3:=(o3.trans x3).trans w3.symm;have y5:=(o4.trans x5).trans w5.symm;have y6:=(o5.trans x6).trans w6.symm;have y7:IntKind.wrap .i64 ((u.read1 u.pc).cyc+1)=V.r.cyc:=by rw [o6];exact hcy
 have hh2:=w8.trans hh1;have c0:0<=(u.read1 u.pc).cnt/\(u.read1 u.pc).cnt<256:=by rw [o3];exact xB.2
 have efetch:u.fetch irq=(if (u.read1 u.pc).nmiDue=true then (({u.read1 u.pc with nmiDue:=false}:PC).begin_ 12 20,(⟨u.pc,u.look u.pc,false,true⟩:BusI))
   else if (irq||(u.read1 u.pc).calls)=true/\vI (u.read1 u.pc).p 4=false then ((u.read1 u.pc).begin_ 12 21,⟨u.pc,u.look u.pc,false,true⟩)
   else (({u.read1 u.pc with pc:=((u.read1 u.pc).pc+1)%65536}:PC).begin_ (zw (u.look u.pc%256).toNat).1 (zw (u.look u.pc%256).toNat).2,⟨u.pc,u.look u.pc,false,true⟩)):=rfl
 rw [efetch];clear efetch et em ea hV K o1 o2 o3 o4 o5 o6 w1 w2 w3 w5 w6 w7 w8 x1 x2 x3 x4 x5 x6 hF1 hpk hh1 H N hR hj hh hF hc xB;generalize u.read1 u.pc=U at*;generalize u.look u.pc=D at*;generalize u.pc=A at*;by_cases q1:U.nmiDue=true
 ·have eb:V.begins D irq={V with due:=false,op:=(b3 78 77 73),md:=(b3 115 101 113)}:=by unfold RS.begins;rw [if_pos (y6 ▸ q1)]
  have ew:({U with nmiDue:=false}:PC).begin_ 12 20={U with nmiDue:=false,ins:=12,md:=20,step:=0,st:=1}:=by unfold PC.begin_;rw [if_neg zzb]
  rw [if_pos q1,eb,ew];exact qV ({U with nmiDue:=false,ins:=12,md:=20,step:=0,st:=1}:PC) ({V with due:=false,op:=(b3 78 77 73),md:=(b3 115 101 113)}:RS) _ c0 y1 y2 y3 w4 y5 rfl y7 (fun c d e T=>Xe ({U with nmiDue:=false,ins:=12,md:=20,step:=0,st:=1}:PC) ({V with due:=false,op:=(b3 78 77 73),md:=(b3 115 101 113)}:RS) _ 12 20 hj1 hh2 zzb zzb rfl rfl ⟨fA,fX,fY,fP,rfl,rfl⟩ ⟨fB.a,fB.x,fB.y,fB.sp,fB.p,fB.pc⟩ hbyte rfl rfl fS fPC c d e T)
 ·rw [if_neg q1];have hp4:vI U.p 4=false ↔ zp V.r.P 4=0:=by
   unfold vI;rw [fP,ju V.r.P 4 hR1.P.1 hR1.P.2 zzb zzb];simp
  by_cases q2:(irq||U.calls)=true/\vI U.p 4=false
  ·have eb:V.begins D irq={V with op:=(b3 73 82 81),md:=(b3 115 101 113)}:=by
    unfold RS.begins;rw [if_neg (y6 ▸ q1),if_pos ⟨w4 ▸ q2.1,hp4.1 q2.2⟩]
   have ew:U.begin_ 12 21={U with ins:=12,md:=21,step:=0,st:=1}:=by unfold PC.begin_;rw [if_neg zzb]
   rw [if_pos q2,eb,ew];exact qV ({U with ins:=12,md:=21,step:=0,st:=1}:PC) ({V with op:=(b3 73 82 81),md:=(b3 115 101 113)}:RS) _ c0 y1 y2 y3 w4 y5 y6 y7 (fun c d e T=>Xe ({U with ins:=12,md:=21,step:=0,st:=1}:PC) ({V with op:=(b3 73 82 81),md:=(b3 115 101 113)}:RS) _ 12 21 hj1 hh2 zzb zzb rfl rfl ⟨fA,fX,fY,fP,rfl,rfl⟩ ⟨fB.a,fB.x,fB.y,fB.sp,fB.p,fB.pc⟩ hbyte rfl rfl fS fPC c d e T)
  ·rw [if_neg q2];obtain ⟨n,rfl⟩:=Int.eq_ofNat_of_zero_le hbyte.1;have hn:n<256:=by omega
   have en:((n:Int)%256).toNat=n:=by omega
   rw [en];have eb:V.begins (n:Int) irq={V with op:=(xc n).1,md:=(xc n).2,r:={V.r with jam:=(xc n).1==⟨#[]⟩ } }:=by
    unfold RS.begins;rw [if_neg (y6 ▸ q1),if_neg (fun x=>q2 ⟨w4.symm ▸ x.1,hp4.2 x.2⟩)]
   rw [eb];rcases H0 n hn with ⟨z,cz⟩|⟨nz,okk,cn, -⟩
   ·rw [cz,z];have ew:({U with pc:=(U.pc+1)%65536}:PC).begin_ (zw n).1 (0:Nat)={U with pc:=(U.pc+1)%65536,ins:=(zw n).1,md:=0,step:=0,st:=5}:=by unfold PC.begin_;rw [if_pos zzb];rfl
    rw [ew];refine qV _ _ _ c0 y1 y2 y3 w4 y5 y6 y7 (fun c d e T e1 e2 e3 e4=>?_);have ej:T.r.jam=true:=by rw [e3];rfl
    have ea:(T.after (⟨A,(n:Int),false,true⟩:BusI)).1=T:=by unfold RS.after;rw [if_pos ej]
    rw [ea];refine .jam ej rfl ?_;rw [e3];exact ⟨fB.a,fB.x,fB.y,fB.sp,fB.p,fB.pc⟩
   ·obtain ⟨l1,l2⟩:=QY n hn;have hm2:¬((zw n).2=20\/(zw n).2=21):=by
     have:∀n:Fin 256,¬((zw n.val).2=20\/(zw n.val).2=21):=by decide+kernel
     exact this ⟨n,hn⟩
    have ew:({U with pc:=(U.pc+1)%65536}:PC).begin_ (zw n).1 (zw n).2={U with pc:=(U.pc+1)%65536,ins:=(zw n).1,md:=(zw n).2,step:=0,st:=1}:=by unfold PC.begin_;rw [if_neg zza]
    rw [ew];have ejam:((xc n).1==⟨#[]⟩)=false:=by
     have:∀n:Fin 256,(zw n.val).2≠0->((xc (n.val:Nat)).1==⟨#[]⟩)=false:=by decide+kernel
     exact this ⟨n,hn⟩ nz
    rw [ejam,cn];refine qV ({U with pc:=(U.pc+1)%65536,ins:=(zw n).1,md:=(zw n).2,step:=0,st:=1}:PC) ({V with op:=ya (zw n).1 (zw n).2,md:=zd (zw n).2,r:={V.r with jam:=false} }:RS) _ c0 y1 y2 y3 w4 y5 y6 y7 (fun c d e T=>Xe ({U with pc:=(U.pc+1)%65536,ins:=(zw n).1,md:=(zw n).2,step:=0,st:=1}:PC) ({V with op:=ya (zw n).1 (zw n).2,md:=zd (zw n).2,r:={V.r with jam:=false} }:RS) _ (zw n).1 (zw n).2 rfl hh2 l1 okk rfl rfl ⟨fA,fX,fY,fP,rfl,rfl⟩ ⟨fB.a,fB.x,fB.y,fB.sp,fB.p,fB.pc⟩ hbyte rfl rfl fS ?_ c d e T);rw [if_neg hm2];show (U.pc+1)%65536=(V.r.PC+1)%65536;rw [fPC]
theorem Zx(s:PC)(t:RS)(nmi irq:Bool)(H:Alike s t)(N:Rn s)(hj:t.r.jam=false):(s.cycle nmi irq).2=(t.cycle nmi irq).2/\Alike (s.cycle nmi irq).1 (t.cycle nmi irq).1:=by
 cases H.way with
 |idle hh _ hF=>exact zaZ s t nmi irq H N hj hh hF
 |midst i m hne _ hi hok hop hmd hL hH hb hM=>exact zcC s t nmi irq H N hj i m hne hi hok hop hmd hL hH hb hM
 |jam e _ _=>rw [hj] at e;cases e
theorem Jr{s:PC}{r:RG}{i m:Nat}{h:List Int}(hM:Midst s r i m h):s.st=1\/s.st=2\/s.st=3\/s.st=4:=by
 cases hM with
 |one _ _ x=>exact .inl x
 |plc _ _ q=>
  cases q with
  |acc _ _ _ _ _ _ w=>
   cases w with
   |due _ x=>exact .inr (.inl x)
   |was _ _ x=>exact .inr (.inr (.inl x))
   |new _ _ x=>exact .inr (.inr (.inr x))
  |one _ _ x=>exact .inl x
  |low _ x=>exact .inl x
  |abs3 _ x=>exact .inl x
  |hop2 _ x=>exact .inl x
  |izx3 x=>exact .inl x
  |izx4 x=>exact .inl x
  |izy3 x=>exact .inl x
  |izy4 x=>exact .inl x
 |rel _ q=>cases q with
  |two _ x=>exact .inl x
  |three _ x=>exact .inl x
 |jmp _ q=>cases q with
  |two _ x=>exact .inl x
  |three x=>exact .inl x
  |four x=>exact .inl x
 |jsr _ q=>cases q<;>(rename_i x _ _ _ _;exact .inl x)
 |back _ q=>cases q with
  |two x=>exact .inl x
  |three x=>exact .inl x
  |rts4 x=>exact .inl x
  |rts5 x=>exact .inl x
  |rti4 x=>exact .inl x
  |rti5 x=>exact .inl x
 |push _ q=>cases q with
  |two x=>exact .inl x
 |pull _ q=>cases q with
  |two x=>exact .inl x
  |three x=>exact .inl x
 |int _ q=>cases q with
  |two x=>exact .inl x
  |three x=>exact .inl x
  |four x=>exact .inl x
  |five x=>exact .inl x
  |six x=>exact .inl x
theorem qj(s:PC)(t:RS)(H:Alike s t):(s.st==5)=t.r.jam:=by
 cases H.way with
 |idle _ e f=>rw [e,f.st];rfl
 |midst i m _ e _ _ _ _ _ _ _ hM=>
  rw [e];have:=Jr hM;rcases this with e|e|e|e<;>rw [e]<;>rfl
 |jam e f _=>rw [e,f];rfl
