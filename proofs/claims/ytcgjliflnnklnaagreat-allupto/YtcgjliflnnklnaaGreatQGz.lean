import Derived.Test.YtcgjliflnnklnaaGreatQDz
import Derived.Test.YtcgjliflnnklnaaGreatJ22
import Derived.Test.YtcgjliflnnklnaaGreatJ01
import Derived.Test.YtcgjliflnnklnaaGreatJ18
namespace Go.Proofs.YtcgjliflnnklnaaGreat
open Go.RowKit Tryz
set_option maxRecDepth 100000
set_option maxHeartbeats 4000000
section
structure SB where
 pc:PC
 sc:Sc
 due:UInt8
 bg:Bool
 rp:List UInt8
 bp:Pts
 wp:Pts
 pa:List Pat
 rc:Rcs
 re:Bool
 nmi:Bool
 irq:Bool
structure ScR (R:Nat->Option Value) (s:Sc):Prop where
 st3:s.st<=3
 len:s.raw.length<=200
 cst:R 65562=some (Uq (s.st:Int))
 cnt:R 65763=some (Iq (s.raw.length:Int))
 csum:R 65764=some (Uq (s.sum.toNat:Int))
 bytes:∀i,(h:i<s.raw.length)->R (65563+i)=some (Uq (s.raw[i].toNat:Int))
 there:∀i,i<200->∃v,R (65563+i)=some v
structure SV (S:SB) (s:PC):Prop where
 core:s=S.pc.rr s.rest
 sc:ScR s.rest S.sc
 cd:s.rest 65765=some (Uq (S.due.toNat:Int))
 cb:s.rest 65766=some (Tq S.bg)
 cr:s.rest 65767=some (Zq ⟨S.rp.toArray⟩)
 bp:PtsR s.rest 65768 S.bp
 wp:PtsR s.rest 65773 S.wp
 pa:PasS s.rest S.pa
 rc:RcsR s.rest 65823 S.rc
 re:s.rest 66081=some (Tq S.re)
 nm:s.rest 66082=some (Tq S.nmi)
 iq:s.rest 66083=some (Tq S.irq)
theorem PtsR.keep{R Q:Nat->Option Value}{P:Nat}{p:Pts}(h:PtsR R P p)(e:∀k,P<=k->k<P+5->Q k=R k):PtsR Q P p:=
 ⟨h.n4,(e _ zza zza).trans h.cn,fun i hi=>(e _ zza zza).trans (h.ca i hi)⟩
theorem RcsR.keep{R Q:Nat->Option Value}{P:Nat}{r:Rcs}(h:RcsR R P r)(e:∀k,P<=k->k<P+258->Q k=R k):RcsR Q P r:=
 ⟨h.f64,h.n64,(e _ zza zza).trans h.cf,(e _ zza zza).trans h.cn,fun i hi=>⟨(e _ zza zza).trans (h.ca i hi).c0,(e _ zza zza).trans (h.ca i hi).c1,(e _ zza zza).trans (h.ca i hi).c2,(e _ zza zza).trans (h.ca i hi).c3⟩⟩
theorem PasS.keep{R Q:Nat->Option Value}{l:List Pat}(h:PasS R l)(e:∀k,65778<=k->k<65823->Q k=R k):PasS Q l:=by
 obtain ⟨⟨H,h1,h2⟩,h3,h4⟩:=h;exact ⟨⟨H,⟨h1.n4,(e _ zza zza).trans h1.cn,fun i hi=>(h1.ch i hi).keep fun k k1 k2=>e k zza zza⟩,h2⟩,h3,h4⟩
theorem ScR.keep{R Q:Nat->Option Value}{s:Sc}(h:ScR R s)(e:∀k,65562<=k->k<65765->Q k=R k):ScR Q s:=
 ⟨h.st3,h.len,(e _ zza zza).trans h.cst,(e _ zza zza).trans h.cnt,(e _ zza zza).trans h.csum,fun i hi=>(e _ zza (by have:=h.len;omega)).trans (h.bytes i hi),fun i hi=>by obtain ⟨v,hv⟩:=h.there i hi;exact ⟨v,(e _ zza zza).trans hv⟩⟩
theorem SV.ms{S:SB}{s s':PC}{M:Nat->Int}{l:List Pat}(h:SV S s)(m:MsO 65778 65823 s s' M)(hl:PasS s'.rest l):SV {S with pc:={S.pc with mem:=M},pa:=l} s' where
 core:=by rw [m.core,h.core];rfl
 sc:=h.sc.keep fun k _ _=>m.keep k zza
 cd:=(m.keep _ zza).trans h.cd
 cb:=(m.keep _ zza).trans h.cb
 cr:=(m.keep _ zza).trans h.cr
 bp:=h.bp.keep fun k _ _=>m.keep k zza
 wp:=h.wp.keep fun k _ _=>m.keep k zza
 pa:=hl
 rc:=h.rc.keep fun k _ _=>m.keep k zza
 re:=(m.keep _ zza).trans h.re
 nm:=(m.keep _ zza).trans h.nm
 iq:=(m.keep _ zza).trans h.iq
theorem SV.pc{S:SB}{s s':PC}{c:PC}(h:SV S s)(e:s'=c.rr s.rest):SV {S with pc:=c} s':=by
 have r:s'.rest=s.rest:=by rw [e];rfl
 exact ⟨by rw [r];exact e,by rw [r];exact h.sc,by rw [r];exact h.cd,by rw [r];exact h.cb,by rw [r];exact h.cr,by rw [r];exact h.bp,by rw [r];exact h.wp,by rw [r];exact h.pa,by rw [r];exact h.rc,by rw [r];exact h.re,by rw [r];exact h.nm,by rw [r];exact h.iq⟩
theorem SV.rcs{S:SB}{s s':PC}{r:Rcs}(h:SV S s)(m:RsO 65823 66081 s s')(hr:RcsR s'.rest 65823 r):SV {S with rc:=r} s' where
 core:=by rw [m.core,h.core];rfl
 sc:=h.sc.keep fun k _ _=>m.keep k zza
 cd:=(m.keep _ zza).trans h.cd
 cb:=(m.keep _ zza).trans h.cb
 cr:=(m.keep _ zza).trans h.cr
 bp:=h.bp.keep fun k _ _=>m.keep k zza
 wp:=h.wp.keep fun k _ _=>m.keep k zza
 pa:=h.pa.keep fun k _ _=>m.keep k zza
 rc:=hr
 re:=(m.keep _ zza).trans h.re
 nm:=(m.keep _ zza).trans h.nm
 iq:=(m.keep _ zza).trans h.iq
theorem SV.bps{S:SB}{s s':PC}{p:Pts}(h:SV S s)(m:RsO 65768 65773 s s')(hr:PtsR s'.rest 65768 p):SV {S with bp:=p} s' where
 core:=by rw [m.core,h.core];rfl
 sc:=h.sc.keep fun k _ _=>m.keep k zza
 cd:=(m.keep _ zza).trans h.cd
 cb:=(m.keep _ zza).trans h.cb
 cr:=(m.keep _ zza).trans h.cr
 bp:=hr
 wp:=h.wp.keep fun k _ _=>m.keep k zza
 pa:=h.pa.keep fun k _ _=>m.keep k zza
 rc:=h.rc.keep fun k _ _=>m.keep k zza
 re:=(m.keep _ zza).trans h.re
 nm:=(m.keep _ zza).trans h.nm
 iq:=(m.keep _ zza).trans h.iq
theorem SV.wps{S:SB}{s s':PC}{p:Pts}(h:SV S s)(m:RsO 65773 65778 s s')(hr:PtsR s'.rest 65773 p):SV {S with wp:=p} s' where
 core:=by rw [m.core,h.core];rfl
 sc:=h.sc.keep fun k _ _=>m.keep k zza
 cd:=(m.keep _ zza).trans h.cd
 cb:=(m.keep _ zza).trans h.cb
 cr:=(m.keep _ zza).trans h.cr
 bp:=h.bp.keep fun k _ _=>m.keep k zza
 wp:=hr
 pa:=h.pa.keep fun k _ _=>m.keep k zza
 rc:=h.rc.keep fun k _ _=>m.keep k zza
 re:=(m.keep _ zza).trans h.re
 nm:=(m.keep _ zza).trans h.nm
 iq:=(m.keep _ zza).trans h.iq
theorem SV.sw{S:SB}{s s':PC}{r n i:Bool}(h:SV S s)(m:RsO 66081 66084 s s')(hr:s'.rest 66081=some (Tq r))(hn:s'.rest 66082=some (Tq n))(hi:s'.rest 66083=some (Tq i)):SV {S with re:=r,nmi:=n,irq:=i} s' where
 core:=by rw [m.core,h.core];rfl
 sc:=h.sc.keep fun k _ _=>m.keep k zza
 cd:=(m.keep _ zza).trans h.cd
 cb:=(m.keep _ zza).trans h.cb
 cr:=(m.keep _ zza).trans h.cr
 bp:=h.bp.keep fun k _ _=>m.keep k zza
 wp:=h.wp.keep fun k _ _=>m.keep k zza
 pa:=h.pa.keep fun k _ _=>m.keep k zza
 rc:=h.rc.keep fun k _ _=>m.keep k zza
 re:=hr
 nm:=hn
 iq:=hi
theorem SV.hd{S:SB}{s s':PC}{c:Sc}{d:UInt8}{b:Bool}{r:List UInt8}(h:SV S s)(m:RsO 65562 65768 s s')(hs:ScR s'.rest c)(hd:s'.rest 65765=some (Uq (d.toNat:Int)))(hb:s'.rest 65766=some (Tq b))(hr:s'.rest 65767=some (Zq ⟨r.toArray⟩)):SV {S with sc:=c,due:=d,bg:=b,rp:=r} s' where
 core:=by rw [m.core,h.core];rfl
 sc:=hs
 cd:=hd
 cb:=hb
 cr:=hr
 bp:=h.bp.keep fun k _ _=>m.keep k zza
 wp:=h.wp.keep fun k _ _=>m.keep k zza
 pa:=h.pa.keep fun k _ _=>m.keep k zza
 rc:=h.rc.keep fun k _ _=>m.keep k zza
 re:=(m.keep _ zza).trans h.re
 nm:=(m.keep _ zza).trans h.nm
 iq:=(m.keep _ zza).trans h.iq
theorem RsO.putBus(s:PC)(o:Nat)(b:BusI)(lo hi:Nat)(h1:lo<=o)(h2:o+4<=hi):RsO lo hi s (putBus s o b):=
 (((RsO.put s o _ lo hi zza zza).trans (RsO.put _ (o+1) _ lo hi zza zza)).trans (RsO.put _ (o+2) _ lo hi zza zza)).trans (RsO.put _ (o+3) _ lo hi zza zza)
theorem zgt(s:PC)(P:Nat)(r:Rcs)(b:BusI):RsO P (P+258) s (Z4 s P r b):=by
 have hm:(r.first+r.n)%64<64:=Nat.mod_lt _ zzb;exact (RsO.putBus s _ b _ _ zza zza).trans (RsO.put _ (P+257) _ _ _ zza zza)
theorem zdN(s:PC)(P:Nat)(r:Rcs):RsO P (P+258) s (vL s P r):=
 ⟨rfl,fun k hk=>by unfold vL;rw [zh _ _ _ _ zza,zh _ _ _ _ zza]⟩
theorem za7(s:PC)(P:Nat)(p:Pts)(h4:p.n<=4)(a:Int):RsO P (P+5) s (Zu s P p a):=by
 unfold Zu;split
 ·exact RsO.refl _ _ _
 ·exact ⟨rfl,fun k hk=>by rw [zh _ _ _ _ zza,zh _ _ _ _ zza]⟩
theorem za8(s:PC)(P:Nat)(p:Pts)(h4:p.n<=4)(a:Int):RsO P (P+5) s (Zv s P p a):=by
 unfold Zv;split
 ·exact RsO.refl _ _ _
 ·rename_i i h;have:=jM _ _ _ _ _ h;exact ⟨rfl,fun k hk=>by rw [zh _ _ _ _ zza,zh _ _ _ _ zza]⟩
end
section
theorem Yi{w w':World}(h:Bq w w')(n:Nat):Bq w (w'.drewN n):=by
 induction n with
 |zero=>exact h
 |succ n ih=>exact qJ ih
theorem JP{w x y:World}(h:Bq w x)(k:Bq x y):Bq w y:=h.trans (k.mono h.size)
theorem CAt.bl{w w':World}{B:Nat}{s:PC}(h:CAt w B s)(g:Bq w w'):CAt w' B s:=h.same (g.block B h.lt)
theorem QR(a b c d e f g:Int)(j:Bool)(w:World):Sem.run prog (Instr.field 37 (.agg #[Iq a,Iq b,Iq c,Iq d,Iq e,Iq f,Iq g,Tq j]) 5) w=.ok (Iq f) w:=by kernel_rfl
def SB.meets(S:SB):Bool:=S.pc.st==0&&S.bp.has S.pc.bpc
def SB.look(S:SB)(l c:Int):Option Nat:=
 if l=0 then some 0 else if 0<c/\S.meets=true then some 1 else if S.pc.st=5 then some 3 else if S.re=true/\S.rc.n=64 then some 4 else none
theorem SV.st{S:SB}{s:PC}(h:SV S s):s.st=S.pc.st:=by rw [h.core];rfl
theorem SV.bpc{S:SB}{s:PC}(h:SV S s):s.bpc=S.pc.bpc:=by rw [h.core];rfl
theorem zbV{B:Nat}{s:PC}{w0 w:World}{S:SB}(h:Tn B s w0 w)(hS:SV S s):Calls prog 275 #[.pointer (some ⟨B,0,none⟩)] w fun e w'=>e=.returned (.bool S.meets)/\Below w.heap.size w w':=by
 have F:=fun {a w:World} (h:Tn B s a w)=>Xn h
 simp only [hS.st] at F;unfold SB.meets;have HT:=hid h;have b0:=h.c.rbpc;rw [hS.bpc] at b0;have hw:IntKind.u16.wrap S.pc.bpc=S.pc.bpc:=by rw [IntKind.wrap_u16];omega
 cases hb:(S.pc.st==0)
 ·simp only [hb] at F;clear h;go_enter func275,ntmps275;go_wp2_with fail;go_quiet (first|(go_at_call 278;exact Calls.quiet_of_same (F (HT.out.drewN _))));go_wp2;go_ret;exact ⟨rfl,Yi (Below.refl _ _) _⟩
 ·simp only [hb] at F;have RG:=Gs h.drew;have hv:s.regs.val=.agg #[.int .i64 s.ba,.int .i64 s.bx,.int .i64 s.b_y,.int .i64 s.bs,.int .i64 s.bp,.int .i64 S.pc.bpc,.int .i64 s.cyc,.bool (s.st==5)]:=by rw [<-hS.bpc];rfl
  rw [hv] at RG;have FL:=QR s.ba s.bx s.b_y s.bs s.bp S.pc.bpc s.cyc (s.st==5);have HS:=hid hS;have PH:=fun {a w:World} (h:Tn B s a w)=>qd h zzb hS.bp S.pc.bpc
  clear h hS hv;go_enter func275,ntmps275;go_wp2_with fail;go_region_with (first|(go_at_call 278;refine (F HT.out.drew).mono ?_;rintro e w1 ⟨rfl,rfl⟩)|(go_at_call 36;refine RG.mono ?_;rintro e w1 ⟨rfl,hb1⟩;have HB:=hid hb1;have HT1:Hid (Tn B s w1 w1):=Tn.refl (HT.out.drew.c.bl hb1);clear hb1)|(go_at_call 209;(try rw [hw]);refine (PH HT1.out).mono ?_;rintro e w2 ⟨rfl,n,rfl⟩));all_goals go_wp2
  all_goals go_ret
  all_goals exact ⟨rfl,Yi (JP (qJ (Below.refl _ _)) HB.out) n⟩
theorem zx1{p:Prop} (q:p:=by
 go_enter func211,ntmps211;go_wp2_with (first|(go_at_call 275;refine (MB HTa.out).mono ?_;rintro e w1 ⟨rfl,hb1⟩;have HB:=hid (JP HBa.out hb1);have HT1:Hid (Tn B s w1 w1):=Tn.refl (HTa.out.c.bl hb1);have cre:=HT1.out.rest zzb HS.out.re;(try rw [hr] at cre);clear hb1)|(go_at_call 53;refine (J HT1.out).mono ?_;rintro e w2 ⟨rfl,rfl⟩)|(go_at_call 276;refine (RF HT1.out).mono ?_;rintro e w2 ⟨rfl,rfl⟩));go_ret2;exact ⟨rfl,HB.out⟩):p:=q
theorem Kg{B:Nat}{s:PC}{w0 w:World}{S:SB}(h:Tn B s w0 w)(hS:SV S s)(l c:Int)(wh:Bool)(why:Nat)(ends:Bool)(hl:S.look l c=if ends=true then some why else none)(hw:ends=false->why=0):Cq 211 #[Pq B,.agg #[Iq l,Tq wh,Iq c]] w (.tuple #[Uq (why:Int),Tq ends]) fun w'=>Bq w w':=by
 have MB:=fun {a w:World} (h:Tn B s a w)=>zbV h hS
 have J:=fun {a w:World} (h:Tn B s a w)=>KI h
 have RF:=fun {a w:World} (h:Tn B s a w)=>zaG h zzb hS.rc
 simp only [hS.st] at J;have HTa:=hid (h.alloc (.cells #[Iq l,Tq wh,Iq c] 261));have HBa:Hid (Bq w (w.alloc (.cells #[Iq l,Tq wh,Iq c] 261))):=V5 (Below.refl _ _);have HS:=hid hS;have HT1:Hid (Tn B s (w.alloc (.cells #[Iq l,Tq wh,Iq c] 261)) (w.alloc (.cells #[Iq l,Tq wh,Iq c] 261))):=Tn.refl HTa.out.c;have HB:=HBa;have cre:=HT1.out.rest zzb hS.re;have e1:(l==0)=decide (l=0):=rfl;unfold SB.look at hl;clear h hS;by_cases h0:l=0
 ·rw [if_pos h0] at hl;subst h0;cases ends
  ·cases hl
  ·injection hl with hl;subst hl;go_enter func211,ntmps211;go_wp2;go_ret2;exact ⟨rfl,HBa.out⟩
 ·rw [if_neg h0] at hl;by_cases hc:0<c
  ·cases hm:S.meets
   ·simp only [hm] at MB;rw [if_neg (by simp [hm])] at hl;by_cases h5:S.pc.st=5
    ·rw [if_pos h5] at hl;have e5:(S.pc.st==5)=true:=by simpa using h5
     simp only [e5] at J;cases ends
     ·cases hl
     ·injection hl with hl;subst hl;exact zx1
    ·rw [if_neg h5] at hl;have e5:(S.pc.st==5)=false:=by simpa using h5
     simp only [e5] at J;cases hr:S.re
     ·rw [hr] at cre;rw [if_neg (by simp [hr])] at hl;cases ends
      ·have hw0:=hw rfl;clear hw hl;subst hw0;exact zx1
      ·cases hl
     ·rw [hr] at cre;by_cases h6:S.rc.n=64
      ·rw [if_pos ⟨hr,h6⟩] at hl;have e6:(S.rc.n==64)=true:=by simpa using h6
       simp only [e6] at RF;cases ends
       ·cases hl
       ·injection hl with hl;subst hl;exact zx1
      ·rw [if_neg (fun q=>h6 q.2)] at hl;have e6:(S.rc.n==64)=false:=by simpa using h6
       simp only [e6] at RF;cases ends
       ·have hw0:=hw rfl;clear hw hl;subst hw0;exact zx1
       ·cases hl
   ·simp only [hm] at MB;rw [if_pos ⟨hc,hm⟩] at hl;cases ends
    ·cases hl
    ·injection hl with hl;subst hl;exact zx1
  ·rw [if_neg (fun q=>hc q.1)] at hl;clear MB;by_cases h5:S.pc.st=5
   ·rw [if_pos h5] at hl;have e5:(S.pc.st==5)=true:=by simpa using h5
    simp only [e5] at J;cases ends
    ·cases hl
    ·injection hl with hl;subst hl;exact zx1
   ·rw [if_neg h5] at hl;have e5:(S.pc.st==5)=false:=by simpa using h5
    simp only [e5] at J;cases hr:S.re
    ·rw [hr] at cre;rw [if_neg (by simp [hr])] at hl;cases ends
     ·have hw0:=hw rfl;clear hw hl;subst hw0;exact zx1
     ·cases hl
    ·rw [hr] at cre;by_cases h6:S.rc.n=64
     ·rw [if_pos ⟨hr,h6⟩] at hl;have e6:(S.rc.n==64)=true:=by simpa using h6
      simp only [e6] at RF;cases ends
      ·cases hl
      ·injection hl with hl;subst hl;exact zx1
     ·rw [if_neg (fun q=>h6 q.2)] at hl;have e6:(S.rc.n==64)=false:=by simpa using h6
      simp only [e6] at RF;cases ends
      ·have hw0:=hw rfl;clear hw hl;subst hw0;exact zx1
      ·cases hl
end
section
def SB.settle(S:SB):SB:=if S.pc.betw=true then {S with pc:={S.pc with mem:=xw S.pc.mem S.pa},pa:=[] } else S
def SB.ran(S:SB):SB × BusI:=({S with pc:=(S.pc.cycle S.nmi S.irq).1,rc:=if S.re=true then S.rc.put (S.pc.cycle S.nmi S.irq).2 else S.rc},(S.pc.cycle S.nmi S.irq).2)
def SB.cyc1(S:SB):SB × BusI:=(S.ran.1.settle,S.ran.2)
theorem SV.settle{S:SB}{s s':PC}(h:SV S s)(m:MsO 65778 65823 s s' (if s.betw=true then xw s.mem S.pa else s.mem))(hl:PasL s'.rest (if s.betw=true then [] else S.pa))(hs:s.betw=false->s'=s):SV S.settle s':=by
 have eb:s.betw=S.pc.betw:=by rw [h.core];rfl
 have em:s.mem=S.pc.mem:=by rw [h.core];rfl
 rw [eb] at hs;rw [eb,em] at m;rw [eb] at hl;unfold SB.settle;cases hb:S.pc.betw
 ·rw [hs hb];exact h
 ·rw [hb] at m hl;exact h.ms m hl.nil
theorem SV.cycled{S:SB}{s:PC}(h:SV S s)(h5:S.pc.st≠5):zcE s S.nmi S.irq=((S.pc.cycle S.nmi S.irq).1.rr s.rest,(S.pc.cycle S.nmi S.irq).2,true):=by
 unfold zcE;rw [if_neg (by rw [h.st];exact h5)];have e:s.cycle S.nmi S.irq=rr2 (S.pc.cycle S.nmi S.irq) s.rest:=by
  have q:=zdx S.pc s.rest S.nmi S.irq;rwa [<-h.core] at q
 rw [e];rfl
theorem Xg{B:Nat}{s:PC}{w0 w:World}{S:SB}(h:Tn B s w0 w)(hS:SV S s)(h5:S.pc.st≠5)(hm:S.pc.st=1->S.pc.md≠0)(hr:S.re=true->S.rc.n<64):Cq 213 #[Pq B] w S.cyc1.2.val fun w'=>∃s',Tn B s' w0 w'/\SV S.cyc1.1 s':=by
 have CY:=fun {a w:World} (h:Tn B s a w)=>zcF h S.nmi S.irq (by rw [hS.st];intro e;have q:=hm e;rw [hS.core];exact q)
 simp only [hS.cycled h5] at CY;have HS1:Hid (SV {S with pc:=(S.pc.cycle S.nmi S.irq).1} ((S.pc.cycle S.nmi S.irq).1.rr s.rest)):=hS.pc rfl;unfold SB.cyc1 SB.ran;generalize S.pc.cycle S.nmi S.irq=r at*;obtain ⟨c,ba,bd,bw,bf⟩:=r;have cn:w.cell? (Aq B 66082)=some (Tq S.nmi):=h.rest zzb hS.nm;have ci:w.cell? (Aq B 66083)=some (Tq S.irq):=h.rest zzb hS.iq;have hlt:=h.c.lt;have hsz:=h.g.size;have n0:w.heap.size≠B:=by omega
 have m0:B≠w.heap.size:=by omega
 have HT:=hid h;have HS:=hid hS;clear h hS;have n01:w.heap.size+1≠B:=by omega
 have m01:B≠w.heap.size+1:=by omega
 have k0:=Ck.mk' HT.out (R:=w.heap.size) rfl;have HR:=hid hr;clear hr;simp only [BusI.val] at CY⊢;go_enter func213,ntmps213;go_upto_region 1 with fail;go_cut [3,4] from 5 to 19 (fun q m wc=> ∃Q,q=Pq Q/\m=Tq true/\Bk w0 B w.heap.size Q (c.rr s.rest) ⟨ba,bd,bw,bf⟩ wc)
 case first=>
  go_region_with (first|(go_at_call 35;refine (Ck.call (w0:=w0) (R:=w.heap.size) (by repeat (first|with_reducible exact k|with_reducible apply Ck.drew|((with_reducible apply Ck.mk');(case hR=>(simp;done));(case h=>(repeat (first|with_reducible exact HT.out|with_reducible apply Tn.drew|with_reducible apply Tn.alloc|((with_reducible apply Tn.other);(case hne=>omega);(case hb=>omega))))))|with_reducible apply Ck.alloc|((with_reducible apply Ck.other);(case hne=>omega);(case hnr=>omega);(case hb=>omega)))) (fun h=>CY h)).mono ?_;rintro e w1 ⟨rfl,k,q1,q2,zz⟩;obtain ⟨⟨r0,r1,r2,r3⟩,r4,z0,n1,n2,m1,m2,fz,b1,nr,mr⟩:=k.facts;(try simp at zz);(try replace zz:=Nat.lt_of_succ_le zz);(try have zl:w.heap.size+1<w1.heap.size:=zza);(try have zm:w.heap.size<w1.heap.size:=zza)));all_goals (go_wp2_with fail;go_meet)
  all_goals first
   |exact ⟨_,rfl,rfl,Bk.late k ⟨ba,bd,bw,bf⟩⟩
   |exact ⟨_,rfl,rfl,Bk.early k ⟨ba,bd,bw,bf⟩ zl n01 zza zza ⟨_,(q1 _ 0 n01 zzc).trans (xU _ _ _ _ 0)⟩ ⟨_,(q1 _ 1 n01 zzc).trans (xU _ _ _ _ 1)⟩ ⟨_,(q1 _ 2 n01 zzc).trans (xU _ _ _ _ 2)⟩ ⟨_,(q1 _ 3 n01 zzc).trans (xU _ _ _ _ 3)⟩ (fun o=>(q2 _ o n01 zzc).trans (VD _ _ _ _ o)) rfl⟩
 case rest=>
 obtain ⟨Q,rfl,rfl,K⟩:=hcut;clear CY k0 cn ci;have cre:wc.cell? (Aq B 66081)=some (Tq S.re):=K.k.t.rest zzb HS1.out.re;cases hre:S.re
 ·rw [hre] at cre;have KX:=K;have SX:=HS1.out;have SE:=ZW (Tn.refl KX.k.c) SX.pa.l;have HKX:=hid KX;have HSX:=hid SX;clear KX SX;go_wp2_with (first|(go_at_call 208;refine SE.mono ?_;rintro e w2 ⟨rfl,s2,T2,M2,L2,E2⟩;have HSV2:=hid (HSX.out.settle M2 L2 E2);have K2:=HKX.out.thru T2;obtain ⟨⟨r0,r1,r2,r3⟩,r4,z0,n1,n2,m1,m2,fz,b1,nr,mr⟩:=K2.k.facts;have t0:=K2.c0;have t1:=K2.c1;have t2:=K2.c2;have t3:=K2.c3;have tr:=K2.nr;have tl:=K2.lt;have tb:=K2.nb;have HT2:=hid K2.k.t;clear K2 M2 L2 T2 E2));all_goals refine bodyPost_ret (v:=.agg #[Iq ba,Iq bd,Tq bw,Tq bf]) (by simp [results,results213,go_sem, *]) rfl (And.intro rfl ⟨s2,?_,by have q:=HSV2.out;rw [hre] at q;exact q⟩)
  all_goals repeat (first|with_reducible exact HT2.out|with_reducible apply Tn.drew|with_reducible apply Tn.alloc|((with_reducible apply Tn.other);(case hne=>omega);(case hb=>omega)))
 ·rw [hre] at cre;have PU:=fun {a w:World} (h:Tn B (c.rr s.rest) a w)=>zcV h zzb HS1.out.rc (HR.out hre) ⟨ba,bd,bw,bf⟩
  simp only [BusI.val] at PU;have SX:SV {S with pc:=c,rc:=S.rc.put ⟨ba,bd,bw,bf⟩ } (Z4 (c.rr s.rest) 65823 S.rc ⟨ba,bd,bw,bf⟩):=HS1.out.rcs (zgt _ _ _ _) (ziI HS1.out.rc (HR.out hre) _);have u0:=K.c0;have u1:=K.c1;have u2:=K.c2;have u3:=K.c3;go_wp2_with fail;go_region_with (first|(go_at_call 277;refine (PU (Tn.refl K.drew.k.c)).mono ?_;rintro e w3 ⟨rfl,T3⟩;have KX:=K.drew.thru T3;clear T3 PU K u0 u1 u2 u3));clear cre;have SE:=ZW (Tn.refl KX.k.c) SX.pa.l;have HKX:=hid KX;have HSX:=hid SX;clear KX SX;go_wp2_with (first|(go_at_call 208;refine SE.mono ?_;rintro e w2 ⟨rfl,s2,T2,M2,L2,E2⟩;have HSV2:=hid (HSX.out.settle M2 L2 E2);have K2:=HKX.out.thru T2;obtain ⟨⟨r0,r1,r2,r3⟩,r4,z0,n1,n2,m1,m2,fz,b1,nr,mr⟩:=K2.k.facts;have t0:=K2.c0;have t1:=K2.c1;have t2:=K2.c2;have t3:=K2.c3;have tr:=K2.nr;have tl:=K2.lt;have tb:=K2.nb;have HT2:=hid K2.k.t;clear K2 M2 L2 T2 E2));all_goals refine bodyPost_ret (v:=.agg #[Iq ba,Iq bd,Tq bw,Tq bf]) (by simp [results,results213,go_sem, *]) rfl (And.intro rfl ⟨s2,?_,by have q:=HSV2.out;simp only [hre] at q;exact q⟩)
  all_goals repeat (first|with_reducible exact HT2.out|with_reducible apply Tn.drew|with_reducible apply Tn.alloc|((with_reducible apply Tn.other);(case hne=>omega);(case hb=>omega)))
end
section
def xD(why:Nat)(c:Int):List UInt8:=[84,48+UInt8.ofNat why]++zX c.toNat 6
theorem YN(why:Nat)(c:Int):(xD why c).length=8:=by simp [xD,yz]
theorem Yj(w:World)(l c:Int)(wh:Bool)(why:Nat)(hw:why<5)(c0:0<=c)(c1:c<9223372036854775808):Cq 212 #[.agg #[Iq l,Tq wh,Iq c],Uq (why:Int)] w (Zq ⟨(xD why c).toArray⟩) fun w'=>Bq w w':=by
 have e1:(48+(why:Int))=((48+UInt8.ofNat why).toNat:Int):=by
  rcases (show why=0\/why=1\/why=2\/why=3\/why=4 from by omega) with rfl|rfl|rfl|rfl|rfl<;>rfl
 have HB:Hid (Bq w ((w.alloc (.cells #[Iq l,Tq wh,Iq c] 261)))):=V5 (Below.refl _ _);have HO:Hid (OwnV (w.heap.size+1) (w.alloc (.cells #[Iq l,Tq wh,Iq c] 261)) ((w.alloc (.cells #[Iq l,Tq wh,Iq c] 261)).alloc (.cells #[Uq 84,Uq (48+(why:Int))] 5)) (.slice (some ⟨w.heap.size+1,0,none⟩) 2 2) [84,48+UInt8.ofNat why]):=by
  rw [e1];have hs:(w.alloc (.cells #[Iq l,Tq wh,Iq c] 261)).heap.size=w.heap.size+1:=by simp
  have q:=World.ownsRow_lit (w.alloc (.cells #[Iq l,Tq wh,Iq c] 261)) #[Uq 84,Uq ((48+UInt8.ofNat why).toNat:Int)] 2 (base:=(w.alloc (.cells #[Iq l,Tq wh,Iq c] 261)).heap.size) (e:=5) (size:=1) (Nat.le_refl _) zzb rfl;rw [hs] at q;refine ⟨q,?_,by simp⟩;rw [<-hs];exact qBa
 clear e1;go_enter func212,ntmps212;go_wp2_with fail;refine (xy _ _ _ _ 6 _ _ HO.out zzc c0 c1 zza).mono ?_;rintro e w3 ⟨v3,rfl,O3⟩;obtain ⟨g,cap,rfl,o1,o2,o3⟩:=O3.form zzc;have hcv:=ji o1;have HF:Hid (Bq w w3):=HB.out.trans (o2.mono zza);have HX:Hid ([84,48+UInt8.ofNat why]++zX c.toNat 6=xD why c):=rfl;rw [HX.out] at hcv;rw [HX.out];clear O3 o1 o2 o3 HO;go_wp2;go_ret;exact ⟨rfl,HF.out⟩
end
