import Derived.WalkKit
import Derived.WalkSpells
import Derived.WalkLawsBesides
import Derived.Test.YtcgjliflnnklnaaGreatProg
import Derived.Test.YtcgjliflnnklnaaGreatJ02
namespace Go.Proofs.YtcgjliflnnklnaaGreat
open Go.RowKit Tryz
set_option maxRecDepth 100000
set_option maxHeartbeats 1000000
theorem qI(B a b:Nat)(h:a≠b):((Aq B a):Addr)≠ (Aq B b):=by
 intro e;injection e with e1 e2;exact h e2
structure CAt (w:World) (B:Nat) (s:PC):Prop where
 mem:∀i,i<65536->w.cell? (Aq B i)=some (Uq (s.mem i))
 rmem:∀i,i<65536->0<=s.mem i/\s.mem i<256
 crom:w.cell? (Aq B 65536)=some (Iq s.rom)
 ccnt:w.cell? (Aq B 65537)=some (Uq s.cnt)
 ccalls:w.cell? (Aq B 65538)=some (Tq s.calls)
 ca:w.cell? (Aq B 65539)=some (Uq s.a)
 cx:w.cell? (Aq B 65540)=some (Uq s.x)
 cy:w.cell? (Aq B 65541)=some (Uq s.y)
 cs:w.cell? (Aq B 65542)=some (Uq s.s)
 cp:w.cell? (Aq B 65543)=some (Uq s.p)
 cpc:w.cell? (Aq B 65544)=some (.int .u16 s.pc)
 cba:w.cell? (Aq B 65545)=some (Uq s.ba)
 cbx:w.cell? (Aq B 65546)=some (Uq s.bx)
 cb_y:w.cell? (Aq B 65547)=some (Uq s.b_y)
 cbs:w.cell? (Aq B 65548)=some (Uq s.bs)
 cbp:w.cell? (Aq B 65549)=some (Uq s.bp)
 cbpc:w.cell? (Aq B 65550)=some (.int .u16 s.bpc)
 cst:w.cell? (Aq B 65551)=some (Uq s.st)
 cins:w.cell? (Aq B 65552)=some (Uq s.ins)
 cmd:w.cell? (Aq B 65553)=some (Uq s.md)
 cstep:w.cell? (Aq B 65554)=some (Iq s.step)
 cad:w.cell? (Aq B 65555)=some (.int .u16 s.ad)
 chop:w.cell? (Aq B 65556)=some (.int .u16 s.hop)
 cdata:w.cell? (Aq B 65557)=some (Uq s.data)
 ctaken:w.cell? (Aq B 65558)=some (Tq s.taken)
 cnmiOn:w.cell? (Aq B 65559)=some (Tq s.nmiOn)
 cnmiDue:w.cell? (Aq B 65560)=some (Tq s.nmiDue)
 ccyc:w.cell? (Aq B 65561)=some (Iq s.cyc)
 rrom:0<=s.rom/\s.rom<65537
 rcnt:0<=s.cnt/\s.cnt<256
 ra:0<=s.a/\s.a<256
 rx:0<=s.x/\s.x<256
 ry:0<=s.y/\s.y<256
 rs:0<=s.s/\s.s<256
 rp:0<=s.p/\s.p<256
 rpc:0<=s.pc/\s.pc<65536
 rba:0<=s.ba/\s.ba<256
 rbx:0<=s.bx/\s.bx<256
 rb_y:0<=s.b_y/\s.b_y<256
 rbs:0<=s.bs/\s.bs<256
 rbp:0<=s.bp/\s.bp<256
 rbpc:0<=s.bpc/\s.bpc<65536
 rst:0<=s.st/\s.st<6
 rins:0<=s.ins/\s.ins<56
 rmd:0<=s.md/\s.md<23
 rstep: -9223372036854775808<=s.step/\s.step<9223372036854775808
 rad:0<=s.ad/\s.ad<65536
 rhop:0<=s.hop/\s.hop<65536
 rdata:0<=s.data/\s.data<256
 rcyc: -9223372036854775808<=s.cyc/\s.cyc<9223372036854775808
 free:∀o,w.frozen? (Aq B o)=false
 crest:∀o,65562<=o->w.cell? (Aq B o)=s.rest o
theorem CAt.lt{w:World}{B:Nat}{s:PC}(h:CAt w B s):B<w.heap.size:=World.block_lt_of_cell? w (Aq B 65536) h.crom
theorem CAt.same{w w':World}{B:Nat}{s:PC}(h:CAt w B s)(e:w'.heap[B]?=w.heap[B]?):CAt w' B s:=by
 have q:∀o,w'.cell? (Aq B o)=w.cell? (Aq B o):=fun o=>World.cell?_of_block (a:=(Aq B o)) e
 exact {mem:=fun i hi=>(q _).trans (h.mem i hi),rmem:=h.rmem,crom:=(q _).trans h.crom,ccnt:=(q _).trans h.ccnt,ccalls:=(q _).trans h.ccalls,ca:=(q _).trans h.ca,cx:=(q _).trans h.cx,cy:=(q _).trans h.cy,cs:=(q _).trans h.cs,cp:=(q _).trans h.cp,cpc:=(q _).trans h.cpc,cba:=(q _).trans h.cba,cbx:=(q _).trans h.cbx,cb_y:=(q _).trans h.cb_y,cbs:=(q _).trans h.cbs,cbp:=(q _).trans h.cbp,cbpc:=(q _).trans h.cbpc,cst:=(q _).trans h.cst,cins:=(q _).trans h.cins,cmd:=(q _).trans h.cmd,cstep:=(q _).trans h.cstep,cad:=(q _).trans h.cad,chop:=(q _).trans h.chop,cdata:=(q _).trans h.cdata,ctaken:=(q _).trans h.ctaken,cnmiOn:=(q _).trans h.cnmiOn,cnmiDue:=(q _).trans h.cnmiDue,ccyc:=(q _).trans h.ccyc,rrom:=h.rrom,rcnt:=h.rcnt,ra:=h.ra,rx:=h.rx,ry:=h.ry,rs:=h.rs,rp:=h.rp,rpc:=h.rpc,rba:=h.rba,rbx:=h.rbx,rb_y:=h.rb_y,rbs:=h.rbs,rbp:=h.rbp,rbpc:=h.rbpc,rst:=h.rst,rins:=h.rins,rmd:=h.rmd,rstep:=h.rstep,rad:=h.rad,rhop:=h.rhop,rdata:=h.rdata,rcyc:=h.rcyc,free:=fun o=>(World.frozen?_of_block (a:=(Aq B o)) e).trans (h.free o),crest:=fun o ho=>(q _).trans (h.crest o ho)}
theorem vT(w:World)(B n:Nat)(v:Value):∀o,o≠n->(w.setCell (Aq B n) v).cell? (Aq B o)=w.cell? (Aq B o):=fun _ ho=>World.cell?_setCell_other _ _ _ _ (qI _ _ _ (fun e=>ho e.symm))
theorem vU{p:Prop}(z:p:=by exact {mem:=fun i hi=>(q _ zza).trans (h.mem i hi),rmem:=h.rmem,crom:=by first|exact (q _ zzb).trans h.crom|exact World.cell?_setCell_same _ _ _ h.crom,ccnt:=by first|exact (q _ zzb).trans h.ccnt|exact World.cell?_setCell_same _ _ _ h.ccnt,ccalls:=by first|exact (q _ zzb).trans h.ccalls|exact World.cell?_setCell_same _ _ _ h.ccalls,ca:=by first|exact (q _ zzb).trans h.ca|exact World.cell?_setCell_same _ _ _ h.ca,cx:=by first|exact (q _ zzb).trans h.cx|exact World.cell?_setCell_same _ _ _ h.cx,cy:=by first|exact (q _ zzb).trans h.cy|exact World.cell?_setCell_same _ _ _ h.cy,cs:=by first|exact (q _ zzb).trans h.cs|exact World.cell?_setCell_same _ _ _ h.cs,cp:=by first|exact (q _ zzb).trans h.cp|exact World.cell?_setCell_same _ _ _ h.cp,cpc:=by first|exact (q _ zzb).trans h.cpc|exact World.cell?_setCell_same _ _ _ h.cpc,cba:=by first|exact (q _ zzb).trans h.cba|exact World.cell?_setCell_same _ _ _ h.cba,cbx:=by first|exact (q _ zzb).trans h.cbx|exact World.cell?_setCell_same _ _ _ h.cbx,cb_y:=by first|exact (q _ zzb).trans h.cb_y|exact World.cell?_setCell_same _ _ _ h.cb_y,cbs:=by first|exact (q _ zzb).trans h.cbs|exact World.cell?_setCell_same _ _ _ h.cbs,cbp:=by first|exact (q _ zzb).trans h.cbp|exact World.cell?_setCell_same _ _ _ h.cbp,cbpc:=by first|exact (q _ zzb).trans h.cbpc|exact World.cell?_setCell_same _ _ _ h.cbpc,cst:=by first|exact (q _ zzb).trans h.cst|exact World.cell?_setCell_same _ _ _ h.cst,cins:=by first|exact (q _ zzb).trans h.cins|exact World.cell?_setCell_same _ _ _ h.cins,cmd:=by first|exact (q _ zzb).trans h.cmd|exact World.cell?_setCell_same _ _ _ h.cmd,cstep:=by first|exact (q _ zzb).trans h.cstep|exact World.cell?_setCell_same _ _ _ h.cstep,cad:=by first|exact (q _ zzb).trans h.cad|exact World.cell?_setCell_same _ _ _ h.cad,chop:=by first|exact (q _ zzb).trans h.chop|exact World.cell?_setCell_same _ _ _ h.chop,cdata:=by first|exact (q _ zzb).trans h.cdata|exact World.cell?_setCell_same _ _ _ h.cdata,ctaken:=by first|exact (q _ zzb).trans h.ctaken|exact World.cell?_setCell_same _ _ _ h.ctaken,cnmiOn:=by first|exact (q _ zzb).trans h.cnmiOn|exact World.cell?_setCell_same _ _ _ h.cnmiOn,cnmiDue:=by first|exact (q _ zzb).trans h.cnmiDue|exact World.cell?_setCell_same _ _ _ h.cnmiDue,ccyc:=by first|exact (q _ zzb).trans h.ccyc|exact World.cell?_setCell_same _ _ _ h.ccyc,rrom:=by first|exact h.rrom|exact hv,rcnt:=by first|exact h.rcnt|exact hv,ra:=by first|exact h.ra|exact hv,rx:=by first|exact h.rx|exact hv,ry:=by first|exact h.ry|exact hv,rs:=by first|exact h.rs|exact hv,rp:=by first|exact h.rp|exact hv,rpc:=by first|exact h.rpc|exact hv,rba:=by first|exact h.rba|exact hv,rbx:=by first|exact h.rbx|exact hv,rb_y:=by first|exact h.rb_y|exact hv,rbs:=by first|exact h.rbs|exact hv,rbp:=by first|exact h.rbp|exact hv,rbpc:=by first|exact h.rbpc|exact hv,rst:=by first|exact h.rst|exact hv,rins:=by first|exact h.rins|exact hv,rmd:=by first|exact h.rmd|exact hv,rstep:=by first|exact h.rstep|exact hv,rad:=by first|exact h.rad|exact hv,rhop:=by first|exact h.rhop|exact hv,rdata:=by first|exact h.rdata|exact hv,rcyc:=by first|exact h.rcyc|exact hv,free:=fun o=>by rw [World.frozen?_setCell];exact h.free o,crest:=fun o ho=>(q _ zza).trans (h.crest o ho)}):p:=z
theorem CAt.setRom{w:World}{B:Nat}{s:PC}(h:CAt w B s)(v:Int)(hv:0<=v/\v<65537):CAt (w.setCell (Aq B 65536) (Iq v)) B {s with rom:=v}:=by
 have q:=vT w B 65536 (Iq v);exact vU
theorem CAt.setCnt{w:World}{B:Nat}{s:PC}(h:CAt w B s)(v:Int)(hv:0<=v/\v<256):CAt (w.setCell (Aq B 65537) (Uq v)) B {s with cnt:=v}:=by
 have q:=vT w B 65537 (Uq v);exact vU
theorem CAt.setCalls{w:World}{B:Nat}{s:PC}(h:CAt w B s)(v:Bool):CAt (w.setCell (Aq B 65538) (Tq v)) B {s with calls:=v}:=by
 have q:=vT w B 65538 (Tq v);exact vU
theorem CAt.setA{w:World}{B:Nat}{s:PC}(h:CAt w B s)(v:Int)(hv:0<=v/\v<256):CAt (w.setCell (Aq B 65539) (Uq v)) B {s with a:=v}:=by
 have q:=vT w B 65539 (Uq v);exact vU
theorem CAt.setX{w:World}{B:Nat}{s:PC}(h:CAt w B s)(v:Int)(hv:0<=v/\v<256):CAt (w.setCell (Aq B 65540) (Uq v)) B {s with x:=v}:=by
 have q:=vT w B 65540 (Uq v);exact vU
theorem CAt.setY{w:World}{B:Nat}{s:PC}(h:CAt w B s)(v:Int)(hv:0<=v/\v<256):CAt (w.setCell (Aq B 65541) (Uq v)) B {s with y:=v}:=by
 have q:=vT w B 65541 (Uq v);exact vU
theorem CAt.setS{w:World}{B:Nat}{s:PC}(h:CAt w B s)(v:Int)(hv:0<=v/\v<256):CAt (w.setCell (Aq B 65542) (Uq v)) B {s with s:=v}:=by
 have q:=vT w B 65542 (Uq v);exact vU
theorem CAt.setP{w:World}{B:Nat}{s:PC}(h:CAt w B s)(v:Int)(hv:0<=v/\v<256):CAt (w.setCell (Aq B 65543) (Uq v)) B {s with p:=v}:=by
 have q:=vT w B 65543 (Uq v);exact vU
theorem CAt.setPc{w:World}{B:Nat}{s:PC}(h:CAt w B s)(v:Int)(hv:0<=v/\v<65536):CAt (w.setCell (Aq B 65544) (.int .u16 v)) B {s with pc:=v}:=by
 have q:=vT w B 65544 (.int .u16 v);exact vU
theorem CAt.setBa{w:World}{B:Nat}{s:PC}(h:CAt w B s)(v:Int)(hv:0<=v/\v<256):CAt (w.setCell (Aq B 65545) (Uq v)) B {s with ba:=v}:=by
 have q:=vT w B 65545 (Uq v);exact vU
theorem CAt.setBx{w:World}{B:Nat}{s:PC}(h:CAt w B s)(v:Int)(hv:0<=v/\v<256):CAt (w.setCell (Aq B 65546) (Uq v)) B {s with bx:=v}:=by
 have q:=vT w B 65546 (Uq v);exact vU
theorem CAt.setB_y{w:World}{B:Nat}{s:PC}(h:CAt w B s)(v:Int)(hv:0<=v/\v<256):CAt (w.setCell (Aq B 65547) (Uq v)) B {s with b_y:=v}:=by
 have q:=vT w B 65547 (Uq v);exact vU
theorem CAt.setBs{w:World}{B:Nat}{s:PC}(h:CAt w B s)(v:Int)(hv:0<=v/\v<256):CAt (w.setCell (Aq B 65548) (Uq v)) B {s with bs:=v}:=by
 have q:=vT w B 65548 (Uq v);exact vU
theorem CAt.setBp{w:World}{B:Nat}{s:PC}(h:CAt w B s)(v:Int)(hv:0<=v/\v<256):CAt (w.setCell (Aq B 65549) (Uq v)) B {s with bp:=v}:=by
 have q:=vT w B 65549 (Uq v);exact vU
theorem CAt.setBpc{w:World}{B:Nat}{s:PC}(h:CAt w B s)(v:Int)(hv:0<=v/\v<65536):CAt (w.setCell (Aq B 65550) (.int .u16 v)) B {s with bpc:=v}:=by
 have q:=vT w B 65550 (.int .u16 v);exact vU
theorem CAt.setSt{w:World}{B:Nat}{s:PC}(h:CAt w B s)(v:Int)(hv:0<=v/\v<6):CAt (w.setCell (Aq B 65551) (Uq v)) B {s with st:=v}:=by
 have q:=vT w B 65551 (Uq v);exact vU
theorem CAt.setIns{w:World}{B:Nat}{s:PC}(h:CAt w B s)(v:Int)(hv:0<=v/\v<56):CAt (w.setCell (Aq B 65552) (Uq v)) B {s with ins:=v}:=by
 have q:=vT w B 65552 (Uq v);exact vU
theorem CAt.setMd{w:World}{B:Nat}{s:PC}(h:CAt w B s)(v:Int)(hv:0<=v/\v<23):CAt (w.setCell (Aq B 65553) (Uq v)) B {s with md:=v}:=by
 have q:=vT w B 65553 (Uq v);exact vU
theorem CAt.setStep{w:World}{B:Nat}{s:PC}(h:CAt w B s)(v:Int)(hv: -9223372036854775808<=v/\v<9223372036854775808):CAt (w.setCell (Aq B 65554) (Iq v)) B {s with step:=v}:=by
 have q:=vT w B 65554 (Iq v);exact vU
theorem CAt.setAd{w:World}{B:Nat}{s:PC}(h:CAt w B s)(v:Int)(hv:0<=v/\v<65536):CAt (w.setCell (Aq B 65555) (.int .u16 v)) B {s with ad:=v}:=by
 have q:=vT w B 65555 (.int .u16 v);exact vU
theorem CAt.setHop{w:World}{B:Nat}{s:PC}(h:CAt w B s)(v:Int)(hv:0<=v/\v<65536):CAt (w.setCell (Aq B 65556) (.int .u16 v)) B {s with hop:=v}:=by
 have q:=vT w B 65556 (.int .u16 v);exact vU
theorem CAt.setData{w:World}{B:Nat}{s:PC}(h:CAt w B s)(v:Int)(hv:0<=v/\v<256):CAt (w.setCell (Aq B 65557) (Uq v)) B {s with data:=v}:=by
 have q:=vT w B 65557 (Uq v);exact vU
theorem CAt.setTaken{w:World}{B:Nat}{s:PC}(h:CAt w B s)(v:Bool):CAt (w.setCell (Aq B 65558) (Tq v)) B {s with taken:=v}:=by
 have q:=vT w B 65558 (Tq v);exact vU
theorem CAt.setNmiOn{w:World}{B:Nat}{s:PC}(h:CAt w B s)(v:Bool):CAt (w.setCell (Aq B 65559) (Tq v)) B {s with nmiOn:=v}:=by
 have q:=vT w B 65559 (Tq v);exact vU
theorem CAt.setNmiDue{w:World}{B:Nat}{s:PC}(h:CAt w B s)(v:Bool):CAt (w.setCell (Aq B 65560) (Tq v)) B {s with nmiDue:=v}:=by
 have q:=vT w B 65560 (Tq v);exact vU
theorem CAt.setCyc{w:World}{B:Nat}{s:PC}(h:CAt w B s)(v:Int)(hv: -9223372036854775808<=v/\v<9223372036854775808):CAt (w.setCell (Aq B 65561) (Iq v)) B {s with cyc:=v}:=by
 have q:=vT w B 65561 (Iq v);exact vU
theorem CAt.setMem{w:World}{B:Nat}{s:PC}(h:CAt w B s)(i:Nat)(v:Int)(hi:i<65536)(hv:0<=v/\v<256):CAt (w.setCell (Aq B i) (Uq v)) B {s with mem:=vH s.mem i v}:=by
 have q:∀o,o≠i->(w.setCell (Aq B i) (Uq v)).cell? (Aq B o)=w.cell? (Aq B o):=fun _ ho=>World.cell?_setCell_other _ _ _ _ (qI _ _ _ (fun e=>ho e.symm))
 exact {mem:=fun k hk=>by
           by_cases e:k=i
           ·subst e;rw [World.cell?_setCell_same _ _ _ (h.mem k hk)];simp [vH]
           ·rw [q k e,h.mem k hk];simp [vH,e],
          rmem:=fun k hk=>by
           by_cases e:k=i
           ·subst e;simpa [vH] using hv
           ·simpa [vH,e] using h.rmem k hk,
          crom:=(q _ zza).trans h.crom,ccnt:=(q _ zza).trans h.ccnt,ccalls:=(q _ zza).trans h.ccalls,ca:=(q _ zza).trans h.ca,cx:=(q _ zza).trans h.cx,cy:=(q _ zza).trans h.cy,cs:=(q _ zza).trans h.cs,cp:=(q _ zza).trans h.cp,cpc:=(q _ zza).trans h.cpc,cba:=(q _ zza).trans h.cba,cbx:=(q _ zza).trans h.cbx,cb_y:=(q _ zza).trans h.cb_y,cbs:=(q _ zza).trans h.cbs,cbp:=(q _ zza).trans h.cbp,cbpc:=(q _ zza).trans h.cbpc,cst:=(q _ zza).trans h.cst,cins:=(q _ zza).trans h.cins,cmd:=(q _ zza).trans h.cmd,cstep:=(q _ zza).trans h.cstep,cad:=(q _ zza).trans h.cad,chop:=(q _ zza).trans h.chop,cdata:=(q _ zza).trans h.cdata,ctaken:=(q _ zza).trans h.ctaken,cnmiOn:=(q _ zza).trans h.cnmiOn,cnmiDue:=(q _ zza).trans h.cnmiDue,ccyc:=(q _ zza).trans h.ccyc,rrom:=h.rrom,rcnt:=h.rcnt,ra:=h.ra,rx:=h.rx,ry:=h.ry,rs:=h.rs,rp:=h.rp,rpc:=h.rpc,rba:=h.rba,rbx:=h.rbx,rb_y:=h.rb_y,rbs:=h.rbs,rbp:=h.rbp,rbpc:=h.rbpc,rst:=h.rst,rins:=h.rins,rmd:=h.rmd,rstep:=h.rstep,rad:=h.rad,rhop:=h.rhop,rdata:=h.rdata,rcyc:=h.rcyc,free:=fun o=>by rw [World.frozen?_setCell];exact h.free o,crest:=fun o ho=>(q _ zza).trans (h.crest o ho)}
theorem yE(w:World)(B o:Nat)(v:Value):w.grownBy (w.setCell (Aq B o) v) (some B):=
 ⟨rfl,rfl,rfl,by simp,fun k _ hne=>Below.heap_setCell _ _ _ _ (fun e=>hne (by rw [e]))⟩
theorem zJ{a b c:World}{row:Option Nat}(h:a.grownBy b row)(k:b.grownBy c row):a.grownBy c row:=
 ⟨k.os.trans h.os,k.tape.trans h.tape,k.output.trans h.output,Nat.le_trans h.size k.size,fun i hi hne=>(k.block i (Nat.lt_of_lt_of_le hi h.size) hne).trans (h.block i hi hne)⟩
theorem XT(w:World)(row:Option Nat):w.grownBy w.drew row:=⟨rfl,rfl,rfl,Nat.le_refl _,fun _ _ _=>rfl⟩
theorem Zp{k:IntKind}{a b:Int}(h:a=b):Ending.returned (.int k a)=.returned (.int k b):=by rw [h]
theorem ZH{a b:Bool}(h:a=b):Ending.returned (Tq a)=.returned (Tq b):=by rw [h]
theorem UH(w:World)(row:Option Nat):w.grownBy w row:=⟨rfl,rfl,rfl,Nat.le_refl _,fun _ _ _=>rfl⟩
theorem Yx(w:World)(o:Obj)(row:Option Nat):w.grownBy (w.alloc o) row:=
 ⟨rfl,rfl,rfl,by simp,fun k hk _=>Below.heap_alloc _ _ _ hk⟩
structure Tn (B:Nat) (s':PC) (w w':World):Prop where
 c:CAt w' B s'
 g:w.grownBy w' (some B)
theorem Tn.trans{B:Nat}{s1 s2:PC}{a b c:World}(h:Tn B s1 a b)(k:Tn B s2 b c):Tn B s2 a c:=⟨k.c,zJ h.g k.g⟩
theorem Tn.refl{B:Nat}{s:PC}{w:World}(h:CAt w B s):Tn B s w w:=⟨h,UH _ _⟩
theorem Tn.drew{B:Nat}{s:PC}{w w':World}(h:Tn B s w w'):Tn B s w w'.drew:=⟨h.c.same rfl,zJ h.g (XT _ _)⟩
theorem Tn.alloc{B:Nat}{s:PC}{w w':World}(h:Tn B s w w')(o:Obj):Tn B s w (w'.alloc o):=
 ⟨h.c.same (Below.heap_alloc _ _ _ h.c.lt),zJ h.g (Yx _ _ _)⟩
theorem Tn.setRom{w w':World}{B:Nat}{s:PC}(h:Tn B s w w')(v:Int)(hv:0<=v/\v<65537):Tn B {s with rom:=v} w (w'.setCell (Aq B 65536) (Iq v)):=⟨h.c.setRom v hv,zJ h.g (yE _ _ _ _)⟩
theorem Tn.setCnt{w w':World}{B:Nat}{s:PC}(h:Tn B s w w')(v:Int)(hv:0<=v/\v<256):Tn B {s with cnt:=v} w (w'.setCell (Aq B 65537) (Uq v)):=⟨h.c.setCnt v hv,zJ h.g (yE _ _ _ _)⟩
theorem Tn.setCalls{w w':World}{B:Nat}{s:PC}(h:Tn B s w w')(v:Bool):Tn B {s with calls:=v} w (w'.setCell (Aq B 65538) (Tq v)):=⟨h.c.setCalls v,zJ h.g (yE _ _ _ _)⟩
theorem Tn.setA{w w':World}{B:Nat}{s:PC}(h:Tn B s w w')(v:Int)(hv:0<=v/\v<256):Tn B {s with a:=v} w (w'.setCell (Aq B 65539) (Uq v)):=⟨h.c.setA v hv,zJ h.g (yE _ _ _ _)⟩
theorem Tn.setX{w w':World}{B:Nat}{s:PC}(h:Tn B s w w')(v:Int)(hv:0<=v/\v<256):Tn B {s with x:=v} w (w'.setCell (Aq B 65540) (Uq v)):=⟨h.c.setX v hv,zJ h.g (yE _ _ _ _)⟩
theorem Tn.setY{w w':World}{B:Nat}{s:PC}(h:Tn B s w w')(v:Int)(hv:0<=v/\v<256):Tn B {s with y:=v} w (w'.setCell (Aq B 65541) (Uq v)):=⟨h.c.setY v hv,zJ h.g (yE _ _ _ _)⟩
theorem Tn.setS{w w':World}{B:Nat}{s:PC}(h:Tn B s w w')(v:Int)(hv:0<=v/\v<256):Tn B {s with s:=v} w (w'.setCell (Aq B 65542) (Uq v)):=⟨h.c.setS v hv,zJ h.g (yE _ _ _ _)⟩
theorem Tn.setP{w w':World}{B:Nat}{s:PC}(h:Tn B s w w')(v:Int)(hv:0<=v/\v<256):Tn B {s with p:=v} w (w'.setCell (Aq B 65543) (Uq v)):=⟨h.c.setP v hv,zJ h.g (yE _ _ _ _)⟩
theorem Tn.setPc{w w':World}{B:Nat}{s:PC}(h:Tn B s w w')(v:Int)(hv:0<=v/\v<65536):Tn B {s with pc:=v} w (w'.setCell (Aq B 65544) (.int .u16 v)):=⟨h.c.setPc v hv,zJ h.g (yE _ _ _ _)⟩
theorem Tn.setBa{w w':World}{B:Nat}{s:PC}(h:Tn B s w w')(v:Int)(hv:0<=v/\v<256):Tn B {s with ba:=v} w (w'.setCell (Aq B 65545) (Uq v)):=⟨h.c.setBa v hv,zJ h.g (yE _ _ _ _)⟩
theorem Tn.setBx{w w':World}{B:Nat}{s:PC}(h:Tn B s w w')(v:Int)(hv:0<=v/\v<256):Tn B {s with bx:=v} w (w'.setCell (Aq B 65546) (Uq v)):=⟨h.c.setBx v hv,zJ h.g (yE _ _ _ _)⟩
theorem Tn.setB_y{w w':World}{B:Nat}{s:PC}(h:Tn B s w w')(v:Int)(hv:0<=v/\v<256):Tn B {s with b_y:=v} w (w'.setCell (Aq B 65547) (Uq v)):=⟨h.c.setB_y v hv,zJ h.g (yE _ _ _ _)⟩
theorem Tn.setBs{w w':World}{B:Nat}{s:PC}(h:Tn B s w w')(v:Int)(hv:0<=v/\v<256):Tn B {s with bs:=v} w (w'.setCell (Aq B 65548) (Uq v)):=⟨h.c.setBs v hv,zJ h.g (yE _ _ _ _)⟩
theorem Tn.setBp{w w':World}{B:Nat}{s:PC}(h:Tn B s w w')(v:Int)(hv:0<=v/\v<256):Tn B {s with bp:=v} w (w'.setCell (Aq B 65549) (Uq v)):=⟨h.c.setBp v hv,zJ h.g (yE _ _ _ _)⟩
theorem Tn.setBpc{w w':World}{B:Nat}{s:PC}(h:Tn B s w w')(v:Int)(hv:0<=v/\v<65536):Tn B {s with bpc:=v} w (w'.setCell (Aq B 65550) (.int .u16 v)):=⟨h.c.setBpc v hv,zJ h.g (yE _ _ _ _)⟩
theorem Tn.setSt{w w':World}{B:Nat}{s:PC}(h:Tn B s w w')(v:Int)(hv:0<=v/\v<6):Tn B {s with st:=v} w (w'.setCell (Aq B 65551) (Uq v)):=⟨h.c.setSt v hv,zJ h.g (yE _ _ _ _)⟩
theorem Tn.setIns{w w':World}{B:Nat}{s:PC}(h:Tn B s w w')(v:Int)(hv:0<=v/\v<56):Tn B {s with ins:=v} w (w'.setCell (Aq B 65552) (Uq v)):=⟨h.c.setIns v hv,zJ h.g (yE _ _ _ _)⟩
theorem Tn.setMd{w w':World}{B:Nat}{s:PC}(h:Tn B s w w')(v:Int)(hv:0<=v/\v<23):Tn B {s with md:=v} w (w'.setCell (Aq B 65553) (Uq v)):=⟨h.c.setMd v hv,zJ h.g (yE _ _ _ _)⟩
theorem Tn.setStep{w w':World}{B:Nat}{s:PC}(h:Tn B s w w')(v:Int)(hv: -9223372036854775808<=v/\v<9223372036854775808):Tn B {s with step:=v} w (w'.setCell (Aq B 65554) (Iq v)):=⟨h.c.setStep v hv,zJ h.g (yE _ _ _ _)⟩
theorem Tn.setAd{w w':World}{B:Nat}{s:PC}(h:Tn B s w w')(v:Int)(hv:0<=v/\v<65536):Tn B {s with ad:=v} w (w'.setCell (Aq B 65555) (.int .u16 v)):=⟨h.c.setAd v hv,zJ h.g (yE _ _ _ _)⟩
theorem Tn.setHop{w w':World}{B:Nat}{s:PC}(h:Tn B s w w')(v:Int)(hv:0<=v/\v<65536):Tn B {s with hop:=v} w (w'.setCell (Aq B 65556) (.int .u16 v)):=⟨h.c.setHop v hv,zJ h.g (yE _ _ _ _)⟩
theorem Tn.setData{w w':World}{B:Nat}{s:PC}(h:Tn B s w w')(v:Int)(hv:0<=v/\v<256):Tn B {s with data:=v} w (w'.setCell (Aq B 65557) (Uq v)):=⟨h.c.setData v hv,zJ h.g (yE _ _ _ _)⟩
theorem Tn.setTaken{w w':World}{B:Nat}{s:PC}(h:Tn B s w w')(v:Bool):Tn B {s with taken:=v} w (w'.setCell (Aq B 65558) (Tq v)):=⟨h.c.setTaken v,zJ h.g (yE _ _ _ _)⟩
theorem Tn.setNmiOn{w w':World}{B:Nat}{s:PC}(h:Tn B s w w')(v:Bool):Tn B {s with nmiOn:=v} w (w'.setCell (Aq B 65559) (Tq v)):=⟨h.c.setNmiOn v,zJ h.g (yE _ _ _ _)⟩
theorem Tn.setNmiDue{w w':World}{B:Nat}{s:PC}(h:Tn B s w w')(v:Bool):Tn B {s with nmiDue:=v} w (w'.setCell (Aq B 65560) (Tq v)):=⟨h.c.setNmiDue v,zJ h.g (yE _ _ _ _)⟩
theorem Tn.setCyc{w w':World}{B:Nat}{s:PC}(h:Tn B s w w')(v:Int)(hv: -9223372036854775808<=v/\v<9223372036854775808):Tn B {s with cyc:=v} w (w'.setCell (Aq B 65561) (Iq v)):=⟨h.c.setCyc v hv,zJ h.g (yE _ _ _ _)⟩
theorem Tn.setMem{w w':World}{B:Nat}{s:PC}(h:Tn B s w w')(i:Nat)(v:Int)(hi:i<65536)(hv:0<=v/\v<256):Tn B {s with mem:=vH s.mem i v} w (w'.setCell (Aq B i) (Uq v)):=⟨h.c.setMem i v hi hv,zJ h.g (yE _ _ _ _)⟩
theorem zbk(lo hi:Int)(h1:0<=lo)(h2:lo<256)(h3:0<=hi)(h4:hi<256):bits .or .u16 (hi*256) lo=zn lo hi:=by
 rw [u16_or _ _ zza zza zza zza];obtain ⟨a,rfl⟩:=Int.eq_ofNat_of_zero_le h1;obtain ⟨b,rfl⟩:=Int.eq_ofNat_of_zero_le h3;have e:((b:Int)*256).toNat=b*256:=by omega
 rw [e,Int.toNat_natCast,nat_join 8 _ _ zza zza];unfold zn;omega
theorem xr(lo hi:Int)(w:World)(h1:0<=lo)(h2:lo<256)(h3:0<=hi)(h4:hi<256):Cq 52 #[Uq lo,Uq hi] w (.int .u16 (zn lo hi)) fun w'=>w'=w:=by
 have hj:Hid (bits .or .u16 (hi*256) lo=zn lo hi):=zbk lo hi h1 h2 h3 h4;go_enter func52,ntmps52;go_wp2;go_ret;exact ⟨Zp hj.out,rfl⟩
theorem vE(a:Int)(w:World):Cq 179 #[.int .u16 a] w (Uq (loI a)) fun w'=>w'=w:=by
 go_enter func179,ntmps179;go_wp2;go_ret;exact ⟨Zp rfl,rfl⟩
theorem vF(a:Int)(w:World)(h1:0<=a)(h2:a<65536):Cq 177 #[.int .u16 a] w (Uq (hiI a)) fun w'=>w'=w:=by
 go_enter func177,ntmps177;go_wp2;go_ret;exact ⟨Zp (by unfold hiI;omega),rfl⟩
theorem Gf(a:Int):0<=loI a/\loI a<256:=by unfold loI;omega
theorem znh(a:Int)(h1:0<=a)(h2:a<65536):0<=hiI a/\hiI a<256:=by unfold hiI;omega
theorem zeZ(a b:Int)(h1:0<=a)(h2:a<256)(h3:0<=b)(h4:b<256):0<=zn a b/\zn a b<65536:=by unfold zn;omega
theorem Gg(a b:Int)(h1:0<=a)(h2:a<65536):0<=zC a b/\zC a b<65536:=by unfold zC zn loI hiI;omega
theorem VX(a b:Int)(w:World)(h1:0<=a)(h2:a<65536):Cq 175 #[.int .u16 a,Uq b] w (.int .u16 (zC a b)) fun w'=>w'=w:=by
 obtain ⟨l1,l2⟩:=Gf a;obtain ⟨m1,m2⟩:=znh a h1 h2;go_enter func175,ntmps175;go_wp2_with (first|(go_at_call 179;refine (vE a _).mono ?_;rintro e w' ⟨rfl,rfl⟩)|(go_at_call 177;refine (vF a _ h1 h2).mono ?_;rintro e w' ⟨rfl,rfl⟩)|(go_at_call 52;refine (xr _ _ _ zza zza m1 m2).mono ?_;rintro e w' ⟨rfl,rfl⟩));go_ret;exact ⟨Zp rfl,rfl⟩
theorem vo(op:BinOp)(a b:Int):0<=bits op .u8 a b/\bits op .u8 a b<256:=by
 cases op<;>(show 0<=IntKind.u8.wrap _/\IntKind.u8.wrap _<256;rw [IntKind.wrap_u8'];omega)
theorem vq(p f:Int)(on:Bool):0<=xb p f on/\xb p f on<256:=by unfold xb;split<;>exact vo _ _ _
theorem YW(p b:Int):0<=nzI p b/\nzI p b<256:=vq _ _ _
theorem vG(b:Int):0<=YG b/\YG b<256:=vo _ _ _
theorem Tn.eq{B:Nat}{s1 s2:PC}{w w':World}(h:Tn B s1 w w')(e:s1=s2):Tn B s2 w w':=e ▸ h
theorem qH{B:Nat}{s:PC}{w0 w:World}(h:Tn B s w0 w)(f:Int):Cq 105 #[.pointer (some (Aq B 65539)),Uq f] w (Tq (vI s.p f)) fun w'=>w'=w:=by
 have h1:=h.c.cp;go_enter func105,ntmps105;go_wp2;go_ret;exact ⟨ZH rfl,rfl⟩
theorem jc{B:Nat}{s:PC}{w0 w:World}(h:Tn B s w0 w)(f:Int)(on:Bool):Cq 282 #[.pointer (some (Aq B 65539)),Uq f,Tq on] w (.tuple #[]) fun w'=>Tn B (s.setF f on) w0 w':=by
 have h1:=h.c.cp;have f1:=h.c.free 65543;cases on
 all_goals
  go_enter func282,ntmps282;go_wp2;go_end0;refine ⟨rfl,?_⟩;apply Tn.eq
  ·repeat (first|exact h|apply Tn.drew|apply Tn.alloc|(apply Tn.setP;case hv=>(first|assumption|omega|exact vo _ _ _|exact YW _ _|exact vq _ _ _|exact vG _|(unfold loI;omega)|(simp only [zn,loI,hiI,zC];omega))))
  ·rfl
theorem Qw{B:Nat}{s:PC}{w0 w:World}(h:Tn B s w0 w)(b:Int):Cq 290 #[.pointer (some (Aq B 65539)),Uq b] w (.tuple #[]) fun w'=>Tn B {s with p:=nzI s.p b} w0 w':=by
 go_enter func290,ntmps290;go_wp2_with fail;refine (jc h _ _).mono ?_;rintro e w1 ⟨rfl,h1⟩;go_wp2_with fail;refine (jc h1 _ _).mono ?_;rintro e w1 ⟨rfl,h2⟩;go_wp2;go_end0;exact ⟨rfl,h2⟩
theorem Gh{B:Nat}{s:PC}{w0 w:World}(h:Tn B s w0 w)(b:Int):Cq 285 #[.pointer (some (Aq B 65539)),Uq b] w (.tuple #[]) fun w'=>Tn B {s with p:=YG b} w0 w':=by
 have h1:=h.c.cp;have f1:=h.c.free 65543;go_enter func285,ntmps285;go_wp2;go_end0;refine ⟨rfl,?_⟩;apply Tn.eq
 ·repeat (first|exact h|apply Tn.drew|apply Tn.alloc|(apply Tn.setP;case hv=>(first|assumption|omega|exact vo _ _ _|exact YW _ _|exact vq _ _ _|exact vG _|(unfold loI;omega)|(simp only [zn,loI,hiI,zC];omega))))
 ·rfl
theorem Gi(i:Int)(w:World):Cq 107 #[Uq i] w (Uq (yx i)) fun w'=>w'=w:=by
 go_enter func107,ntmps107;go_wp2;all_goals go_ret
 all_goals exact ⟨Zp (by simp only [beq_iff_eq,beq_eq_false_iff_ne] at*;simp [yx, *]),rfl⟩
