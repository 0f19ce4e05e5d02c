import Derived.Deep.QuietTactic
import Derived.BigQuiet
import Derived.ArgAppend
import Derived.Test.YtcgjliflnnklnaaGreatJ19
import Derived.Test.YtcgjliflnnklnaaGreatJ16
import Derived.Test.YtcgjliflnnklnaaGreatJ02
import Derived.Test.YtcgjliflnnklnaaGreatJ12
import Derived.Test.YtcgjliflnnklnaaGreatJ11
import Derived.Test.YtcgjliflnnklnaaGreatJ14
import Derived.Test.YtcgjliflnnklnaaGreatJ18
namespace Go.Proofs.YtcgjliflnnklnaaGreat
open Go.RowKit Tryz
set_option maxRecDepth 100000
set_option maxHeartbeats 4000000
theorem Hx(op:BA)(lo hi index n at_:Int):(zZ op lo hi index n at_).2.2.1.ft=false:=by
 unfold zZ;simp only;repeat' split
 all_goals rfl
theorem zei(op md:BA)(r:RG)(h:List Int):(zj op md r h).2.2.1.ft=false:=by
 unfold zj;simp only;repeat' split
 all_goals first|rfl|exact Hx _ _ _ _ _ _
theorem zgT(op md:BA)(r:RG)(h:List Int):(zo op md r h).1.ft=false:=by
 unfold zo;simp only;repeat' split
 all_goals first|rfl|exact zei _ _ _ _|(unfold yI;simp only;repeat' split)|(unfold xJ;simp only;repeat' split)|(unfold xj;simp only;repeat' split)|(unfold yd;simp only;repeat' split)|(unfold yD;simp only;repeat' split)
 all_goals rfl
theorem zej(t:RS)(a:Act):(t.bus a).2.ft=a.ft/\(t.bus a).2.wr=a.wr:=by
 unfold RS.bus;cases h:a.wr<;>simp only [Bool.true_eq_false,if_false,if_true]<;>(repeat' split)<;>simp_all
theorem zgU(t3:RS)(q:BusI):(if t3.r.jam=true then (t3,q) else if (zo t3.op t3.md t3.r (t3.h++ [q.data])).2=true then ({t3 with h:=t3.h++ [q.data] },q) else ({t3 with h:=[],r:=zV t3.op t3.md t3.r (t3.h++ [q.data])},q)).2=q:=by
 split
 ·rfl
 ·split<;>rfl
theorem zek(t:RS)(nmi irq:Bool):(t.cycle nmi irq).2.ft=true->(t.cycle nmi irq).2.wr=false:=by
 have key:∀ (t1:RS) (a:Act),(a.ft=true->a.wr=false)->∀x:RS,∀q:BusI,q=(t1.bus a).2->q.ft=true->q.wr=false:=fun t1 a h x q e=>by
  rw [e,(zej t1 a).1,(zej t1 a).2];exact h
 have ha:∀ (t1:RS),(if t1.h.length>0 then (zo t1.op t1.md t1.r t1.h).1 else ⟨t1.r.PC,false,0,true⟩:Act).ft=true->(if t1.h.length>0 then (zo t1.op t1.md t1.r t1.h).1 else ⟨t1.r.PC,false,0,true⟩:Act).wr=false:=fun t1=>by
  split
  ·rw [zgT];intro q;cases q
  ·intro _;rfl
 have hq:∃t1:RS,(t.cycle nmi irq).2=(t1.bus (if t1.h.length>0 then (zo t1.op t1.md t1.r t1.h).1 else ⟨t1.r.PC,false,0,true⟩)).2:=by
  refine ⟨{t with due:=t.due||(nmi&& !t.nmi),nmi:=nmi,r:={t.r with cyc:=IntKind.wrap .i64 (t.r.cyc+1)} },?_⟩;exact zgU _ _
 obtain ⟨t1,e⟩:=hq;exact key t1 _ (ha t1) t _ e
theorem Zy(a:ByteArray):a.size=a.data.toList.length:=by simp
theorem QZ(w:World)(x:ByteArray)(c:Nat)(fr:Nat × Nat):zy ((w.alloc (.cells (bytesRow x c) 5 fr)).drew) w.heap.size 0 x.data.toList:=by
 intro i hi;rw [Nat.zero_add,World.cell?_drew,cell_of_row _ w.heap.size i (bytesRow x c) 5 fr (heap_alloc_new w _)];have hi':i<x.data.size:=by simpa using hi
 unfold bytesRow;rw [Array.getElem?_append_left (by simpa using hi')];rw [Array.getElem?_map,Array.getElem?_eq_getElem hi'];simp
theorem Js(w:World)(x:ByteArray):(convert 9 35 (Zq x)).run prog w=.ok (Sq w.heap.size x.size (grownCap w x.size 0 5))
   ((w.alloc (.cells (bytesRow x (grownCap w x.size 0 5)) 5 ((bytesRow x (grownCap w x.size 0 5)).size,(bytesRow x (grownCap w x.size 0 5)).size+1))).drew):=
 run_bytes_of_string (P:=prog) w 9 35 5 x vj zx zoj
def qk(w0 w:World)(v:Value)(l:List UInt8):Prop:=
 ∃g cap,v=Sq g l.length cap/\l.length<=cap/\zy w g 0 l/\w0.heap.size<=g/\g<w.heap.size/\Bq w0 w
theorem GV(w0 w:World)(x:ByteArray)(l:List UInt8)(hx:x.data.toList=l)(hb:Bq w0 w)(c:Nat)(hc:l.length<=c)(fr:Nat × Nat)(n:Nat)(hn:n=l.length):qk w0 ((w.alloc (.cells (bytesRow x c) 5 fr)).drew) (Sq w.heap.size n c) l:=by
 subst hn;refine ⟨w.heap.size,c,rfl,hc,?_,hb.size,by simp,(hb.alloc hb.size _).drew⟩;rw [<-hx];exact QZ w x c fr
theorem zmR{p:Prop} (q:p:=by
 go_enter func68,ntmps68;go_wp2;go_ret2;exact ⟨rfl,rfl⟩):p:=q
theorem zoM(a:Int)(s:ByteArray)(w:World)(h:a<0\/255<a):Cq 68 #[Iq a,Zq s] w (.tuple #[Nq,Iq 2]) fun w'=>w'=w:=by
 rcases h with h|h
 ·exact zmR
 ·have h0:¬a<0:=by omega
  exact zmR
theorem JE(b:UInt8)(s:ByteArray)(w:World)(h:80<s.size):Cq 68 #[Iq b.toNat,Zq s] w (.tuple #[Nq,Iq 3]) fun w'=>w'=w:=by
 have hc:(b.toNat:Int)<256:=by have:=b.toNat_lt;omega
 have h':(80:Int)<(s.size:Int):=by omega
 exact zmR
theorem zkI{p:Prop} (q:p:=by
 go_enter func56,ntmps56;go_wp2;go_ret2;exact ⟨rfl,rfl⟩):p:=q
theorem zoz(a:Int)(s:ByteArray)(w:World)(h:a<0\/255<a):Cq 56 #[Iq a,Zq s] w (.tuple #[Nq,Iq 2]) fun w'=>w'=w:=by
 rcases h with h|h
 ·exact zkI
 ·have h0:¬a<0:=by omega
  exact zkI
theorem zox(b:UInt8)(s:ByteArray)(w:World)(h:80<s.size):Cq 56 #[Iq b.toNat,Zq s] w (.tuple #[Nq,Iq 3]) fun w'=>w'=w:=by
 have hc:(b.toNat:Int)<256:=by have:=b.toNat_lt;omega
 have h':(80:Int)<(s.size:Int):=by omega
 exact zkI
theorem zpm(a:Int)(s:ByteArray)(w:World)(h:a<0\/255<a):Cq 38 #[Iq a,Zq s] w (.tuple #[Nq,Iq 2]) fun w'=>w'=w:=by
 go_enter func38,ntmps38;go_wp2_with fail;refine (zoz a s _ h).mono ?_;rintro e w1 ⟨rfl,rfl⟩;go_wp2;go_ret2;exact ⟨rfl,rfl⟩
theorem zo5(b:UInt8)(s:ByteArray)(w:World)(h:80<s.size):Cq 38 #[Iq b.toNat,Zq s] w (.tuple #[Nq,Iq 3]) fun w'=>w'=w:=by
 go_enter func38,ntmps38;go_wp2_with fail;refine (zox b s _ h).mono ?_;rintro e w1 ⟨rfl,rfl⟩;go_wp2;go_ret2;exact ⟨rfl,rfl⟩
theorem YJ(b:UInt8)(s:ByteArray)(w:World)(hs:s.size<=80):Calls prog 68 #[Iq b.toNat,Zq s] w fun e w'=> ∃v,e=.returned (.tuple #[v,Iq 0])/\qk w w' v (zH b s.data.toList):=by
 have hc:(b.toNat:Int)<256:=by have:=b.toNat_lt;omega
 obtain ⟨i0,hi,hz0,hz1,hz2⟩:=info_parts xP;go_enter func68,ntmps68;go_wp2;go_loopw [6,7] (fun t i wr=> ∃k:Nat,k<=s.size/\i=Iq k/\OwnsN w.heap.size w wr t (esc (s.data.toList.take k))) (fun _ i _=>s.size-(intOf i).toNat);case atStart=>exact ⟨0,Nat.zero_le _,rfl,Qu w⟩
 case round=>
  obtain ⟨k,hk,rfl,hO⟩:=hrel;obtain ⟨hown,hbel,hsz⟩:=hO;have hlen:(esc (s.data.toList.take k)).length<=2*k:=by
   have:=ZA (s.data.toList.take k);have h2:(s.data.toList.take k).length<=k:=List.length_take_le _ _;omega
  by_cases hlt:k<s.size
  ·have hstep:Hid (esc (s.data.toList.take (k+1))=esc (s.data.toList.take k)++Ym s[k]):=by rw [ZB s k hlt,Kj];rfl
   generalize esc (s.data.toList.take k)=cur at*;by_cases hsp:s[k]=36\/s[k]=35\/s[k]=125
   ·have he:Hid (Ym s[k]=[125,s[k] ^^^ 32]):=by show _=_;unfold Ym;rw [if_pos hsp]
    have hx:bits .xor .u8 (s[k].toNat:Int) 32=((s[k] ^^^ 32).toNat:Int):=zba _;have ht:((s[k].toNat:Int)==36)=true\/(((s[k].toNat:Int)==36)=false/\((s[k].toNat:Int)==35)=true)\/(((s[k].toNat:Int)==36)=false/\((s[k].toNat:Int)==35)=false/\((s[k].toNat:Int)==125)=true):=by
     rcases hsp with h|h|h<;>simp [h]
    clear hsp;rcases ht with t1|⟨t1,t2⟩|⟨t1,t2,t3⟩
    all_goals
     go_wp2_with (first|(at_builtin;go_must (refine wpList_append_lies _ rfl (.tmp 38) (.tmp 41) 35 rfl w.heap.size 5 i0 (Uq 0) 1 1 zx hi hz0 hz1 hz2 rfl zzb u6 cur.length (zS cur) rfl (by exact (hown.alloc _)) (Aq wr.heap.size 0) 2 2 [Uq 125,Uq (s[k] ^^^ 32).toNat] rfl rfl (Yl _ _ _ _) (XP _ _) zzb zze zza zzd _ rfl ?_;intro g' cap' w1 hown' hgrow hat hlt')));have HO:=(xe (m:=[125,s[k] ^^^ 32]) hown hbel hsz hown' hgrow).n;clear hown hbel hsz hown' hgrow hat hlt';go_roundw;case rel=>exact ⟨k+1,by omega,by go_num,by rw [hstep.out,he.out];exact HO⟩
     case measure=>simp [intOf];omega
   ·have he:Hid (Ym s[k]=[s[k]]):=by show _=_;unfold Ym;rw [if_neg hsp]
    have t1:((s[k].toNat:Int)==36)=false:=YO (n:=36) (fun e=>hsp (.inl e));have t2:((s[k].toNat:Int)==35)=false:=YO (n:=35) (fun e=>hsp (.inr (.inl e)));have t3:((s[k].toNat:Int)==125)=false:=YO (n:=125) (fun e=>hsp (.inr (.inr e)));clear hsp;go_wp2_with (first|(at_builtin;go_must (refine wpList_append_lies _ rfl (.tmp 43) (.tmp 45) 35 rfl w.heap.size 5 i0 (Uq 0) 1 1 zx hi hz0 hz1 hz2 rfl zzb u6 cur.length (zS cur) rfl (by exact (hown.alloc _)) (Aq wr.heap.size 0) 1 1 [Uq s[k].toNat] rfl rfl (ye _ _ _) (xa _) zzb zze zza zzd _ rfl ?_;intro g' cap' w1 hown' hgrow hat hlt')));have HO:=(xe (m:=[s[k]]) hown hbel hsz hown' hgrow).n;clear hown hbel hsz hown' hgrow hat hlt';go_roundw;case rel=>exact ⟨k+1,by omega,by go_num,by rw [hstep.out,he.out];exact HO⟩
    case measure=>simp [intOf];omega
  ·have hke:s.data.toList.take k=s.data.toList:=List.take_of_length_le zzd;rw [hke] at hown hlen;have hconv:=fun n=>Xr (w:=wr.drewN n) (v:=u6) hown
   have hby:=Js;have hesc:(esc s.data.toList).length<=160:=by omega
   have hh2:(vx b).length=2:=rfl;clear hke;go_wp2_with fail;go_quiet ((go_at_call 97;exact Calls.quiet_of_same (VK b _)));go_wp2_with fail;have HS:Hid (((⟨(vx b).toArray⟩:ByteArray)++ ⟨(esc s.data.toList).toArray⟩).data.toList=xQ b s.data.toList):=by show _=_;rw [ByteArray.data_append];simp [xQ]
   generalize (⟨(vx b).toArray⟩:ByteArray)++ ⟨(esc s.data.toList).toArray⟩=S at*;have hS:S.size<=162:=by rw [Zy,HS.out];simp [xQ,vx];omega
   refine (VL S _ zza).mono ?_;rintro e w' ⟨rfl,hw⟩;subst w';rw [HS.out];go_wp2_with fail;refine (VK (xG (xQ b s.data.toList)) _).mono ?_;rintro e w' ⟨rfl,hw⟩;subst w';have hh3:(vx (xG (xQ b s.data.toList))).length=2:=rfl;clear hh2;have HX:Hid (((({data:=#[36] }:ByteArray)++S++ {data:=#[35] })++(⟨(vx (xG (xQ b s.data.toList))).toArray⟩:ByteArray)).data.toList=zH b s.data.toList):=by
    show _=_;simp only [ByteArray.data_append,Array.toList_append,HS.out];simp [zH,xQ]
   have HL:Hid ((zH b s.data.toList).length=1+S.size+1+2):=by show _=_;rw [Zy S,HS.out];simp [zH,xQ,vx];omega
   have hD:(⟨(vx (xG (xQ b s.data.toList))).toArray⟩:ByteArray).size=2:=jb _;generalize (⟨(vx (xG (xQ b s.data.toList))).toArray⟩:ByteArray)=D at*;have HB:Hid (Bq w (wr.drewN nq)):=below_drewN hbel nq;clear hconv hown hbel hh3;go_wp2;go_ret2;refine ⟨_,rfl,GV w (wr.drewN nq) _ _ HX.out HB.out _ ?_ _ _ ?_⟩
   ·rw [HL.out];exact grownCap_ge _ _ _ _
   ·rw [HL.out]
section
def PC.rr(s:PC)(R:Nat->Option Value):PC:={s with rest:=R}
def rr2(r:PC × BusI)(R:Nat->Option Value):PC × BusI:=(r.1.rr R,r.2)
variable {R:Nat->Option Value}
theorem qr{c:Prop}[Decidable c]{a b a' b':PC}(h1:a.rr R=a')(h2:b.rr R=b'):(if c then a else b).rr R=if c then a' else b':=by split<;>assumption
theorem zM{c:Prop}[Decidable c]{a b a' b':PC × BusI}(h1:rr2 a R=a')(h2:rr2 b R=b'):rr2 (if c then a else b) R=if c then a' else b':=by split<;>assumption
theorem zdt(s:PC)(a:Int):(s.read1 a).rr R=(s.rr R).read1 a:=qr rfl rfl
theorem zbJ(s:PC)(a d:Int):(s.write1 a d).rr R=(s.rr R).write1 a d:=qr rfl (qr rfl rfl)
theorem yi(s:PC)(a:Int):rr2 (s.read a) R=(s.rr R).read a:=Prod.ext (zdt s a) rfl
theorem X6(s:PC)(a d:Int):rr2 (s.write a d) R=(s.rr R).write a d:=Prod.ext (zbJ s a d) rfl
theorem zgi(s:PC):s.tick.rr R=(s.rr R).tick:=qr rfl (qr rfl rfl)
theorem vK{a b:PC × BusI}(f:PC->PC)(hf:∀s:PC,(f s).rr R=f (s.rr R))(h:rr2 a R=b):rr2 (f a.1,a.2) R=(f b.1,b.2):=by subst h;exact Prod.ext (hf a.1) rfl
theorem YL{a b:PC × BusI}(f:PC × BusI->PC × BusI)(hf:∀r,rr2 (f r) R=f (rr2 r R))(h:rr2 a R=b):rr2 (f a) R=f b:=by subst h;exact hf a
theorem tD{a b:PC × BusI}(h:rr2 a R=b):rr2 (yg a) R=yg b:=YL _ (fun _=>rfl) h
theorem tL{a b:PC × BusI}(h:rr2 a R=b):rr2 (zL a) R=zL b:=YL _ (fun _=>rfl) h
theorem tH{a b:PC × BusI}(h:rr2 a R=b):rr2 (zA a) R=zA b:=YL _ (fun _=>rfl) h
theorem tP{a b:PC × BusI}(h:rr2 a R=b):rr2 (xn a) R=xn b:=YL _ (fun _=>rfl) h
theorem yu(s:PC):rr2 s.readNext R=(s.rr R).readNext:=vK (fun t=>{t with pc:=(t.pc+1)%65536}) (fun _=>rfl) (yi s s.pc)
theorem jg(s:PC)(d:Int):rr2 (s.pushed d) R=(s.rr R).pushed d:=vK (fun t=>{t with s:=(t.s-1)%256}) (fun _=>rfl) (X6 s s.stackTop d)
theorem jh(s:PC):rr2 s.pulled R=(s.rr R).pulled:=yi {s with s:=(s.s+1)%256} _
theorem zdu(s:PC)(i:Nat):(s.doIns i).rr R=(s.rr R).doIns i:=by
 unfold PC.doIns;split<;>rfl
theorem qt(s:PC):s.perform.rr R=(s.rr R).perform:=zdu s _
theorem jk(s:PC):s.performLast.rr R=(s.rr R).performLast:=congrArg PC.finish (qt s)
theorem pL{a b:PC × BusI}(h:rr2 a R=b):rr2 (a.1.performLast,a.2) R=(b.1.performLast,b.2):=vK PC.performLast jk h
theorem gT{a b:PC × BusI}(h:rr2 a R=b):rr2 (yC a) R=yC b:=YL _ (fun r=>Prod.ext (jk (zA r).1) rfl) h
theorem JK(s:PC):rr2 s.change R=(s.rr R).change:=by
 unfold PC.change;rw [X6];show (s.performLast.rr R).write (s.performLast.rr R).ad (s.performLast.rr R).data=_;rw [jk]
theorem JL(s:PC):rr2 s.access R=(s.rr R).access:=zM (JK s) (zM (tD (yi {s with st:=3} _)) (pL (tD (yi s _))))
theorem G5(s:PC):rr2 s.restore R=(s.rr R).restore:=X6 {s with st:=4} _ _
theorem G6(s:PC):rr2 s.implied R=(s.rr R).implied:=pL (yi s _)
theorem X7(s:PC):rr2 s.accumulator R=(s.rr R).accumulator:=
 vK (fun q=>(({(({q with data:=q.a}:PC).perform) with a:=(({q with data:=q.a}:PC).perform).data}:PC).finish)) (fun q=>by
  have h:=qt (R:=R) ({q with data:=q.a}:PC);have e:(({q.rr R with data:=(q.rr R).a}:PC))=({q with data:=q.a}:PC).rr R:=rfl;simp only [e, <-h];rfl) (yi s _)
theorem Q3(s:PC):rr2 s.immediate R=(s.rr R).immediate:=pL (tD (yu s))
theorem U6(s:PC):rr2 s.zeroPage R=(s.rr R).zeroPage:=tL (yu {s with st:=2})
theorem ZM(s:PC)(i:Int):rr2 (s.zeroPageBy i) R=(s.rr R).zeroPageBy i:=zM (tL (yu s)) (vK (fun t=>{t with ad:=zC t.ad i,st:=2}) (fun _=>rfl) (yi s _))
theorem U7(s:PC):rr2 s.absolute R=(s.rr R).absolute:=zM (tL (yu s)) (tH (yu {s with st:=2}))
theorem X8(s:PC)(i:Int):rr2 (s.indexed i) R=(s.rr R).indexed i:=zM (JL {s with ad:=(s.ad+i)%65536,st:=2}) (yi {s with ad:=(s.ad+i)%65536,st:=2} _)
theorem ZN(s:PC)(i:Int):rr2 (s.absoluteBy i) R=(s.rr R).absoluteBy i:=zM (tL (yu s)) (zM (tH (yu s)) (X8 s i))
theorem Q4(s:PC):rr2 s.indirectX R=(s.rr R).indirectX:=zM (tP (yu s)) (zM (vK (fun t=>{t with hop:=zC t.hop t.x}) (fun _=>rfl) (yi s _)) (zM (tL (yi s _)) (tH (yi {s with st:=2} _))))
theorem Q5(s:PC):rr2 s.indirectY R=(s.rr R).indirectY:=zM (tP (yu s)) (zM (tL (yi s _)) (zM (tH (yi s _)) (X8 s _)))
theorem U8(s:PC):rr2 s.relative R=(s.rr R).relative:=by
 refine zM ?_ (zM (vK (fun t=>if hiI t.ad=hiI t.pc then t.branch else t) (fun t=>qr rfl rfl) (yi s _)) (vK PC.branch (fun _=>rfl) (yi s _)));have h:=yu (R:=R) s;show rr2 (_,s.readNext.2) R=(_,(s.rr R).readNext.2);rw [<-h];refine Prod.ext ?_ rfl;have p:=qt (R:=R) ({s.readNext.1 with ad:=(s.readNext.1.pc+sgn s.readNext.2.data)%65536}:PC)
 show PC.rr (if ({s.readNext.1 with ad:=(s.readNext.1.pc+sgn s.readNext.2.data)%65536}:PC).perform.taken=true then ({s.readNext.1 with ad:=(s.readNext.1.pc+sgn s.readNext.2.data)%65536}:PC).perform else ({s.readNext.1 with ad:=(s.readNext.1.pc+sgn s.readNext.2.data)%65536}:PC).perform.finish) R=
  if (({s.readNext.1 with ad:=(s.readNext.1.pc+sgn s.readNext.2.data)%65536}:PC).rr R).perform.taken=true then (({s.readNext.1 with ad:=(s.readNext.1.pc+sgn s.readNext.2.data)%65536}:PC).rr R).perform else (({s.readNext.1 with ad:=(s.readNext.1.pc+sgn s.readNext.2.data)%65536}:PC).rr R).perform.finish
 rw [<-p];exact qr rfl rfl
theorem XB(s:PC):rr2 s.jumpAbsolute R=(s.rr R).jumpAbsolute:=zM (tL (yu s)) (gT (yi s _))
theorem XC(s:PC):rr2 s.jumpIndirect R=(s.rr R).jumpIndirect:=zM (tL (yu s)) (zM (vK (fun t=>{t with hop:=t.ad}) (fun _=>rfl) (tH (yu s))) (zM (tL (yi s _)) (gT (yi s _))))
theorem Yc(s:PC):rr2 s.callSubroutine R=(s.rr R).callSubroutine:=zM (tL (yu s)) (zM (yi s _) (zM (jg s _) (zM (jg s _) (gT (yi s _)))))
theorem ZT(s:PC):rr2 s.leaveSubroutine R=(s.rr R).leaveSubroutine:=zM (yi s _) (zM (yi s _) (zM (tL (jh s)) (zM (tH (jh s)) (pL (yi s _)))))
theorem Yd(s:PC):rr2 s.leaveInterrupt R=(s.rr R).leaveInterrupt:=zM (yi s _) (zM (yi s _) (zM (tD (jh s)) (zM (tL (jh s)) (gT (jh s)))))
theorem U9(s:PC):rr2 s.pushByte R=(s.rr R).pushByte:=by
 refine zM (yi s _) ?_;have q:rr2 (s.perform.pushed s.perform.data) R=(s.rr R).perform.pushed (s.rr R).perform.data:=by rw [jg, <-qt];rfl
 exact vK PC.finish (fun _=>rfl) q
theorem Ka(s:PC):rr2 s.pullByte R=(s.rr R).pullByte:=zM (yi s _) (zM (yi s _) (pL (tD (jh s))))
theorem X9(s:PC)(v f:Int):rr2 (s.enter v f) R=(s.rr R).enter v f:=zM (jg s _) (zM (jg s _) (zM (jg s _) (zM (tL (yi s _)) (gT (yi s _)))))
theorem XD(s:PC):rr2 s.enterByBreak R=(s.rr R).enterByBreak:=zM (yu s) (X9 s _ _)
theorem Jt(s:PC):rr2 s.enterByIRQ R=(s.rr R).enterByIRQ:=zM (yi s _) (X9 s _ _)
theorem Ju(s:PC):rr2 s.enterByNMI R=(s.rr R).enterByNMI:=zM (yi s _) (X9 s _ _)
theorem zbK(s:PC)(m:Nat):rr2 (s.doMode m) R=(s.rr R).doMode m:=by
 unfold PC.doMode;split
 ·exact G6 s
 ·exact X7 s
 ·exact Q3 s
 ·exact U6 s
 ·exact ZM s _
 ·exact ZM s _
 ·exact U7 s
 ·exact ZN s _
 ·exact ZN s _
 ·exact Q4 s
 ·exact Q5 s
 ·exact U8 s
 ·exact XB s
 ·exact XC s
 ·exact Yc s
 ·exact ZT s
 ·exact U9 s
 ·exact Ka s
 ·exact XD s
 ·exact Ju s
 ·exact Jt s
 ·exact Yd s
theorem Va(s:PC)(i m:Int):(s.begin_ i m).rr R=(s.rr R).begin_ i m:=qr rfl rfl
theorem zdv(s:PC)(irq:Bool):rr2 (s.fetch irq) R=(s.rr R).fetch irq:=by
 have h:=yi (R:=R) s s.pc;unfold PC.fetch;rw [show (s.rr R).read (s.rr R).pc=rr2 (s.read s.pc) R from h.symm];refine zM ?_ (zM ?_ ?_)
 ·exact Prod.ext (Va _ _ _) rfl
 ·exact Prod.ext (Va _ _ _) rfl
 ·exact Prod.ext (Va _ _ _) rfl
theorem zgj(s:PC)(irq:Bool):rr2 (s.turn irq) R=(s.rr R).turn irq:=
 zM (zdv s irq) (zM (JL s) (zM (G5 s) (zM (JK s) (zbK {s with step:=IntKind.wrap .i64 (s.step+1)} _))))
theorem zgk(s:PC)(b:BusI):(s.ends b).rr R=(s.rr R).ends b:=qr (zgi s) rfl
def za2(r:PC × BusI):PC × BusI:=({r.1.ends r.2 with cyc:=IntKind.wrap .i64 ((r.1.ends r.2).cyc+1)},r.2)
theorem zdw(r:PC × BusI):rr2 (za2 r) R=za2 (rr2 r R):=by
 unfold za2;rw [show (rr2 r R).1.ends (rr2 r R).2=(r.1.ends r.2).rr R from (zgk r.1 r.2).symm];rfl
theorem zdx(s:PC)(R:Nat->Option Value)(n i:Bool):(s.rr R).cycle n i=rr2 (s.cycle n i) R:=by
 rw [vX,vX];exact (YL za2 zdw (zgj (s.pins n) i)).symm
end
section
theorem hid{p:Prop}(h:p):Hid p:=h
def PC.put(s:PC)(o:Nat)(v:Value):PC:=s.rr (fun k=>if k=o then some v else s.rest k)
theorem yj(s:PC)(o:Nat)(v:Value):(s.put o v).rest o=some v:=if_pos rfl
theorem zh(s:PC)(o k:Nat)(v:Value)(h:k≠o):(s.put o v).rest k=s.rest k:=if_neg h
theorem CAt.put{w:World}{B:Nat}{s:PC}(h:CAt w B s)(o:Nat)(v v0:Value)(ho:65562<=o)(h0:s.rest o=some v0):CAt (w.setCell (Aq B o) v) B (s.put o v):=by
 have q:∀k,k≠o->(w.setCell (Aq B o) v).cell? (Aq B k)=w.cell? (Aq B k):=fun k hk=>World.cell?_setCell_other _ _ _ _ (qI _ _ _ (fun e=>hk e.symm))
 have p:∀k,k<65562->(w.setCell (Aq B o) v).cell? (Aq B k)=w.cell? (Aq B k):=fun k hk=>q k zza
 have f:∀k,(w.setCell (Aq B o) v).frozen? (Aq B k)=false:=fun k=>by rw [World.frozen?_setCell];exact h.free k
 refine {h with mem:=fun i hi=>(p i zza).trans (h.mem i hi),crom:=(p _ zzb).trans h.crom,ccnt:=(p _ zzb).trans h.ccnt,ccalls:=(p _ zzb).trans h.ccalls,ca:=(p _ zzb).trans h.ca,cx:=(p _ zzb).trans h.cx,cy:=(p _ zzb).trans h.cy,cs:=(p _ zzb).trans h.cs,cp:=(p _ zzb).trans h.cp,cpc:=(p _ zzb).trans h.cpc,cba:=(p _ zzb).trans h.cba,cbx:=(p _ zzb).trans h.cbx,cb_y:=(p _ zzb).trans h.cb_y,cbs:=(p _ zzb).trans h.cbs,cbp:=(p _ zzb).trans h.cbp,cbpc:=(p _ zzb).trans h.cbpc,cst:=(p _ zzb).trans h.cst,cins:=(p _ zzb).trans h.cins,cmd:=(p _ zzb).trans h.cmd,cstep:=(p _ zzb).trans h.cstep,cad:=(p _ zzb).trans h.cad,chop:=(p _ zzb).trans h.chop,cdata:=(p _ zzb).trans h.cdata,ctaken:=(p _ zzb).trans h.ctaken,cnmiOn:=(p _ zzb).trans h.cnmiOn,cnmiDue:=(p _ zzb).trans h.cnmiDue,ccyc:=(p _ zzb).trans h.ccyc,free:=f,crest:=fun k hk=>?_};by_cases e:k=o
 ·subst e;exact (World.cell?_setCell_same _ _ _ ((h.crest k hk).trans h0)).trans (yj s k v).symm
 ·exact ((q k e).trans (h.crest k hk)).trans (zh s o k v e).symm
theorem Tn.put{w0 w:World}{B:Nat}{s:PC}(h:Tn B s w0 w)(o:Nat)(v v0:Value)(ho:65562<=o)(h0:s.rest o=some v0):Tn B (s.put o v) w0 (w.setCell (Aq B o) v):=⟨h.c.put o v v0 ho h0,G.set h.g⟩
theorem Tn.rest{w0 w:World}{B:Nat}{s:PC}(h:Tn B s w0 w){o:Nat}{v:Value}(ho:65562<=o)(h0:s.rest o=some v):w.cell? (Aq B o)=some v:=(h.c.crest o ho).trans h0
theorem CAt.rr{w:World}{B:Nat}{s:PC}(h:CAt w B s):∀o,65562<=o->w.cell? (Aq B o)=s.rest o:=h.crest
structure Pts where
 at_:Nat->Int
 n:Nat
def qX(f:Nat->Int)(a:Int):Nat->Nat->Option Nat
 |_,0=>none
 |k,c+1=>if a=f k then some k else qX f a (k+1) c
def Pts.find(p:Pts)(a:Int):Option Nat:=qX p.at_ a 0 p.n
def G7:Option Nat->Int
 |none=> -1
 |some i=>i
theorem Q6(f:Nat->Int)(a:Int)(k c:Nat):qX f a k (c+1)=if a=f k then some k else qX f a (k+1) c:=rfl
theorem jM(f:Nat->Int)(a:Int):∀ (c k i:Nat),qX f a k c=some i->k<=i/\i<k+c
 |0,_,_,h=>by cases h
 |c+1,k,i,h=>by
  unfold qX at h;split at h
  ·injection h with h;omega
  ·have:=jM f a c (k+1) i h;omega
def Pts.has(p:Pts)(a:Int):Bool:=(p.find a).isSome
def okT:List UInt8:=[79,75]
def eT(n:UInt8):List UInt8:=[69,n]
def Pts.add(p:Pts)(a:Int):Pts × List UInt8:=
 if p.has a=true then (p,okT) else if p.n=4 then (p,eT 52) else (⟨fun k=>if k=p.n then a else p.at_ k,p.n+1⟩,okT)
def Pts.remove(p:Pts)(a:Int):Pts × List UInt8:=match p.find a with
 |none=>(p,eT 53)
 |some i=>(⟨fun k=>if k=i then p.at_ (p.n-1) else p.at_ k,p.n-1⟩,okT)
structure PtsR (R:Nat->Option Value) (P:Nat) (p:Pts):Prop where
 n4:p.n<=4
 cn:R (P+4)=some (Iq (p.n:Int))
 ca:∀i,i<4->R (P+i)=some (.int .u16 (p.at_ i))
theorem zbL(w:World)(b off n cap:Nat)(f:Nat->Int)(a:Int)(hc:∀i,i<n->w.cell? ⟨b,off+i,none⟩=some (.int .u16 (f i)))(hn:n<=4):Cq 274 #[.slice (some (Aq b off)) n cap,.int .u16 a] w (Iq (G7 (qX f a 0 n))) fun w'=>w'=w:=by
 obtain ⟨r,hR⟩:∃r,Hid (qX f a 0 n=r):=⟨_,rfl⟩
 rw [hR.out];go_enter func274,ntmps274;go_wp2_with fail;go_loopw [8] (fun i wr=> ∃(k:Nat),k<=n/\i=Iq k/\wr=w/\qX f a k (n-k)=r) (fun i _=>n-(intOf i).toNat);case atStart=>exact ⟨0,by omega,rfl,rfl,hR.out⟩
 case round=>
  obtain ⟨k,hk,rfl,rfl,hf⟩:=hrel;by_cases hlt:k<n
  ·have hc1:=hc k hlt;have e1:n-k=(n-(k+1))+1:=by omega
   rw [e1,Q6] at hf;by_cases hq:a=f k
   ·rw [if_pos hq] at hf;subst hf;go_wp2;go_ret;exact ⟨rfl,rfl⟩
   ·rw [if_neg hq] at hf;go_wp2;go_roundw;case rel=>exact ⟨k+1,by omega,by go_num,trivial,hf⟩
    case measure=>simp [intOf];omega
  ·have e1:n-k=0:=by omega
   rw [e1] at hf;have hr:none=r:=hf;subst hr;go_wp2;go_ret;exact ⟨rfl,rfl⟩
end
section
def DR(s:PC)(r:PC × BusI):Prop:=(r.2.wr=false/\r.2.data=s.look r.2.addr)\/(r.2.data=r.1.data\/(0<=r.2.data/\r.2.data<256))
theorem DR.rd{s:PC}{r:PC × BusI}(h:r.2.wr=false)(e:r.2.data=s.look r.2.addr):DR s r:=.inl ⟨h,e⟩
theorem DR.by_{s:PC}{r:PC × BusI}(h:0<=r.2.data/\r.2.data<256):DR s r:=.inr (.inr h)
theorem DR.ite{s:PC}{c:Prop}[Decidable c]{a b:PC × BusI}(h1:DR s a)(h2:DR s b):DR s (if c then a else b):=by split<;>assumption
theorem w1d(s:PC)(a d:Int):(s.write1 a d).data=s.data:=by
 unfold PC.write1;split
 ·rfl
 ·split<;>rfl
theorem DR.wr(s t:PC):DR s (t.write t.ad t.data):=.inr (.inl (w1d t t.ad t.data).symm)
theorem DR.access(s:PC):DR s s.access:=DR.ite (DR.wr s _) (DR.ite (.rd rfl rfl) (.rd rfl rfl))
theorem DR.indexed(s:PC)(i:Int):DR s (s.indexed i):=DR.ite (DR.access {s with ad:=(s.ad+i)%65536,st:=2}) (.rd rfl rfl)
theorem DR.pushed(s t:PC)(d:Int)(h:0<=d/\d<256):DR s (t.pushed d):=.by_ h
theorem zjU(a:Int)(h0:0<=a)(h1:a<65536):0<=hiI a/\hiI a<256:=by unfold hiI;omega
theorem zjV(a:Int):0<=loI a/\loI a<256:=by unfold loI;omega
theorem DR.pushByte(s:PC):DR s s.pushByte:=DR.ite (.rd rfl rfl) (.inr (.inl (w1d s.perform s.perform.stackTop s.perform.data).symm))
theorem DR.enter(s:PC)(v f:Int)(h0:0<=s.pc)(h1:s.pc<65536)(hf:0<=f/\f<256):DR s (s.enter v f):=
 DR.ite (DR.pushed s s _ (zjU _ h0 h1)) (DR.ite (DR.pushed s s _ (zjV _)) (DR.ite (DR.pushed s s _ hf) (DR.ite (.rd rfl rfl) (.rd rfl rfl))))
theorem znm{p:Prop} (q:p:=by
 exact DR.ite (.rd rfl rfl) (DR.ite (.rd rfl rfl) (.rd rfl rfl))):p:=q
theorem zno{p:Prop} (q:p:=by
 exact DR.ite (.rd rfl rfl) (DR.ite (.rd rfl rfl) (DR.ite (.rd rfl rfl) (DR.ite (.rd rfl rfl) (.rd rfl rfl))))):p:=q
theorem zpM{p:Prop} (q:p:=by
 exact DR.ite (.rd rfl rfl) (DR.ite (.rd rfl rfl) (DR.ite (.rd rfl rfl) (.rd rfl rfl)))):p:=q
theorem DR.doMode(s:PC)(m:Nat)(h0:0<=s.pc)(h1:s.pc<65536)(p0:0<=s.p/\s.p<256):DR s (s.doMode m):=by
 unfold PC.doMode;split
 ·exact .rd rfl rfl
 ·exact .rd rfl rfl
 ·exact .rd rfl rfl
 ·exact .rd rfl rfl
 ·exact DR.ite (.rd rfl rfl) (.rd rfl rfl)
 ·exact DR.ite (.rd rfl rfl) (.rd rfl rfl)
 ·exact DR.ite (.rd rfl rfl) (.rd rfl rfl)
 ·exact DR.ite (.rd rfl rfl) (DR.ite (.rd rfl rfl) (DR.indexed s _))
 ·exact DR.ite (.rd rfl rfl) (DR.ite (.rd rfl rfl) (DR.indexed s _))
 ·exact zpM
 ·exact DR.ite (.rd rfl rfl) (DR.ite (.rd rfl rfl) (DR.ite (.rd rfl rfl) (DR.indexed s _)))
 ·exact znm
 ·exact DR.ite (.rd rfl rfl) (.rd rfl rfl)
 ·exact zpM
 ·exact DR.ite (.rd rfl rfl) (DR.ite (.rd rfl rfl) (DR.ite (DR.pushed s s _ (zjU _ h0 h1)) (DR.ite (DR.pushed s s _ (zjV _)) (.rd rfl rfl))))
 ·exact zno
 ·exact DR.pushByte s
 ·exact znm
 ·exact DR.ite (.rd rfl rfl) (DR.enter s _ _ h0 h1 (vo _ _ _))
 ·exact DR.ite (.rd rfl rfl) (DR.enter s _ _ h0 h1 p0)
 ·exact DR.ite (.rd rfl rfl) (DR.enter s _ _ h0 h1 p0)
 ·exact zno
theorem DR.turn(s:PC)(irq:Bool)(h0:0<=s.pc)(h1:s.pc<65536)(p0:0<=s.p/\s.p<256):DR s (s.turn irq):=by
 refine DR.ite ?_ (DR.ite (DR.access s) (DR.ite (DR.wr s _) (DR.ite (DR.wr s _) (DR.doMode {s with step:=IntKind.wrap .i64 (s.step+1)} _ h0 h1 p0))));exact znm
theorem zkp(s:PC):s.tick.data=s.data:=by
 unfold PC.tick;split
 ·rfl
 ·split<;>rfl
theorem zkq(s:PC)(b:BusI):(s.ends b).data=s.data:=by
 unfold PC.ends;split
 ·exact zkp s
 ·rfl
theorem zdy(s:PC)(nmi irq:Bool)(h0:0<=s.pc)(h1:s.pc<65536)(p0:0<=s.p/\s.p<256)(c0:0<=s.cnt/\s.cnt<256)(m0:∀i,i<65536->0<=s.mem i/\s.mem i<256)
  (d0:0<=(s.cycle nmi irq).1.data/\(s.cycle nmi irq).1.data<256) (a0:0<=(s.cycle nmi irq).2.addr) (a1:(s.cycle nmi irq).2.addr<65536):
  0<=(s.cycle nmi irq).2.data/\(s.cycle nmi irq).2.data<256:=by
 have T:=DR.turn (s.pins nmi) irq h0 h1 p0;rw [vX] at d0 a0 a1⊢;have e:((({((s.pins nmi).turn irq).1.ends ((s.pins nmi).turn irq).2 with cyc:=IntKind.wrap .i64 ((((s.pins nmi).turn irq).1.ends ((s.pins nmi).turn irq).2).cyc+1)}:PC),((s.pins nmi).turn irq).2):PC × BusI).1.data=((s.pins nmi).turn irq).1.data:=zkq _ _;rw [e] at d0;clear e;rcases T with ⟨-,T⟩|T|T
 ·show 0<=((s.pins nmi).turn irq).2.data/\((s.pins nmi).turn irq).2.data<256;rw [T];have a0:0<=((s.pins nmi).turn irq).2.addr:=a0;have a1:((s.pins nmi).turn irq).2.addr<65536:=a1;unfold PC.look;split
  ·exact c0
  ·split
   ·split<;>omega
   ·exact m0 _ zza
 ·show 0<=((s.pins nmi).turn irq).2.data/\((s.pins nmi).turn irq).2.data<256;rw [T];exact d0
 ·exact T
end
section
theorem zly(B P n:Nat)(h:n<=4)(w:World):Sem.run prog (Instr.sliceAt 111 (.pointer (some (Aq B P))) none (some (Iq (n:Int))) none) w=.ok (.slice (some (Aq B P)) n 4) w:=by
 have hal:prog.arrayLen 111=4:=by kernel_rfl
 have hel:prog.elem 111=94:=by kernel_rfl
 rw [run_sliceAt_array_h (P:=prog) w 111 (Aq B P) (by rw [hal,hel];exact underlying111) .i64 (n:Int) zza (by rw [hal];omega),hal,hel];simp [sizeOf,go_sem,slicedAt,Addr.add]
theorem Jc{B P:Nat}{s:PC}{w0 w:World}{p:Pts}(h:Tn B s w0 w)(hP:65562<=P)(hp:PtsR s.rest P p)(a:Int):Cq 210 #[.pointer (some (Aq B P)),.int .u16 a] w (Iq (G7 (p.find a))) fun w'=>∃n,w'=w.drewN n:=by
 have c4:w.cell? ⟨B,P+4,none⟩=some (Iq (p.n:Int)):=h.rest zza hp.cn;have ca:∀i,i<4->w.cell? ⟨B,P+i,none⟩=some (.int .u16 (p.at_ i)):=fun i hi=>h.rest zza (hp.ca i hi)
 have n4:=hp.n4;have IX:=fun w' (hw:∀i,i<4->w'.cell? ⟨B,P+i,none⟩=some (.int .u16 (p.at_ i)))=>zbL w' B P p.n 4 p.at_ a (fun i hi=>hw i zza) n4
 have SL:=zly B P p.n n4;clear h hp;unfold Pts.find;go_enter func210,ntmps210;go_wp2_with fail;go_quiet (first|(go_at_call 274;exact Calls.quiet_of_same (IX _ ca)));go_wp2;go_ret;exact ⟨rfl,_,rfl⟩
theorem zlz(p:Pts)(a:Int):decide (0<=G7 (p.find a))=p.has a:=by
 unfold Pts.has;cases p.find a with
 |none=>rfl
 |some i=>simp [G7]
theorem qd{B P:Nat}{s:PC}{w0 w:World}{p:Pts}(h:Tn B s w0 w)(hP:65562<=P)(hp:PtsR s.rest P p)(a:Int):Cq 209 #[.pointer (some (Aq B P)),.int .u16 a] w (Tq (p.has a)) fun w'=>∃n,w'=w.drewN n:=by
 have F:=Jc h hP hp a;rw [<-zlz];generalize G7 (p.find a)=r at*;clear h hp;go_enter func209,ntmps209;go_wp2_with fail;refine F.mono ?_;rintro e w1 ⟨rfl,n,rfl⟩;go_wp2;go_ret;exact ⟨rfl,_,rfl⟩
def Zu(s:PC)(P:Nat)(p:Pts)(a:Int):PC:=
 if p.has a=true\/p.n=4 then s else (s.put (P+p.n) (.int .u16 a)).put (P+4) (Iq ((p.n:Int)+1))
theorem zbv{s:PC}{P:Nat}{p:Pts}(hp:PtsR s.rest P p)(a:Int):PtsR (Zu s P p a).rest P (p.add a).1:=by
 unfold Zu Pts.add;by_cases h1:p.has a=true
 ·rw [if_pos h1,if_pos (.inl h1)];exact hp
 ·rw [if_neg h1];by_cases h2:p.n=4
  ·rw [if_pos h2,if_pos (.inr h2)];exact hp
  ·rw [if_neg h2,if_neg (by simp [h1,h2])];have:=hp.n4;refine ⟨by show p.n+1<=4;omega,yj _ _ _,fun i hi=>?_⟩;rw [zh _ _ _ _ zza];by_cases e:i=p.n
   ·subst e;rw [yj];simp
   ·rw [zh _ _ _ _ zza,hp.ca i hi];simp [e]
theorem zk1{p:Prop} (q:p:=by
 go_enter func190,ntmps190;go_wp2_with (first|(refine F.mono ?_;rintro e w1 ⟨rfl,n,rfl⟩));go_ret;exact ⟨rfl,HT.out.drewN n⟩):p:=q
theorem QT{B P:Nat}{s:PC}{w0 w:World}{p:Pts}(h:Tn B s w0 w)(hP:65562<=P)(hp:PtsR s.rest P p)(a:Int):Cq 190 #[.pointer (some (Aq B P)),.int .u16 a] w (Zq ⟨(p.add a).2.toArray⟩) fun w'=>Tn B (Zu s P p a) w0 w':=by
 have c4:w.cell? ⟨B,P+4,none⟩=some (Iq (p.n:Int)):=h.rest zza hp.cn;have F:=qd h hP hp a;have fz:=h.c.free;have n4:=hp.n4;unfold Zu Pts.add;by_cases h1:p.has a=true
 ·rw [if_pos h1,if_pos (.inl h1)];rw [h1] at F;have HT:=hid h;clear h hp c4;exact zk1
 ·rw [if_neg h1];have h1':p.has a=false:=by simpa using h1
  rw [h1'] at F;by_cases h2:p.n=4
  ·rw [if_pos h2,if_pos (.inr h2)];rw [h2] at c4;have HT:=hid h;clear h hp h1 h1';exact zk1
  ·rw [if_neg h2,if_neg (by simp [h1,h2])];have cx:w.cell? ⟨B,P+p.n,none⟩=some (.int .u16 (p.at_ p.n)):=h.rest zza (hp.ca p.n zza);have HT:=hid h;have HP:=hid hp;have n5:(p.n:Int)<4:=by omega
   have n6:¬(p.n:Int)=4:=by omega
   have n7:p.n<4:=by omega
   clear h hp h1 h1';go_enter func190,ntmps190;go_wp2_with (first|(refine F.mono ?_;rintro e w1 ⟨rfl,n,rfl⟩;have HT2:=hid (HT.out.drewN n);generalize w.drewN n=w2 at*;clear cx c4 fz;have c4:=HT2.out.rest zza HP.out.cn;have cx:=HT2.out.rest zza (HP.out.ca p.n n7);have fz:=HT2.out.c.free));go_region;go_wp2;go_ret;refine ⟨rfl,Tn.put (Tn.put HT2.out.drew _ _ _ zza (HP.out.ca p.n n7)) _ _ (Iq (p.n:Int)) zza ?_⟩;rw [zh _ _ _ _ zza];exact HP.out.cn
def Zv(s:PC)(P:Nat)(p:Pts)(a:Int):PC:=match p.find a with
 |none=>s
 |some i=>(s.put (P+4) (Iq ((p.n:Int)-1))).put (P+i) (.int .u16 (p.at_ (p.n-1)))
theorem zbw{s:PC}{P:Nat}{p:Pts}(hp:PtsR s.rest P p)(a:Int):PtsR (Zv s P p a).rest P (p.remove a).1:=by
 unfold Zv Pts.remove;cases h:p.find a with
 |none=>exact hp
 |some i=>
  have hi:=jM _ _ _ _ _ h;have:=hp.n4;refine ⟨by show p.n-1<=4;omega,?_,fun k hk=>?_⟩
  ·rw [zh _ _ _ _ zza,yj,show ((p.n:Int)-1)=((p.n-1:Nat):Int) from by omega]
  ·by_cases e:k=i
   ·subst e;rw [yj];simp
   ·rw [zh _ _ _ _ zza,zh _ _ _ _ zza,hp.ca k hk];simp [e]
theorem QU{B P:Nat}{s:PC}{w0 w:World}{p:Pts}(h:Tn B s w0 w)(hP:65562<=P)(hp:PtsR s.rest P p)(a:Int):Cq 191 #[.pointer (some (Aq B P)),.int .u16 a] w (Zq ⟨(p.remove a).2.toArray⟩) fun w'=>Tn B (Zv s P p a) w0 w':=by
 have F:=Jc h hP hp a;unfold Zv Pts.remove;have HT:=hid h;have HP:=hid hp;cases hf:p.find a with
 |none=>
  rw [hf] at F;clear h hp hf;go_enter func191,ntmps191;go_wp2_with (first|(refine F.mono ?_;rintro e w1 ⟨rfl,n,rfl⟩;simp only [G7]));go_ret;exact ⟨rfl,HT.out.drewN n⟩
 |some i=>
  rw [hf] at F;obtain ⟨-,hi⟩:=jM _ _ _ _ _ hf;have n4:=hp.n4;have hn1:((p.n:Int)-1)=((p.n-1:Nat):Int):=by omega
  have k1:p.n-1<4:=by omega
  have k2:i<4:=by omega
  have k3:¬((i:Int)<0):=by omega
  clear h hp hf;have i0:i≠4:=by omega
  go_enter func191,ntmps191;go_wp2_with (first|(refine F.mono ?_;rintro e w1 ⟨rfl,n,rfl⟩;simp only [G7];have HT2:=hid (HT.out.drewN n);generalize w.drewN n=w2 at*;have c4:=HT2.out.rest zza HP.out.cn;have cx:=HT2.out.rest zza (HP.out.ca i k2);have cy:=HT2.out.rest zza (HP.out.ca (p.n-1) k1);have fz:=HT2.out.c.free));go_region;go_wp2;go_ret;rw [hn1];refine ⟨rfl,Tn.put (Tn.put HT2.out _ _ _ zza HP.out.cn).drew _ _ (.int .u16 (p.at_ i)) zza ?_⟩;rw [zh _ _ _ _ zza];exact HP.out.ca i k2
end
section
structure Rcs where
 ring:Nat->BusI
 first:Nat
 n:Nat
def Rcs.put(r:Rcs)(b:BusI):Rcs:=⟨fun k=>if k=(r.first+r.n)%64 then b else r.ring k,r.first,r.n+1⟩
def Rcs.take(r:Rcs):Rcs:=⟨r.ring,(r.first+1)%64,r.n-1⟩
structure BusR (R:Nat->Option Value) (o:Nat) (b:BusI):Prop where
 c0:R o=some (Iq b.addr)
 c1:R (o+1)=some (Iq b.data)
 c2:R (o+2)=some (Tq b.wr)
 c3:R (o+3)=some (Tq b.ft)
structure RcsR (R:Nat->Option Value) (P:Nat) (r:Rcs):Prop where
 f64:r.first<64
 n64:r.n<=64
 cf:R (P+256)=some (Iq (r.first:Int))
 cn:R (P+257)=some (Iq (r.n:Int))
 ca:∀i,i<64->BusR R (P+i*4) (r.ring i)
def putBus(s:PC)(o:Nat)(b:BusI):PC:=(((s.put o (Iq b.addr)).put (o+1) (Iq b.data)).put (o+2) (Tq b.wr)).put (o+3) (Tq b.ft)
theorem GA(s:PC)(o:Nat)(b:BusI):BusR (putBus s o b).rest o b:=by
 unfold putBus;refine ⟨?_,?_,?_,yj _ _ _⟩
 ·rw [zh _ _ _ _ zza,zh _ _ _ _ zza,zh _ _ _ _ zza,yj]
 ·rw [zh _ _ _ _ zza,zh _ _ _ _ zza,yj]
 ·rw [zh _ _ _ _ zza,yj]
theorem qM(s:PC)(o k:Nat)(b:BusI)(h:k<o\/o+4<=k):(putBus s o b).rest k=s.rest k:=by
 unfold putBus;rw [zh _ _ _ _ zza,zh _ _ _ _ zza,zh _ _ _ _ zza,zh _ _ _ _ zza]
def Z4(s:PC)(P:Nat)(r:Rcs)(b:BusI):PC:=(putBus s (P+(r.first+r.n)%64*4) b).put (P+257) (Iq ((r.n:Int)+1))
theorem ziI{s:PC}{P:Nat}{r:Rcs}(h:RcsR s.rest P r)(hn:r.n<64)(b:BusI):RcsR (Z4 s P r b).rest P (r.put b):=by
 have hm:(r.first+r.n)%64<64:=Nat.mod_lt _ zzb;refine ⟨h.f64,hn,?_,yj _ _ _,fun i hi=>?_⟩
 ·unfold Z4;rw [zh _ _ _ _ zza,qM _ _ _ _ zza];exact h.cf
 ·unfold Rcs.put Z4;by_cases e:i=(r.first+r.n)%64
  ·have q:=GA s (P+i*4) b;simp only [if_pos e];rw [<-e];exact ⟨by rw [zh _ _ _ _ zza];exact q.c0,by rw [zh _ _ _ _ zza];exact q.c1,by rw [zh _ _ _ _ zza];exact q.c2,by rw [zh _ _ _ _ zza];exact q.c3⟩
  ·have q:=h.ca i hi;simp only [if_neg e];have o:∀j,j<4->((putBus s (P+(r.first+r.n)%64*4) b).put (P+257) (Iq ((r.n:Int)+1))).rest (P+i*4+j)=s.rest (P+i*4+j):=fun j hj=>by
    rw [zh _ _ _ _ zza,qM _ _ _ _ zza]
   exact ⟨(o 0 zzb).trans q.c0,(o 1 zzb).trans q.c1,(o 2 zzb).trans q.c2,(o 3 zzb).trans q.c3⟩
theorem Tn.putBus{w0 w:World}{B:Nat}{s:PC}{b0:BusI}(h:Tn B s w0 w)(o:Nat)(b:BusI)(ho:65562<=o)(h0:BusR s.rest o b0):Tn B (putBus s o b) w0 ((((w.setCell (Aq B o) (Iq b.addr)).setCell ⟨B,o+1,none⟩ (Iq b.data)).setCell ⟨B,o+2,none⟩ (Tq b.wr)).setCell ⟨B,o+3,none⟩ (Tq b.ft)):=by
 unfold Go.Proofs.YtcgjliflnnklnaaGreat.putBus;refine Tn.put (Tn.put (Tn.put (Tn.put h o _ _ ho h0.c0) (o+1) _ (Iq b0.data) zza ?_) (o+2) _ (Tq b0.wr) zza ?_) (o+3) _ (Tq b0.ft) zza ?_
 ·rw [zh _ _ _ _ zza];exact h0.c1
 ·rw [zh _ _ _ _ zza,zh _ _ _ _ zza];exact h0.c2
 ·rw [zh _ _ _ _ zza,zh _ _ _ _ zza,zh _ _ _ _ zza];exact h0.c3
theorem zaG{B P:Nat}{s:PC}{w0 w:World}{r:Rcs}(h:Tn B s w0 w)(hP:65562<=P)(hp:RcsR s.rest P r):Cq 276 #[.pointer (some (Aq B P))] w (Tq (r.n==64)) fun w'=>w'=w:=by
 have c4:w.cell? ⟨B,P+257,none⟩=some (Iq (r.n:Int)):=h.rest zza hp.cn;have e:(r.n==64)=((r.n:Int)==64):=by rw [Bool.eq_iff_iff];simp;omega
 rw [e];clear h hp;go_enter func276,ntmps276;go_wp2;go_ret;exact ⟨rfl,rfl⟩
theorem zcV{B P:Nat}{s:PC}{w0 w:World}{r:Rcs}(h:Tn B s w0 w)(hP:65562<=P)(hp:RcsR s.rest P r)(hn:r.n<64)(b:BusI):Cq 277 #[.pointer (some (Aq B P)),b.val] w (.tuple #[]) fun w'=>Tn B (Z4 s P r b) w0 w':=by
 have hlt:=h.c.lt;have n0:w.heap.size≠B:=by omega
 have m0:B≠w.heap.size:=by omega
 have HT:=hid h;have HP:=hid hp;have fz:=h.c.free;have c1:w.cell? ⟨B,P+256,none⟩=some (Iq (r.first:Int)):=h.rest zza hp.cf;have c2:w.cell? ⟨B,P+257,none⟩=some (Iq (r.n:Int)):=h.rest zza hp.cn;have hm:(r.first+r.n)%64<64:=Nat.mod_lt _ zzb;have q:=hp.ca _ hm;have c3:=h.rest zza q.c0;have c4:=h.rest zza q.c1;have c5:=h.rest zza q.c2;have c6:=h.rest zza q.c3;have f64:=hp.f64;have em:((r.first:Int)+(r.n:Int)).tmod 64=(((r.first+r.n)%64:Nat):Int):=by rw [Int.tmod_eq_emod_of_nonneg zza];omega
 unfold Z4;clear h hp q;unfold BusI.val;go_enter func277,ntmps277;go_wp2;go_region;go_wp2;go_end0;refine ⟨rfl,Tn.drew (Tn.alloc (Tn.put (Tn.putBus HT.out _ b zza (HP.out.ca _ hm)) _ _ (Iq (r.n:Int)) zza ?_) _)⟩;rw [qM _ _ _ _ zza];exact HP.out.cn
def vL(s:PC)(P:Nat)(r:Rcs):PC:=(s.put (P+256) (Iq (((r.first+1)%64:Nat):Int))).put (P+257) (Iq ((r.n:Int)-1))
theorem zfC{s:PC}{P:Nat}{r:Rcs}(h:RcsR s.rest P r)(hn:0<r.n):RcsR (vL s P r).rest P r.take:=by
 have h64:=h.n64;have o:∀k,k<P+256->(vL s P r).rest k=s.rest k:=fun k hk=>by
  unfold vL;rw [zh _ _ _ _ zza,zh _ _ _ _ zza]
 refine ⟨Nat.mod_lt _ zzb,by show r.n-1<=64;omega,?_,?_,fun i hi=>?_⟩
 ·unfold vL;rw [zh _ _ _ _ zza,yj];rfl
 ·unfold vL;rw [yj,show ((r.n:Int)-1)=((r.n-1:Nat):Int) from by omega];rfl
 ·have q:=h.ca i hi;exact ⟨(o _ zza).trans q.c0,(o _ zza).trans q.c1,(o _ zza).trans q.c2,(o _ zza).trans q.c3⟩
theorem zaH{B P:Nat}{s:PC}{w0 w:World}{r:Rcs}(h:Tn B s w0 w)(hP:65562<=P)(hp:RcsR s.rest P r)(hn:0<r.n):Calls prog 187 #[.pointer (some (Aq B P))] w fun e w'=>e=.returned (r.ring r.first).val/\Tn B (vL s P r) w0 w':=by
 have hlt:=h.c.lt;have hsz:=h.g.size;have n0:w.heap.size≠B:=by omega
 have m0:B≠w.heap.size:=by omega
 have n1:w.heap.size+1≠B:=by omega
 have m1:B≠w.heap.size+1:=by omega
 have HT:=hid h;have HP:=hid hp;have fz:=h.c.free;have c1:w.cell? ⟨B,P+256,none⟩=some (Iq (r.first:Int)):=h.rest zza hp.cf;have c2:w.cell? ⟨B,P+257,none⟩=some (Iq (r.n:Int)):=h.rest zza hp.cn;have q:=hp.ca _ hp.f64;have c3:=h.rest zza q.c0;have c4:=h.rest zza q.c1;have c5:=h.rest zza q.c2;have c6:=h.rest zza q.c3;have f64:=hp.f64;have em:((r.first:Int)+1).tmod 64=(((r.first+1)%64:Nat):Int):=by rw [Int.tmod_eq_emod_of_nonneg zza];omega
 unfold vL;clear h hp q;have n64:=HP.out.n64;unfold BusI.val;go_enter func187,ntmps187;go_wp2;go_region;go_wp2;have e2:((r.first:Int)+1)%64=(((r.first+1)%64:Nat):Int):=by omega
 rw [<-e2];refine bodyPost_ret (v:=(r.ring r.first).val) (by simp [results,results187,go_sem,BusI.val]) rfl (And.intro rfl ?_);refine Tn.drew (Tn.alloc (Tn.alloc (Tn.put (Tn.put HT.out _ _ _ zza HP.out.cf) _ _ (Iq (r.n:Int)) zza ?_) _) _);rw [zh _ _ _ _ zza];exact HP.out.cn
end
section
def vQ(m:Nat):Nat:=[0,1,1,1,1,2,2,2,3,3,4,4,3,2,4,5,5,2,3,6,6,6,5].getD m 0
inductive TrI (s:PC) (n:Nat):Prop
 |idle:s.st=0->s.bpc=s.pc->n<=7->TrI s n
 |mid (m:Nat):s.st=1->s.md=m->1<=m->m<=22->s.step=n->n<vQ m->TrI s n
 |two:s.st=2->n<=4->TrI s n
 |three:s.st=3->n<=5->TrI s n
 |four:s.st=4->n<=6->TrI s n
 |jam:s.st=5->TrI s n
structure RgP (s:PC):Prop where
 pc:0<=s.pc/\s.pc<65536
 ad:0<=s.ad/\s.ad<65536
 hop:0<=s.hop/\s.hop<65536
 sp:0<=s.s/\s.s<256
 x:0<=s.x/\s.x<256
structure Okr (s:PC) (n:Nat) (r:PC × BusI):Prop where
 ft:r.2.ft=false
 lo:0<=r.2.addr
 hi:r.2.addr<65536
 rom:(r.1.rom,r.1.cyc)=(s.rom,s.cyc)
 byte:r.2.addr/256≠208->¬(r.2.wr=true/\s.rom<=r.2.addr)->r.1.mem r.2.addr.toNat=r.2.data
 nx:TrI r.1 n
structure Kp (s q:PC):Prop where
 mem:q.mem=s.mem
 rom:(q.rom,q.cyc)=(s.rom,s.cyc)
 st:q.st=s.st
 md:q.md=s.md
 step:q.step=s.step
theorem rk(s:PC)(a:Int):Kp s (s.read1 a):=by
 unfold PC.read1;split<;>exact ⟨rfl,rfl,rfl,rfl,rfl⟩
structure Wk (s q:PC) (a d:Int):Prop where
 mem:a/256≠208->a<s.rom->q.mem a.toNat=d
 rom:(q.rom,q.cyc)=(s.rom,s.cyc)
 st:q.st=s.st
 md:q.md=s.md
 step:q.step=s.step
 pc:q.pc=s.pc
 bpc:q.bpc=s.bpc
theorem wk(s:PC)(a d:Int):Wk s (s.write1 a d) a d:=by
 unfold PC.write1;split
 ·exact ⟨fun h _=>by omega,rfl,rfl,rfl,rfl,rfl,rfl⟩
 split
 ·exact ⟨fun _ _=>by show vH s.mem a.toNat d a.toNat=d;unfold vH;rw [if_pos rfl],rfl,rfl,rfl,rfl,rfl,rfl⟩
 ·exact ⟨fun h h2=>by omega,rfl,rfl,rfl,rfl,rfl,rfl⟩
structure Ik (s q:PC):Prop where
 mem:q.mem=s.mem
 rom:(q.rom,q.cyc)=(s.rom,s.cyc)
 st:q.st=s.st
 md:q.md=s.md
 step:q.step=s.step
 ad:q.ad=s.ad
 sp:q.s=s.s\/q.s=s.x
theorem ik(s:PC)(i:Nat):Ik s (s.doIns i):=by
 unfold PC.doIns;split<;>exact ⟨rfl,rfl,rfl,rfl,rfl,rfl,by first|exact .inl rfl|exact .inr rfl⟩
theorem Okr.r{s q:PC}{n:Nat}{a:Int}(h0:0<=a)(h1:a<65536)(hm:q.mem=s.mem)(hr:(q.rom,q.cyc)=(s.rom,s.cyc))(hn:TrI q n):Okr s n (q,⟨a,s.look a,false,false⟩):=
 ⟨rfl,h0,h1,hr,fun h _=>by show q.mem a.toNat=s.look a;rw [hm];have h':a/256≠208:=h;unfold PC.look;rw [if_neg zza,if_neg zza],hn⟩
theorem Okr.w{s q:PC}{n:Nat}{a d:Int}(h0:0<=a)(h1:a<65536)(hm:a/256≠208->a<s.rom->q.mem a.toNat=d)(hr:(q.rom,q.cyc)=(s.rom,s.cyc))(hn:TrI q n):Okr s n (q,⟨a,d,true,false⟩):=
 ⟨rfl,h0,h1,hr,fun h h2=>hm h (by have h3:¬(true=true/\s.rom<=a):=h2;simp at h3;omega),hn⟩
structure MidH (s:PC) (n m:Nat):Prop where
 st:s.st=1
 md:s.md=m
 h1:1<=m
 h2:m<=22
 step:s.step=(n:Int)+1
theorem MidH.stay{s q:PC}{n m:Nat}(M:MidH s n m)(e1:q.st=s.st)(e2:q.md=s.md)(e3:q.step=s.step)(hl:n+1<vQ m):TrI q (n+1):=
 .mid m (e1.trans M.st) (e2.trans M.md) M.h1 M.h2 (e3.trans (by rw [M.step];omega)) hl
theorem Zj{s:PC}(R:RgP s):0<=s.stackTop/\s.stackTop<65536:=by
 have:=R.sp;unfold PC.stackTop zn;omega
theorem Yq{a:Int}(h0:0<=a)(h1:a<65536)(i:Int):0<=zC a i/\zC a i<65536:=by
 unfold zC zn loI hiI;omega
theorem J9(s:PC)(n:Nat)(h0:0<=s.ad)(h1:s.ad<65536)(hn:n<=4):Okr s (n+1) s.access:=by
 unfold PC.access;split
 ·have I:=ik s s.ins.toNat;have K:=wk s.performLast s.performLast.ad s.performLast.data;have ea:s.performLast.ad=s.ad:=I.ad;have er:(s.performLast.rom,s.performLast.cyc)=(s.rom,s.cyc):=I.rom;have er':s.performLast.rom=s.rom:=(Prod.mk.inj er).1;refine Okr.w (s:=s) (q:=s.performLast.write1 s.performLast.ad s.performLast.data) (a:=s.performLast.ad) (d:=s.performLast.data) zza zza (fun x y=>K.mem x zza) (K.rom.trans er) (.idle (K.st.trans rfl) (K.bpc.trans (by rw [K.pc];rfl)) zza)
 split
 ·have K:=rk ({s with st:=3}:PC) s.ad;exact Okr.r (s:=s) (q:=(yg (({s with st:=3}:PC).read s.ad)).1) (a:=s.ad) h0 h1 K.mem K.rom (.three K.st zza)
 ·have K:=rk s s.ad;have I:=ik (yg (s.read s.ad)).1 (yg (s.read s.ad)).1.ins.toNat;exact Okr.r (s:=s) (q:=(yg (s.read s.ad)).1.performLast) (a:=s.ad) h0 h1 (I.mem.trans K.mem) (I.rom.trans K.rom) (.idle rfl rfl zza)
theorem Hs(s:PC)(n:Nat)(h0:0<=s.ad)(h1:s.ad<65536)(hn:n<=5):Okr s (n+1) s.restore:=by
 have K:=wk ({s with st:=4}:PC) s.ad s.data;exact Okr.w (s:=s) (q:=({s with st:=4}:PC).write1 s.ad s.data) (a:=s.ad) (d:=s.data) h0 h1 K.mem K.rom (.four K.st zza)
theorem zb4(s:PC)(n:Nat)(h0:0<=s.ad)(h1:s.ad<65536)(hn:n<=6):Okr s (n+1) s.change:=by
 have I:=ik s s.ins.toNat;have K:=wk s.performLast s.performLast.ad s.performLast.data;have ea:s.performLast.ad=s.ad:=I.ad;have er:(s.performLast.rom,s.performLast.cyc)=(s.rom,s.cyc):=I.rom;have er':s.performLast.rom=s.rom:=(Prod.mk.inj er).1;exact Okr.w (s:=s) (q:=s.performLast.write1 s.performLast.ad s.performLast.data) (a:=s.performLast.ad) (d:=s.performLast.data) zza zza (fun x y=>K.mem x zza) (K.rom.trans er) (.idle (K.st.trans rfl) (K.bpc.trans (by rw [K.pc];rfl)) zza)
theorem xK{s:PC}{n m:Nat}(M:MidH s n m)(q:PC)(a:Int)(K:Kp s q)(h:0<=a/\a<65536)(hl:n+1<vQ m):Okr s (n+1) (q,⟨a,s.look a,false,false⟩):=
 Okr.r h.1 h.2 K.mem K.rom (M.stay K.st K.md K.step hl)
theorem Vu{s:PC}{n:Nat}(q:PC)(a:Int)(hm:q.mem=s.mem)(hr:(q.rom,q.cyc)=(s.rom,s.cyc))(hs:q.st=2)(h:0<=a/\a<65536)(hl:n<=3):Okr s (n+1) (q,⟨a,s.look a,false,false⟩):=
 Okr.r h.1 h.2 hm hr (.two hs zza)
theorem Vv{s:PC}{n:Nat}(q:PC)(a:Int)(hm:q.mem=s.mem)(hr:(q.rom,q.cyc)=(s.rom,s.cyc))(hs:q.st=0)(hb:q.bpc=q.pc)(h:0<=a/\a<65536)(hl:n<=6):Okr s (n+1) (q,⟨a,s.look a,false,false⟩):=
 Okr.r h.1 h.2 hm hr (.idle hs hb zza)
theorem y9{s:PC}{n m:Nat}(R:RgP s)(M:MidH s n m)(hl:n+1<vQ m):Okr s (n+1) s.readNext/\Okr s (n+1) (zL s.readNext)/\Okr s (n+1) (zA s.readNext)/\Okr s (n+1) (xn s.readNext):=
 ⟨xK M s.readNext.1 s.pc ⟨(rk s s.pc).mem,(rk s s.pc).rom,(rk s s.pc).st,(rk s s.pc).md,(rk s s.pc).step⟩ R.pc hl,xK M (zL s.readNext).1 s.pc ⟨(rk s s.pc).mem,(rk s s.pc).rom,(rk s s.pc).st,(rk s s.pc).md,(rk s s.pc).step⟩ R.pc hl,xK M (zA s.readNext).1 s.pc ⟨(rk s s.pc).mem,(rk s s.pc).rom,(rk s s.pc).st,(rk s s.pc).md,(rk s s.pc).step⟩ R.pc hl,xK M (xn s.readNext).1 s.pc ⟨(rk s s.pc).mem,(rk s s.pc).rom,(rk s s.pc).st,(rk s s.pc).md,(rk s s.pc).step⟩ R.pc hl⟩
theorem xv{s:PC}{n m:Nat}(M:MidH s n m)(a:Int)(h:0<=a/\a<65536)(hl:n+1<vQ m):Okr s (n+1) (s.read a)/\Okr s (n+1) (zL (s.read a))/\Okr s (n+1) (zA (s.read a))/\Okr s (n+1) (yg (s.read a)):=
 ⟨xK M (s.read a).1 a ⟨(rk s a).mem,(rk s a).rom,(rk s a).st,(rk s a).md,(rk s a).step⟩ h hl,xK M (zL (s.read a)).1 a ⟨(rk s a).mem,(rk s a).rom,(rk s a).st,(rk s a).md,(rk s a).step⟩ h hl,xK M (zA (s.read a)).1 a ⟨(rk s a).mem,(rk s a).rom,(rk s a).st,(rk s a).md,(rk s a).step⟩ h hl,xK M (yg (s.read a)).1 a ⟨(rk s a).mem,(rk s a).rom,(rk s a).st,(rk s a).md,(rk s a).step⟩ h hl⟩
theorem ZC{s:PC}{n m:Nat}(M:MidH s n m)(hl:n+1<vQ m):Okr s (n+1) (zL s.pulled)/\Okr s (n+1) (zA s.pulled)/\Okr s (n+1) (yg s.pulled):=by
 have h:0<=zn ((s.s+1)%256) 1/\zn ((s.s+1)%256) 1<65536:=by unfold zn;omega
 exact ⟨xK M (zL s.pulled).1 (zn ((s.s+1)%256) 1) ⟨(rk ({s with s:=(s.s+1)%256}:PC) (zn ((s.s+1)%256) 1)).mem,(rk ({s with s:=(s.s+1)%256}:PC) (zn ((s.s+1)%256) 1)).rom,(rk ({s with s:=(s.s+1)%256}:PC) (zn ((s.s+1)%256) 1)).st,(rk ({s with s:=(s.s+1)%256}:PC) (zn ((s.s+1)%256) 1)).md,(rk ({s with s:=(s.s+1)%256}:PC) (zn ((s.s+1)%256) 1)).step⟩ h hl,xK M (zA s.pulled).1 (zn ((s.s+1)%256) 1) ⟨(rk ({s with s:=(s.s+1)%256}:PC) (zn ((s.s+1)%256) 1)).mem,(rk ({s with s:=(s.s+1)%256}:PC) (zn ((s.s+1)%256) 1)).rom,(rk ({s with s:=(s.s+1)%256}:PC) (zn ((s.s+1)%256) 1)).st,(rk ({s with s:=(s.s+1)%256}:PC) (zn ((s.s+1)%256) 1)).md,(rk ({s with s:=(s.s+1)%256}:PC) (zn ((s.s+1)%256) 1)).step⟩ h hl,xK M (yg s.pulled).1 (zn ((s.s+1)%256) 1) ⟨(rk ({s with s:=(s.s+1)%256}:PC) (zn ((s.s+1)%256) 1)).mem,(rk ({s with s:=(s.s+1)%256}:PC) (zn ((s.s+1)%256) 1)).rom,(rk ({s with s:=(s.s+1)%256}:PC) (zn ((s.s+1)%256) 1)).st,(rk ({s with s:=(s.s+1)%256}:PC) (zn ((s.s+1)%256) 1)).md,(rk ({s with s:=(s.s+1)%256}:PC) (zn ((s.s+1)%256) 1)).step⟩ h hl⟩
theorem jT{s:PC}{n m:Nat}(R:RgP s)(M:MidH s n m)(d:Int)(hl:n+1<vQ m):Okr s (n+1) (s.pushed d):=by
 have h:=Zj R;have K:=wk s s.stackTop d;exact Okr.w (s:=s) (q:=(s.pushed d).1) (a:=s.stackTop) (d:=d) h.1 h.2 K.mem K.rom (M.stay K.st K.md K.step hl)
theorem Yr{s:PC}{n:Nat}(a:Int)(h:0<=a/\a<65536)(hl:n<=6):Okr s (n+1) (yC (s.read a)):=by
 have K:=rk s a;have I:=ik (zA (s.read a)).1 (zA (s.read a)).1.ins.toNat;exact Vv (yC (s.read a)).1 a (I.mem.trans K.mem) (I.rom.trans K.rom) rfl rfl h hl
theorem XQ{s:PC}{n:Nat}(q:PC)(a:Int)(h:0<=a/\a<65536)(hm:q.mem=s.mem)(hr:(q.rom,q.cyc)=(s.rom,s.cyc))(hl:n<=6):Okr s (n+1) (q.performLast,⟨a,s.look a,false,false⟩):=by
 have I:=ik q q.ins.toNat;exact Vv q.performLast a (I.mem.trans hm) (I.rom.trans hr) rfl rfl h hl
end
section
theorem Xm(s:PC)(n:Nat)(i:Int)(R:RgP s)(hn:n<=3):Okr s (n+1) (s.indexed i):=by
 unfold PC.indexed;simp only [];split
 ·have A:=J9 ({s with ad:=(s.ad+i)%65536,st:=2}:PC) n (by show 0<=(s.ad+i)%65536;omega) (by show (s.ad+i)%65536<65536;omega) zza;exact ⟨A.ft,A.lo,A.hi,A.rom,A.byte,A.nx⟩
 ·have K:=rk ({s with ad:=(s.ad+i)%65536,st:=2}:PC) (zC s.ad i);exact Vu (({s with ad:=(s.ad+i)%65536,st:=2}:PC).read (zC s.ad i)).1 (zC s.ad i) K.mem K.rom K.st (Yq R.ad.1 R.ad.2 i) hn
theorem Vw{s:PC}{n m:Nat}(R:RgP s)(M:MidH s n m)(v f:Int)(hv:0<=v/\v<65536)(h1:1<=n)(h6:n<6)(hl:vQ m=6):Okr s (n+1) (s.enter v f):=by
 have hs:=M.step;unfold PC.enter;split
 ·exact jT R M _ zza
 split
 ·exact jT R M _ zza
 split
 ·exact jT R M _ zza
 split
 ·exact (xv M v hv zza).2.1
 ·exact Yr _ zza zza
theorem UQ{s:PC}{n:Nat}(R:RgP s)(hl:n<1):Okr s (n+1) s.implied:=
 XQ (s.read s.pc).1 s.pc R.pc (rk s s.pc).mem (rk s s.pc).rom zza
theorem UR{s:PC}{n:Nat}(R:RgP s)(hl:n<1):Okr s (n+1) s.accumulator:=by
 have K:=rk s s.pc;have I:=ik ({(s.read s.pc).1 with data:=(s.read s.pc).1.a}:PC) (s.read s.pc).1.ins.toNat;exact Vv s.accumulator.1 s.pc (I.mem.trans K.mem) (I.rom.trans K.rom) rfl rfl R.pc zza
theorem U0{s:PC}{n:Nat}(R:RgP s)(hl:n<1):Okr s (n+1) s.immediate:=
 XQ (yg s.readNext).1 s.pc R.pc (rk s s.pc).mem (rk s s.pc).rom zza
theorem GY{s:PC}{n:Nat}(R:RgP s)(hl:n<1):Okr s (n+1) s.zeroPage:=by
 have K:=rk ({s with st:=2}:PC) s.pc;exact Vu s.zeroPage.1 s.pc K.mem K.rom K.st R.pc zza
theorem zmv{s:PC}{n m:Nat}(R:RgP s)(M:MidH s n m)(i:Int)(hl:n<2)(e:vQ m=2):Okr s (n+1) (s.zeroPageBy i):=by
 have hs:=M.step;unfold PC.zeroPageBy;split
 ·exact (y9 R M zza).2.1
 ·have K:=rk s s.ad;exact Vu ({(s.read s.ad).1 with ad:=zC (s.read s.ad).1.ad i,st:=2}:PC) s.ad K.mem K.rom rfl R.ad zza
theorem GZ{s:PC}{n m:Nat}(R:RgP s)(M:MidH s n m)(hl:n<2)(e:vQ m=2):Okr s (n+1) s.absolute:=by
 have hs:=M.step;unfold PC.absolute;split
 ·exact (y9 R M zza).2.1
 ·have K:=rk ({s with st:=2}:PC) s.pc;exact Vu (zA ({s with st:=2}:PC).readNext).1 s.pc K.mem K.rom K.st R.pc zza
theorem zmw{s:PC}{n m:Nat}(R:RgP s)(M:MidH s n m)(i:Int)(hl:n<3)(e:vQ m=3):Okr s (n+1) (s.absoluteBy i):=by
 have hs:=M.step;unfold PC.absoluteBy;split
 ·exact (y9 R M zza).2.1
 split
 ·exact (y9 R M zza).2.2.1
 ·exact Xm s n i R zza
theorem zmx{s:PC}{n m:Nat}(R:RgP s)(M:MidH s n m)(hl:n<4)(e:vQ m=4):Okr s (n+1) s.indirectX:=by
 have hs:=M.step;unfold PC.indirectX;split
 ·exact (y9 R M zza).2.2.2
 split
 ·exact xK M ({(s.read s.hop).1 with hop:=zC (s.read s.hop).1.hop (s.read s.hop).1.x}:PC) s.hop ⟨(rk s s.hop).mem,(rk s s.hop).rom,(rk s s.hop).st,(rk s s.hop).md,(rk s s.hop).step⟩ R.hop zza
 split
 ·exact (xv M s.hop R.hop zza).2.1
 ·have K:=rk ({s with st:=2}:PC) (zC s.hop 1);exact Vu (zA (({s with st:=2}:PC).read (zC s.hop 1))).1 (zC s.hop 1) K.mem K.rom K.st (Yq R.hop.1 R.hop.2 1) zza
theorem zmy{s:PC}{n m:Nat}(R:RgP s)(M:MidH s n m)(hl:n<4)(e:vQ m=4):Okr s (n+1) s.indirectY:=by
 have hs:=M.step;unfold PC.indirectY;split
 ·exact (y9 R M zza).2.2.2
 split
 ·exact (xv M s.hop R.hop zza).2.1
 split
 ·exact (xv M (zC s.hop 1) (Yq R.hop.1 R.hop.2 1) zza).2.2.1
 ·exact Xm s n s.y R zza
theorem zmz{s:PC}{n m:Nat}(R:RgP s)(M:MidH s n m)(hl:n<3)(e:vQ m=3):Okr s (n+1) s.relative:=by
 have hs:=M.step;unfold PC.relative;split
 ·have K:=rk s s.pc;have I:=ik ({s.readNext.1 with ad:=(s.readNext.1.pc+sgn s.readNext.2.data)%65536}:PC) s.readNext.1.ins.toNat;refine Okr.r (s:=s) (a:=s.pc) R.pc.1 R.pc.2 ?_ ?_ ?_
  ·split
   ·exact I.mem.trans K.mem
   ·exact I.mem.trans K.mem
  ·split
   ·exact I.rom.trans K.rom
   ·exact I.rom.trans K.rom
  ·split
   ·exact M.stay (I.st.trans K.st) (I.md.trans K.md) (I.step.trans K.step) zza
   ·exact .idle rfl rfl zza
 split
 ·have K:=rk s s.pc;refine Okr.r (s:=s) (a:=s.pc) R.pc.1 R.pc.2 ?_ ?_ ?_
  ·split
   ·exact K.mem
   ·exact K.mem
  ·split
   ·exact K.rom
   ·exact K.rom
  ·split
   ·exact .idle rfl rfl zza
   ·exact M.stay K.st K.md K.step zza
 ·have K:=rk s (zn (loI s.ad) (hiI s.pc));have hp:=R.pc;exact Vv (s.read (zn (loI s.ad) (hiI s.pc))).1.branch (zn (loI s.ad) (hiI s.pc)) K.mem K.rom rfl rfl (by unfold zn loI hiI;omega) zza
theorem zmA{s:PC}{n m:Nat}(R:RgP s)(M:MidH s n m)(hl:n<2)(e:vQ m=2):Okr s (n+1) s.jumpAbsolute:=by
 have hs:=M.step;unfold PC.jumpAbsolute;split
 ·exact (y9 R M zza).2.1
 ·exact Yr _ R.pc zza
theorem zmB{s:PC}{n m:Nat}(R:RgP s)(M:MidH s n m)(hl:n<4)(e:vQ m=4):Okr s (n+1) s.jumpIndirect:=by
 have hs:=M.step;unfold PC.jumpIndirect;split
 ·exact (y9 R M zza).2.1
 split
 ·exact xK M ({(zA s.readNext).1 with hop:=(zA s.readNext).1.ad}:PC) s.pc ⟨(rk s s.pc).mem,(rk s s.pc).rom,(rk s s.pc).st,(rk s s.pc).md,(rk s s.pc).step⟩ R.pc zza
 split
 ·exact (xv M s.hop R.hop zza).2.1
 ·exact Yr _ (Yq R.hop.1 R.hop.2 1) zza
theorem zmC{s:PC}{n m:Nat}(R:RgP s)(M:MidH s n m)(hl:n<5)(e:vQ m=5):Okr s (n+1) s.callSubroutine:=by
 have hs:=M.step;unfold PC.callSubroutine;split
 ·exact (y9 R M zza).2.1
 split
 ·exact (xv M _ (Zj R) zza).1
 split
 ·exact jT R M _ zza
 split
 ·exact jT R M _ zza
 ·exact Yr _ R.pc zza
theorem zmD{s:PC}{n m:Nat}(R:RgP s)(M:MidH s n m)(hl:n<5)(e:vQ m=5):Okr s (n+1) s.leaveSubroutine:=by
 have hs:=M.step;unfold PC.leaveSubroutine;split
 ·exact (xv M _ R.pc zza).1
 split
 ·exact (xv M _ (Zj R) zza).1
 split
 ·exact (ZC M zza).1
 split
 ·exact (ZC M zza).2.1
 ·exact XQ (s.read s.ad).1 s.ad R.ad (rk s s.ad).mem (rk s s.ad).rom zza
theorem zmE{s:PC}{n m:Nat}(R:RgP s)(M:MidH s n m)(hl:n<5)(e:vQ m=5):Okr s (n+1) s.leaveInterrupt:=by
 have hs:=M.step;unfold PC.leaveInterrupt;split
 ·exact (xv M _ R.pc zza).1
 split
 ·exact (xv M _ (Zj R) zza).1
 split
 ·exact (ZC M zza).2.2
 split
 ·exact (ZC M zza).1
 ·have K:=rk ({s with s:=(s.s+1)%256}:PC) (zn ((s.s+1)%256) 1);have I:=ik (zA s.pulled).1 (zA s.pulled).1.ins.toNat;exact Vv (yC s.pulled).1 (zn ((s.s+1)%256) 1) (I.mem.trans K.mem) (I.rom.trans K.rom) rfl rfl (by unfold zn;omega) zza
theorem zmF{s:PC}{n m:Nat}(R:RgP s)(M:MidH s n m)(hl:n<2)(e:vQ m=2):Okr s (n+1) s.pushByte:=by
 have hs:=M.step;unfold PC.pushByte;split
 ·exact (xv M _ R.pc zza).1
 ·have I:=ik s s.ins.toNat;have hsp:=R.sp;have hx:=R.x;have ht:0<=s.perform.stackTop/\s.perform.stackTop<65536:=by
   have e:s.perform.s=s.s\/s.perform.s=s.x:=I.sp;unfold PC.stackTop zn;rcases e with e|e<;>rw [e]<;>omega
  have er:(s.perform.rom,s.perform.cyc)=(s.rom,s.cyc):=I.rom;have er':s.perform.rom=s.rom:=(Prod.mk.inj er).1;have K:=wk s.perform s.perform.stackTop s.perform.data;exact Okr.w (s:=s) (q:=(s.perform.pushed s.perform.data).1.finish) (a:=s.perform.stackTop) (d:=s.perform.data) ht.1 ht.2 (fun x y=>K.mem x zza) (K.rom.trans er) (.idle rfl rfl zza)
theorem zmG{s:PC}{n m:Nat}(R:RgP s)(M:MidH s n m)(hl:n<3)(e:vQ m=3):Okr s (n+1) s.pullByte:=by
 have hs:=M.step;unfold PC.pullByte;split
 ·exact (xv M _ R.pc zza).1
 split
 ·exact (xv M _ (Zj R) zza).1
 ·have K:=rk ({s with s:=(s.s+1)%256}:PC) (zn ((s.s+1)%256) 1);exact XQ (yg s.pulled).1 (zn ((s.s+1)%256) 1) (by unfold zn;omega) K.mem K.rom zza
theorem zd8{s:PC}{n m:Nat}(R:RgP s)(M:MidH s n m)(hl:n<6)(e:vQ m=6):Okr s (n+1) s.enterByBreak/\Okr s (n+1) s.enterByNMI/\Okr s (n+1) s.enterByIRQ:=by
 have hs:=M.step;unfold PC.enterByBreak PC.enterByNMI PC.enterByIRQ;by_cases h:s.step=1
 ·rw [if_pos h,if_pos h,if_pos h];exact ⟨(y9 R M zza).1,(xv M _ R.pc zza).1,(xv M _ R.pc zza).1⟩
 ·rw [if_neg h,if_neg h,if_neg h];exact ⟨Vw R M _ _ zzb zza hl e,Vw R M _ _ zzb zza hl e,Vw R M _ _ zzb zza hl e⟩
theorem zgP{s:PC}{n m:Nat}(R:RgP s)(M:MidH s n m)(hl:n<vQ m):Okr s (n+1) (s.doMode m):=by
 have h1:=M.h1;have h2:=M.h2;rcases (show m=1\/m=2\/m=3\/m=4\/m=5\/m=6\/m=7\/m=8\/m=9\/m=10\/m=11\/m=12\/m=13\/m=14\/m=15\/m=16\/m=17\/m=18\/m=19\/m=20\/m=21\/m=22 from by omega) with rfl|rfl|rfl|rfl|rfl|rfl|rfl|rfl|rfl|rfl|rfl|rfl|rfl|rfl|rfl|rfl|rfl|rfl|rfl|rfl|rfl|rfl
 ·exact UQ R hl
 ·exact UR R hl
 ·exact U0 R hl
 ·exact GY R hl
 ·exact zmv R M _ hl rfl
 ·exact zmv R M _ hl rfl
 ·exact GZ R M hl rfl
 ·exact zmw R M _ hl rfl
 ·exact zmw R M _ hl rfl
 ·exact zmx R M hl rfl
 ·exact zmy R M hl rfl
 ·exact zmz R M hl rfl
 ·exact zmA R M hl rfl
 ·exact zmB R M hl rfl
 ·exact zmC R M hl rfl
 ·exact zmD R M hl rfl
 ·exact zmF R M hl rfl
 ·exact zmG R M hl rfl
 ·exact (zd8 R M hl rfl).1
 ·exact (zd8 R M hl rfl).2.1
 ·exact (zd8 R M hl rfl).2.2
 ·exact zmE R M hl rfl
end
section
structure Cyo (s:PC) (n:Nat) (r:PC × BusI):Prop where
 lo:0<=r.2.addr
 hi:r.2.addr<65536
 rom:(r.1.rom,r.1.cyc)=(s.rom,s.cyc)
 byte:r.2.addr/256≠208->¬(r.2.wr=true/\s.rom<=r.2.addr)->r.1.mem r.2.addr.toNat=r.2.data
 ft:r.2.ft=true->r.2.wr=false/\r.2.addr=s.bpc
 nx:TrI r.1 (if r.2.ft=true then 0 else n+1)
 n7:n+1<=7\/r.2.ft=true
theorem Okr.cyo{s:PC}{n:Nat}{r:PC × BusI}(h:Okr s (n+1) r)(hn:n+1<=7):Cyo s n r:=
 ⟨h.lo,h.hi,h.rom,h.byte,fun e=>by rw [h.ft] at e;exact absurd e zzb,by rw [h.ft,if_neg zzb];exact h.nx,.inl hn⟩
theorem zd9(c:Nat):(zw c).2<=22:=by
 unfold zw;split
 ·rename_i e h;have:∀e∈jG,e.2.2<=22:=by decide+kernel
  exact this e (List.mem_of_find?_eq_some h)
 ·show 0<=22;omega
theorem zea(s:PC)(n:Nat)(irq:Bool)(R:RgP s)(hb:s.bpc=s.pc):Cyo s n (s.fetch irq):=by
 have K:=rk s s.pc;have hby:s.pc/256≠208->(s.read1 s.pc).mem s.pc.toNat=s.look s.pc:=fun h=>by
  rw [K.mem];unfold PC.look;rw [if_neg zza,if_neg zza]
 have go:∀q:PC,q.mem=(s.read1 s.pc).mem->(q.rom,q.cyc)=((s.read1 s.pc).rom,(s.read1 s.pc).cyc)->TrI q 0->Cyo s n (q,⟨s.pc,s.look s.pc,false,true⟩):=fun q h1 h2 h3=>
  ⟨R.pc.1,R.pc.2,h2.trans K.rom,fun h _=>by show q.mem s.pc.toNat=s.look s.pc;rw [h1];exact hby h,fun _=>⟨rfl,hb.symm⟩,h3,.inr rfl⟩
 have bg:∀ (q:PC) (i:Int) (m:Nat),m<=22->TrI (q.begin_ i m) 0:=fun q i m hm=>by
  unfold PC.begin_;split
  ·exact .jam rfl
  ·refine .mid m rfl rfl zza hm rfl ?_;rcases (show m=1\/m=2\/m=3\/m=4\/m=5\/m=6\/m=7\/m=8\/m=9\/m=10\/m=11\/m=12\/m=13\/m=14\/m=15\/m=16\/m=17\/m=18\/m=19\/m=20\/m=21\/m=22 from by omega) with rfl|rfl|rfl|rfl|rfl|rfl|rfl|rfl|rfl|rfl|rfl|rfl|rfl|rfl|rfl|rfl|rfl|rfl|rfl|rfl|rfl|rfl<;>decide
 have bm:∀ (q:PC) (i m:Int),(q.begin_ i m).mem=q.mem/\((q.begin_ i m).rom,(q.begin_ i m).cyc)=(q.rom,q.cyc):=fun q i m=>by
  unfold PC.begin_;split<;>exact ⟨rfl,rfl⟩
 unfold PC.fetch;simp only [];split
 ·exact go _ (bm _ _ _).1 (bm _ _ _).2 (bg _ 12 20 zzb)
 split
 ·exact go _ (bm _ _ _).1 (bm _ _ _).2 (bg _ 12 21 zzb)
 ·exact go _ (bm _ _ _).1 (bm _ _ _).2 (bg _ _ _ (zd9 _))
theorem zgQ(s:PC)(n:Nat)(irq:Bool)(R:RgP s)(I:TrI s n)(h5:s.st≠5):Cyo s n (s.turn irq):=by
 unfold PC.turn;cases I with
 |idle h hb hn=>rw [if_pos h];exact zea s n irq R hb
 |mid m h hm m1 m2 hs hl=>
  rw [if_neg zza,if_neg zza,if_neg zza,if_neg zza];have hl7:vQ m<=6:=by
   rcases (show m=1\/m=2\/m=3\/m=4\/m=5\/m=6\/m=7\/m=8\/m=9\/m=10\/m=11\/m=12\/m=13\/m=14\/m=15\/m=16\/m=17\/m=18\/m=19\/m=20\/m=21\/m=22 from by omega) with rfl|rfl|rfl|rfl|rfl|rfl|rfl|rfl|rfl|rfl|rfl|rfl|rfl|rfl|rfl|rfl|rfl|rfl|rfl|rfl|rfl|rfl<;>decide
  have es:IntKind.wrap .i64 (s.step+1)=(n:Int)+1:=by rw [IntKind.wrap_i64,hs];omega
  have A:=zgP (s:={s with step:=IntKind.wrap .i64 (s.step+1)}) (n:=n) (m:=m) ⟨R.pc,R.ad,R.hop,R.sp,R.x⟩ ⟨h,hm,m1,m2,es⟩ hl;have em:s.md.toNat=m:=by rw [hm];rfl
  have A':Okr s (n+1) (({s with step:=IntKind.wrap .i64 (s.step+1)}:PC).doMode m):=⟨A.ft,A.lo,A.hi,A.rom,A.byte,A.nx⟩;show Cyo s n (({s with step:=IntKind.wrap .i64 (s.step+1)}:PC).doMode s.md.toNat);rw [em];exact A'.cyo zza
 |two h hn=>rw [if_neg zza,if_pos h];exact (J9 s n R.ad.1 R.ad.2 hn).cyo zza
 |three h hn=>rw [if_neg zza,if_neg zza,if_pos h];exact (Hs s n R.ad.1 R.ad.2 hn).cyo zza
 |four h hn=>rw [if_neg zza,if_neg zza,if_neg zza,if_pos h];exact (zb4 s n R.ad.1 R.ad.2 hn).cyo zza
 |jam h=>exact absurd h h5
theorem TrI.like{s q:PC}{n:Nat}(h:TrI s n)(e1:q.st=s.st)(e2:q.md=s.md)(e3:q.step=s.step)(e4:q.bpc=s.bpc)(e5:q.pc=s.pc):TrI q n:=by
 cases h with
 |idle h hb hn=>exact .idle (e1.trans h) (by rw [e4,e5];exact hb) hn
 |mid m h hm m1 m2 hs hl=>exact .mid m (e1.trans h) (e2.trans hm) m1 m2 (e3.trans hs) hl
 |two h hn=>exact .two (e1.trans h) hn
 |three h hn=>exact .three (e1.trans h) hn
 |four h hn=>exact .four (e1.trans h) hn
 |jam h=>exact .jam (e1.trans h)
theorem Ht(s:PC)(b:BusI):(s.ends b).mem=s.mem/\(s.ends b).rom=s.rom/\(s.ends b).cyc=s.cyc/\(s.ends b).st=s.st/\(s.ends b).md=s.md/\(s.ends b).step=s.step/\(s.ends b).bpc=s.bpc/\(s.ends b).pc=s.pc:=by
 unfold PC.ends PC.tick;split
 ·split
  ·exact ⟨rfl,rfl,rfl,rfl,rfl,rfl,rfl,rfl⟩
  ·split<;>exact ⟨rfl,rfl,rfl,rfl,rfl,rfl,rfl,rfl⟩
 ·exact ⟨rfl,rfl,rfl,rfl,rfl,rfl,rfl,rfl⟩
structure Cyz (s:PC) (n:Nat) (r:PC × BusI):Prop where
 rom:r.1.rom=s.rom
 cyc:r.1.cyc=IntKind.wrap .i64 (s.cyc+1)
 byte:r.2.addr/256≠208->¬(r.2.wr=true/\s.rom<=r.2.addr)->r.1.peek r.2.addr=r.2.data
 ft:r.2.ft=true->r.2.wr=false/\r.2.addr=s.bpc
 nx:TrI r.1 (if r.2.ft=true then 0 else n+1)
 n7:n+1<=7\/r.2.ft=true
 lo:0<=r.2.addr
 hi:r.2.addr<65536
theorem Kx(s:PC)(n:Nat)(nmi irq:Bool)(R:RgP s)(I:TrI s n)(h5:s.st≠5):Cyz s n (s.cycle nmi irq):=by
 have T:=zgQ (s.pins nmi) n irq ⟨R.pc,R.ad,R.hop,R.sp,R.x⟩ (I.like rfl rfl rfl rfl rfl) h5;rw [vX];generalize (s.pins nmi).turn irq=r at*;obtain ⟨k1,k2,k3,k4,k5,k6,k7,k8⟩:=Ht r.1 r.2;obtain ⟨e1,e2⟩:=Prod.mk.inj T.rom;refine ⟨k2.trans e1,?_,fun h1 h2=>?_,T.ft,T.nx.like k4 k5 k6 k7 k8,T.n7,T.lo,T.hi⟩
 ·show IntKind.wrap .i64 ((r.1.ends r.2).cyc+1)=_;rw [k3,e2];rfl
 ·have q:=T.byte h1 h2;have h1':r.2.addr/256≠208:=h1;have lo:=T.lo;have hi:=T.hi;show PC.look _ (r.2.addr%65536)=r.2.data;rw [Int.emod_eq_of_lt lo hi];unfold PC.look;rw [if_neg zza,if_neg zza];show (r.1.ends r.2).mem r.2.addr.toNat=_;rw [k1];exact q
end
def RowAt(w:World)(g:Nat)(e size cap:Nat):Prop:= ∃cur,w.heap[g]?=some (.cells cur e (0,0))/\cur.size=cap*size
theorem RowAt.there{w:World}{g e size cap:Nat}(h:RowAt w g e size cap)(i:Nat)(hi:i<cap*size):∃v,w.cell? (Aq g i)=some v:=by
 obtain ⟨cur,h1,h2⟩:=h;exact ⟨cur[i]'(by omega),by rw [cell_of_row w g i cur e (0,0) h1];simp⟩
theorem RowAt.free{w:World}{g e size cap:Nat}(h:RowAt w g e size cap)(i:Nat):w.frozen? (Aq g i)=false:=by
 obtain ⟨cur,h1,_⟩:=h;simp [World.frozen?,h1]
theorem RowAt.lt{w:World}{g e size cap:Nat}(h:RowAt w g e size cap):g<w.heap.size:=by
 obtain ⟨cur,h1,_⟩:=h;exact (Array.getElem?_eq_some_iff.1 h1).1
theorem RowAt.setCell{w:World}{g e size cap:Nat}(h:RowAt w g e size cap)(b o:Nat)(v:Value):RowAt (w.setCell (Aq b o) v) g e size cap:=by
 obtain ⟨cur,h1,h2⟩:=h;by_cases hb:g=b
 ·subst hb;refine ⟨cur.setIfInBounds o v,?_,by simpa using h2⟩;simp only [World.setCell,Array.getElem?_modify,h1];simp
 ·exact ⟨cur,by rw [Below.heap_setCell _ _ _ _ hb];exact h1,h2⟩
theorem RowAt.setCells{g e size cap:Nat}(b:Nat):∀ (vs:List Value) (o:Nat) (w:World),RowAt w g e size cap->RowAt (w.setCells b o vs) g e size cap
 | [],_,_,h=>h
 |v::r,o,_,h=>RowAt.setCells b r (o+1) _ (h.setCell b o v)
section
variable (e size:Nat) (xf:Nat->Value) (row:Option Nat) (H:Nat)
def Ok(g:Nat):Prop:=some g=row\/H<=g
def AllX(w:World)(v:Value)(n:Nat):Prop:=
 (v=Nq/\n=0)\/ ∃g cap,v=Sq g n cap/\Ok row H g/\n<=cap/\RowAt w g e size cap/\∀i,i<n*size->w.cell? (Aq g i)=some (xf (i%size))
structure XExt (w w':World):Prop where
 os:w'.os=w.os
 tape:w'.tape=w.tape
 output:w'.output=w.output
 sz:w.heap.size<=w'.heap.size
 old:∀k,k<H->some k≠row->w'.heap[k]?=w.heap[k]?
 rows:∀g cap,Ok row H g->RowAt w g e size cap->RowAt w' g e size cap
 cells:∀g i,Ok row H g->g<w.heap.size->w.cell? (Aq g i)=some (xf (i%size))->w'.cell? (Aq g i)=some (xf (i%size))
end
section
variable {e size:Nat} {xf:Nat->Value} {row:Option Nat} {H:Nat}
theorem XExt.refl(w:World):XExt e size xf row H w w:=⟨rfl,rfl,rfl,Nat.le_refl _,fun _ _ _=>rfl,fun _ _ _ h=>h,fun _ _ _ _ h=>h⟩
theorem XExt.trans{a b c:World}(h:XExt e size xf row H a b)(k:XExt e size xf row H b c):XExt e size xf row H a c:=
 ⟨k.os.trans h.os,k.tape.trans h.tape,k.output.trans h.output,Nat.le_trans h.sz k.sz,fun i h1 h2=>(k.old i h1 h2).trans (h.old i h1 h2),fun g cap ho hr=>k.rows g cap ho (h.rows g cap ho hr),
  fun g i ho hl hc=>k.cells g i ho (Nat.lt_of_lt_of_le hl h.sz) (h.cells g i ho hl hc)⟩
theorem XExt.drew{a b:World}(h:XExt e size xf row H a b):XExt e size xf row H a b.drew:=⟨h.os,h.tape,h.output,h.sz,h.old,h.rows,h.cells⟩
theorem XExt.drewN{a b:World}(h:XExt e size xf row H a b)(n:Nat):XExt e size xf row H a (b.drewN n):=⟨h.os,h.tape,h.output,h.sz,h.old,h.rows,h.cells⟩
theorem XExt.ofGrown{w w':World}(hg:w.grownBy w' none)(hH:H<=w.heap.size):XExt e size xf row H w w':=by
 refine ⟨hg.os,hg.tape,hg.output,hg.size,fun k hk _=>hg.block k zza zzc,?_,?_⟩
 ·rintro g cap _ hr;obtain ⟨cur,h1,h2⟩:=hr;exact ⟨cur,(hg.block g (Array.getElem?_eq_some_iff.1 h1).1 zzc).trans h1,h2⟩
 ·intro g i _ hl hc;rw [World.cell?_of_block (a:=(Aq g i)) (hg.block g hl zzc)];exact hc
theorem AllX.ext{w w':World}{v:Value}{n:Nat}(h:AllX e size xf row H w v n)(hx:XExt e size xf row H w w'):AllX e size xf row H w' v n:=by
 rcases h with h|⟨g,cap,rfl,ho,hn,hr,hc⟩
 ·exact .inl h
 ·exact .inr ⟨g,cap,rfl,ho,hn,hx.rows g cap ho hr,fun i hi=>hx.cells g i ho hr.lt (hc i hi)⟩
theorem XExt.setCells{w:World}(g o:Nat)(news:List Value)(ho:Ok row H g)(hrow:H<=g\/some g=row)(hth:∀j,j<news.length->(w.cell? ⟨g,o+j,none⟩).isSome=true)
  (hnews:∀j u,news[j]?=some u->u=xf ((o+j)%size)):XExt e size xf row H w (w.setCells g o news):=by
 have hblk:∀ (vs:List Value) (o:Nat) (w:World) (k:Nat),k≠g->(w.setCells g o vs).heap[k]?=w.heap[k]?:=by
  intro vs;induction vs with
  |nil=>intros;rfl
  |cons v r ih=>intro o w k hk;show ((w.setCell (Aq g o) v).setCells g (o+1) r).heap[k]?=_;rw [ih _ _ _ hk,Below.heap_setCell _ _ _ _ hk]
 have hmeta:∀ (vs:List Value) (o:Nat) (w:World),(w.setCells g o vs).os=w.os/\(w.setCells g o vs).tape=w.tape/\(w.setCells g o vs).output=w.output/\(w.setCells g o vs).heap.size=w.heap.size:=by
  intro vs;induction vs with
  |nil=>intros;exact ⟨rfl,rfl,rfl,rfl⟩
  |cons v r ih=>
   intro o w;have:=ih (o+1) (w.setCell (Aq g o) v);exact ⟨this.1,this.2.1,this.2.2.1,by rw [show (w.setCells g o (v::r)).heap.size=((w.setCell (Aq g o) v).setCells g (o+1) r).heap.size from rfl,this.2.2.2];simp⟩
 have hm:=hmeta news o w;refine ⟨hm.1,hm.2.1,hm.2.2.1,by omega,?_,?_,?_⟩
 ·intro k hk hne;exact hblk news o w k (fun e=>by subst e;rcases hrow with h|h;omega;exact hne h)
 ·intro g' cap' _ hr;exact RowAt.setCells g news o w hr
 ·intro g' i _ _ hc;by_cases hg:g'=g
  ·subst hg;by_cases hi:o<=i/\i<o+news.length
   ·have:=World.cell?_setCells_in g' news o w hth (i-o) zza;rw [show o+(i-o)=i from by omega] at this;rw [this,hnews (i-o) _ (List.getElem?_eq_getElem zza),show o+(i-o)=i from by omega]
   ·rw [World.cell?_setCells_out g' news o w (Aq g' i) (fun _ _=>by simp only;omega)];exact hc
  ·rw [World.cell?_setCells_out g news o w (Aq g' i) (fun e _=>absurd e hg)];exact hc
def JW(size:Nat)(xf:Nat->Value)(n:Nat):List Value:=(List.range (n*size)).map (fun i=>xf (i%size))
theorem YQ(n:Nat):(JW size xf n).length=n*size:=by simp [JW]
theorem JX(n j:Nat)(u:Value)(h:(JW size xf n)[j]?=some u):j<n*size/\u=xf (j%size):=by
 have hj:j<n*size:=by
  rcases Nat.lt_or_ge j (n*size) with h'|h'
  ·exact h'
  ·rw [List.getElem?_eq_none (by rw [YQ];exact h')] at h;cases h
 refine ⟨hj,?_⟩;simp [JW,List.getElem?_range hj] at h;exact h.symm
theorem xg{P:Program}(w:World){ops:Array Oper}{rest:List Oper}{o:Oper}{a:Go.Act}{Q:Exit->Go.Act->World->Prop}
  (hg:o.guard=none) (s x:Operand) (t:TypeId) (hop:o.op=Op.call {callee:=Callee.builtin Builtin.append,args:=#[s,x],argTypes:=#[t,t] })
  (i:TypeInfo) (z:Value) (bytes:Nat) (h1:P.underlying t=some (.slice e)) (h2:P.info? e=some i) (h3:i.zero=some z) (h4:i.size=size) (h5:i.bytes=bytes) (h6:z.cells.size=size) (h7:0<size)
  (v:Value) (n:Nat) (hs:a.eval s=v) (hall:AllX e size xf row H w v n)
  (ad:Addr) (m c:Nat) (news:List Value) (hx:a.eval x=.slice (some ad) m c) (hn:news.length=m*size) (hc:∀j u,news[j]?=some u->w.cell? (ad.add j)=some u) (h1c:∀u∈news,u.oneCell'=true)
  (hnx:∀j u,news[j]?=some u->u=xf (j%size)) (hm:0<m) (b1:n+m<=maxLen) (b2:(n+m)*bytes<=140737488355328) (hH:H<=w.heap.size)
  (hK:∀v' w',AllX e size xf row H w' v' (n+m)->XExt e size xf row H w w'->wpList P ops Q rest (a.put o.dst v') w'):
  wpList P ops Q (o::rest) a w:=by
 have grow:∀ (olds:List Value) v' w',olds.length=n*size->(∀j u,olds[j]?=some u->u=xf (j%size))->w'.ownsRow w.heap.size e size v' (n+m) (olds++news)->w.grownBy w' none->wpList P ops Q rest (a.put o.dst v') w':=by
  intro olds v' w' hol hox hown hgr;refine hK v' w' ?_ (XExt.ofGrown hgr hH);rcases hown.2 with ⟨_,e0⟩|⟨g,cap,cur,rfl,hbg,hgg,hnc,_,hcs,htk⟩
  ·omega
  ·refine .inr ⟨g,cap,rfl,.inr zza,hnc,⟨cur,hgg,hcs⟩,?_⟩;intro i hi;have hle:i<(olds++news).length:=by rw [List.length_append,hol,hn, <-Nat.add_mul];exact hi
   have hcell:w'.cell? (Aq g i)=(olds++news)[i]?:=by
    rw [cell_of_row w' g i cur e (0,0) hgg, <-htk,List.getElem?_take_of_lt hi];simp
   rw [hcell];by_cases hi2:i<olds.length
   ·rw [List.getElem?_append_left hi2];have:=List.getElem?_eq_getElem hi2;rw [this,hox i _ this]
   ·rw [List.getElem?_append_right zza];have hj:i-olds.length<news.length:=by rw [List.length_append] at hle;omega
    have:=List.getElem?_eq_getElem hj;rw [this,hnx _ _ this];have hmod:(i-olds.length)%size=i%size:=by
     have e1:i=(i-olds.length)+n*size:=by omega
     conv=>rhs;rw [e1]
     rw [Nat.add_mul_mod_self_right]
    rw [hmod]
 rcases hall with ⟨rfl,rfl⟩|⟨g,cap,rfl,ho,hnc,hr,hcx⟩
 ·refine wpList_append_grows w hg s x t hop e i z size bytes h1 h2 h3 h4 h5 h6 h7 none 0 0 [] hs (fun _=>⟨rfl,rfl⟩) zzc zzc ad m c news hx hn hc h1c zza b1 b2 ?_;intro v' w' hown hgr;exact grow [] v' w' zzc zzc hown hgr
 ·refine wpList_append_arg w hg s x t hop e i z size bytes h1 h2 h3 h4 h5 h6 h7 g 0 n cap (JW size xf n) hs (YQ n) ?_ ad m c news hx hn hc h1c ?_ b1 b2 ?_ ?_
  ·intro j u hj;obtain ⟨hj1,rfl⟩:=JX n j u hj;rw [Nat.zero_add];exact hcx j hj1
  ·intro hrm j hj;have hlt:0+n*size+j<cap*size:=by
    have:(n+m)*size<=cap*size:=Nat.mul_le_mul_right _ hrm;rw [Nat.add_mul] at this;omega
   obtain ⟨u,hu⟩:=hr.there _ hlt;exact ⟨by rw [hu];rfl,hr.free _⟩
  ·intro hrm;have hle:(n+m)*size<=cap*size:=Nat.mul_le_mul_right _ hrm;rw [Nat.add_mul] at hle;have hth:∀j,j<news.length->(w.cell? ⟨g,0+n*size+j,none⟩).isSome=true:=by
    intro j hj;obtain ⟨u,hu⟩:=hr.there (0+n*size+j) zza;rw [hu];rfl
   have hnews':∀j u,news[j]?=some u->u=xf ((0+n*size+j)%size):=by
    intro j u hj;rw [hnx j u hj,Nat.zero_add,Nat.add_comm,Nat.add_mul_mod_self_right]
   have hX:XExt e size xf row H w (w.setCells g (0+n*size) news):=XExt.setCells g _ news ho (by rcases ho with h|h;exact .inr h;exact .inl h) hth hnews';refine hK _ _ (.inr ⟨g,cap,rfl,ho,hrm,hX.rows g cap ho hr,?_⟩) hX;intro i hi;rw [Nat.add_mul] at hi;by_cases hi2:i<n*size
   ·exact hX.cells g i ho hr.lt (hcx i hi2)
   ·have hj:i-n*size<news.length:=by omega
    have:=World.cell?_setCells_in g news (0+n*size) w hth (i-n*size) hj;rw [show 0+n*size+(i-n*size)=i from by omega] at this;rw [this,hnews' _ _ (List.getElem?_eq_getElem hj),show 0+n*size+(i-n*size)=i from by omega]
  ·intro hfull v' w' hown hgr;exact grow (JW size xf n) v' w' (YQ n) (fun j u hj=>(JX n j u hj).2) hown hgr
end
def xfB(m:Nat):Nat->Value:=fun _=>Uq ((m%251:Nat):Int)
theorem XU{m r:Nat}(hr:m%251=r):∀j u,[Uq (r:Int)][j]?=some u->u=xfB m (j%1):=by
 intro j u h;subst hr;match j,h with
 |0,h=>simp at h;subst h;rfl
theorem zbq{m r:Nat}(hr:m%251=r):∀j u,[Uq (r:Int),Uq (r:Int)][j]?=some u->u=xfB m (j%1):=by
 intro j u h;subst hr;match j,h with
 |0,h=>simp at h;subst h;rfl
 |1,h=>simp at h;subst h;rfl
theorem AllX.alloc{e size:Nat}{xf:Nat->Value}{row:Option Nat}{H:Nat}{w:World}{v:Value}{n:Nat}(h:AllX e size xf row H w v n)(o:Obj)(hH:H<=w.heap.size):AllX e size xf row H (w.alloc o) v n:=h.ext (XExt.ofGrown (World.grownBy_alloc w o none) hH)
theorem XExt.alloc{e size:Nat}{xf:Nat->Value}{row:Option Nat}{H:Nat}{a w:World}(h:XExt e size xf row H a w)(o:Obj)(hH:H<=w.heap.size):XExt e size xf row H a (w.alloc o):=h.trans (XExt.ofGrown (World.grownBy_alloc w o none) hH)
theorem XExt.setX{e size:Nat}{xf:Nat->Value}{row:Option Nat}{H:Nat}{a w:World}(h:XExt e size xf row H a w){g cap:Nat}(hr:RowAt w g e size cap)(ho:Ok row H g)(k:Nat)(hk:k<cap*size):XExt e size xf row H a (w.setCell (Aq g k) (xf (k%size))):=
 h.trans (XExt.setCells g k [xf (k%size)] ho (by rcases ho with h|h;exact .inr h;exact .inl h) (fun j hj=>by
  have:j=0:=by simpa using hj
  subst this;obtain ⟨u,hu⟩:=hr.there k hk;rw [Nat.add_zero,hu];rfl) (fun j u hj=>by
  match j,hj with
  |0,hj=>simp at hj;subst hj;rfl))
theorem Ok.mono{row:Option Nat}{H H' g:Nat}(h:Ok row H g)(hH:H'<=H):Ok row H' g:=by
 rcases h with h|h
 ·exact .inl h
 ·exact .inr zza
theorem AllX.mono{e size:Nat}{xf:Nat->Value}{row:Option Nat}{H H':Nat}{w:World}{v:Value}{n:Nat}(h:AllX e size xf row H w v n)(hH:H'<=H):AllX e size xf row H' w v n:=by
 rcases h with h|⟨g,cap,rfl,ho,hn,hr,hc⟩
 ·exact .inl h
 ·exact .inr ⟨g,cap,rfl,ho.mono hH,hn,hr,hc⟩
theorem AllX.setOther{e size:Nat}{xf:Nat->Value}{row:Option Nat}{H:Nat}{w:World}{v:Value}{n:Nat}(h:AllX e size xf row H w v n)(b o:Nat)(u:Value)(hb:¬Ok row H b):AllX e size xf row H (w.setCell (Aq b o) u) v n:=by
 rcases h with h|⟨g,cap,rfl,ho,hn,hr,hc⟩
 ·exact .inl h
 ·refine .inr ⟨g,cap,rfl,ho,hn,hr.setCell b o u,fun i hi=>?_⟩;rw [World.cell?_setCell_other _ _ _ _ (fun e=>hb (by injection e with e1;subst e1;exact ho))];exact hc i hi
theorem xL{e size:Nat}{xf:Nat->Value}{row:Option Nat}{H:Nat}{w:World}{v:Value}{n:Nat}(h:AllX e size xf row H w v n)(hn:0<n):∃g c,v=Sq g n c:=by
 rcases h with ⟨_,e⟩|⟨g,cap,e,_⟩
 ·omega
 ·exact ⟨g,cap,e⟩
theorem qb{w a:World}{row:Option Nat}(h:w.grownBy a row){b i:Nat}{u:Value}(hb:w.heap.size<=b):w.grownBy (a.setCell (Aq b i) u) row:=
 ⟨h.os,h.tape,h.output,by simpa using h.size,fun k hk hne=>(Below.heap_setCell _ _ _ _ (by simp only;omega)).trans (h.block k hk hne)⟩
def Out(e size:Nat)(w:World)(X:Nat->Prop)(v:Value)(n:Nat):Prop:=(v=Nq/\n=0)\/ ∃g cap,v=Sq g n cap/\n<=cap/\RowAt w g e size cap/\X g
section
variable {e size:Nat} {xf:Nat->Value} {row:Option Nat} {H:Nat} {W w w' wr:World} {L L':List (Value × Nat)} {v:Value} {n k cap g:Nat} {a:Option Addr}
structure Ow (e size:Nat) (xf:Nat->Value) (row:Option Nat) (H:Nat) (W:World) (L:List (Value × Nat)) (w:World):Prop where
 x:XExt e size xf row H W w
 h:H<=w.heap.size
 a:∀p∈L,AllX e size xf row H w p.1 p.2
theorem Ow.at(h:Ow e size xf row H W L w)(o:Obj){p:Value × Nat}(hm:p∈L):AllX e size xf row H (w.alloc o) p.1 p.2:=(h.a _ hm).alloc _ h.h
theorem Ow.push{o:Obj}(h:Ow e size xf row H W L w)(hA:AllX e size xf row H w' v n)(hX:XExt e size xf row H (w.alloc o) w'):Ow e size xf row H W ((v,n)::L) w':=
 ⟨(h.x.alloc o h.h).trans hX,by have h1:=hX.sz;have h2:=h.h;simp at h1;omega,fun p hp=>by
  rcases List.mem_cons.1 hp with rfl|hp
  ·exact hA
  ·exact (h.at o hp).ext hX⟩
theorem Ow.sub(h:Ow e size xf row H W L w)(hs:∀p∈L',p∈L):Ow e size xf row H W L' w:=⟨h.x,h.h,fun p hp=>h.a p (hs p hp)⟩
theorem Ow.cells{cs:Array Value}{t:TypeId}{b:Nat}(h:Ow e size xf row H W L w)(hr:some b≠row)(hb:b<H)(hW:W.heap[b]?=some (.cells cs t (0,0))):(∀o,w.cell? (Aq b o)=cs[o]?)/\∀o,w.frozen? (Aq b o)=false:=by
 have q:=(h.x.old b hb hr).trans hW;exact ⟨fun o=>cell_of_row w b o _ t (0,0) q,fun o=>by simp [World.frozen?,q]⟩
theorem Ow.done(h:Ow e size xf row H W L wr)(hr:some w.heap.size≠row)(hH:w.heap.size<H)(hW:Bq w W)(a b c d f:Value):w.grownBy (((((wr.setCell (Aq w.heap.size 0) a).setCell (Aq w.heap.size 1) b).setCell (Aq w.heap.size 2) c).setCell (Aq w.heap.size 3) d).setCell (Aq w.heap.size 4) f) row/\∀p∈L,AllX e size xf row w.heap.size (((((wr.setCell (Aq w.heap.size 0) a).setCell (Aq w.heap.size 1) b).setCell (Aq w.heap.size 2) c).setCell (Aq w.heap.size 3) d).setCell (Aq w.heap.size 4) f) p.1 p.2:=by
 have n:¬Ok row H w.heap.size:=fun z=>z.elim hr zza
 have h0:w.grownBy wr row:=⟨h.x.os.trans hW.os,h.x.tape.trans hW.tape,h.x.output.trans hW.output,Nat.le_trans hW.size h.x.sz,fun k hk hne=>(h.x.old k zza hne).trans (hW.block k hk)⟩;exact ⟨qb (qb (qb (qb (qb h0 (Nat.le_refl _)) (Nat.le_refl _)) (Nat.le_refl _)) (Nat.le_refl _)) (Nat.le_refl _),fun p hp=>((((((h.a p hp).setOther _ _ _ n).setOther _ _ _ n).setOther _ _ _ n).setOther _ _ _ n).setOther _ _ _ n).mono zza⟩
def Mk(e size:Nat)(xf:Nat->Value)(a:Option Addr)(n cap k:Nat)(w:World):Prop:=(a=none/\n=0/\cap=0)\/ ∃g,a=some (Aq g 0)/\n<=cap/\RowAt w g e size cap/\∀j,j<k->w.cell? (Aq g j)=some (xf (j%size))
theorem Mk.first{X:Nat->Prop}(h:Out e size w X v n):∃a cap,v=.slice a n cap/\(some w.heap.size≠v.ownBlock/\some (w.heap.size+1)≠v.ownBlock)/\∀W,Bq w W->Mk e size xf a n cap 0 W:=by
 rcases h with ⟨rfl,rfl⟩|⟨g,cap,rfl,h1,h2,_⟩
 ·exact ⟨none,0,rfl,⟨(fun e=>by cases e),(fun e=>by cases e)⟩,fun _ _=>.inl ⟨rfl,rfl,rfl⟩⟩
 ·have:=h2.lt;obtain ⟨cur,r1,r2⟩:=h2;exact ⟨_,cap,rfl,⟨fun e=>by injection e with e;have e:_=g:=e;omega,fun e=>by injection e with e;have e:_=g:=e;omega⟩,fun W hW=>.inr ⟨g,rfl,h1,⟨cur,(hW.block g this).trans r1,r2⟩,fun j hj=>absurd hj (Nat.not_lt_zero _)⟩⟩
theorem Mk.all(h:Mk e size xf a n cap (n*size) w):AllX e size xf (Value.slice a n cap).ownBlock H w (.slice a n cap) n:=by
 rcases h with ⟨rfl,rfl,rfl⟩|⟨g,rfl,h1,h2,h3⟩
 ·exact .inl ⟨rfl,rfl⟩
 ·exact .inr ⟨g,cap,rfl,.inl rfl,h1,h2,h3⟩
theorem Mk.next{u:Value}(h:Mk e size xf (some (Aq g 0)) n cap k w)(o:Ow e size xf (some g) H W [] w)(hk:k<n*size)(hu:xf (k%size)=u):Mk e size xf (some (Aq g 0)) n cap (k+1) (w.setCell (Aq g k) u)/\Ow e size xf (some g) H W [] (w.setCell (Aq g k) u):=by
 subst hu;rcases h with ⟨z,_⟩|⟨g',e,h1,h2,h3⟩
 ·cases z
 ·obtain rfl:g=g':=by injection e with e;injection e
  have hk2:k<cap*size:=Nat.lt_of_lt_of_le hk (Nat.mul_le_mul_right _ h1);refine ⟨.inr ⟨g,rfl,h1,h2.setCell g k _,fun j hj=>?_⟩,o.x.setX h2 (.inl rfl) k hk2,by simpa using o.h,fun p hp=>by cases hp⟩;by_cases z:j=k
  ·subst z;obtain ⟨u,hu⟩:=h2.there j hk2;exact World.cell?_setCell_same _ _ _ hu
  ·rw [World.cell?_setCell_other _ _ _ _ (zQ _ _ _ (fun e'=>z e'.symm))];exact h3 j zza
end
def xfP(m:Nat):Nat->Value:=fun i=>if i=0 then Iq (-1000-(m:Int)) else if i=1 then Zq ⟨#[]⟩ else Tq false
theorem zo8(m:Nat):∀j u,([Iq (-1000-(m:Int)),Zq ⟨#[]⟩,Tq false]:List Value)[j]?=some u->u=xfP m (j%3):=by
 intro j u h;match j,h with
 |0,h=>simp at h;subst h;rfl
 |1,h=>simp at h;subst h;rfl
 |2,h=>simp at h;subst h;rfl
theorem zpD(m:Nat):∀j u,([Iq (-1000-(m:Int)),Zq ⟨#[]⟩,Tq false,Iq (-1000-(m:Int)),Zq ⟨#[]⟩,Tq false]:List Value)[j]?=some u->u=xfP m (j%3):=by
 intro j u h;match j,h with
 |0,h=>simp at h;subst h;rfl
 |1,h=>simp at h;subst h;rfl
 |2,h=>simp at h;subst h;rfl
 |3,h=>simp at h;subst h;rfl
 |4,h=>simp at h;subst h;rfl
 |5,h=>simp at h;subst h;rfl
theorem zpr(w:World)(q:Int)(t:TypeId):∀j u,([Iq q,Zq ⟨#[]⟩,Tq false]:List Value)[j]?=some u->(w.alloc (.cells #[Iq q,Zq ⟨#[]⟩,Tq false] t)).cell? (((Aq w.heap.size 0):Addr).add j)=some u:=
 World.news_of_block (w:=w.alloc (.cells #[Iq q,Zq ⟨#[]⟩,Tq false] t)) (cs:=#[Iq q,Zq ⟨#[]⟩,Tq false]) (t:=t) (fr:=(0,0)) (heap_alloc_new w _)
theorem zqi(w:World)(q:Int)(t:TypeId):∀j u,([Iq q,Zq ⟨#[]⟩,Tq false,Iq q,Zq ⟨#[]⟩,Tq false]:List Value)[j]?=some u->(w.alloc (.cells #[Iq q,Zq ⟨#[]⟩,Tq false,Iq q,Zq ⟨#[]⟩,Tq false] t)).cell? (((Aq w.heap.size 0):Addr).add j)=some u:=
 World.news_of_block (w:=w.alloc (.cells #[Iq q,Zq ⟨#[]⟩,Tq false,Iq q,Zq ⟨#[]⟩,Tq false] t)) (cs:=#[Iq q,Zq ⟨#[]⟩,Tq false,Iq q,Zq ⟨#[]⟩,Tq false]) (t:=t) (fr:=(0,0)) (heap_alloc_new w _)
theorem zp2(q:Int):∀u∈ ([Iq q,Zq ⟨#[]⟩,Tq false]:List Value),u.oneCell'=true:=by
 intro u hu;simp at hu;rcases hu with rfl|rfl|rfl<;>rfl
theorem zqn(q:Int):∀u∈ ([Iq q,Zq ⟨#[]⟩,Tq false,Iq q,Zq ⟨#[]⟩,Tq false]:List Value),u.oneCell'=true:=by
 intro u hu;simp at hu;rcases hu with rfl|rfl|rfl|rfl|rfl|rfl<;>rfl
theorem zol{p:Prop}(h:p):Hid p:=h
theorem zqo{p:Prop} (q:p:=by
 clear hc;go_wp2;go_round;case rel=>exact ⟨k+1,by omega,by go_num⟩
 case measure=>simp [intOf];omega):p:=q
theorem jd(row:Option Nat)(H m n:Nat)(v:Value)(w:World)(hm:m<=1000000000)(hn:n<=1000000000)(h:AllX 5 1 (xfB m) row H w v n):Cq 77 #[v,Iq m] w (Tq true) fun w'=>w'=w:=by
 obtain ⟨r,h251,hb1,HR⟩:∃r:Nat,(m:Int)%251=(r:Int)/\(r:Int)<256/\Hid (m%251=r):=⟨m%251,by omega,by omega,rfl⟩
 obtain ⟨a,cap,rfl,HC⟩:∃a cap,v=.slice a n cap/\Hid (∀k,k<n->∃g,a=some (Aq g 0)/\∀i,i<n*1->w.cell? (Aq g i)=some (xfB m (i%1))):=by
  rcases h with ⟨rfl,rfl⟩|⟨g,cap,rfl,_,_,_,hc⟩
  ·exact ⟨_,_,rfl,fun k hk=>absurd hk (Nat.not_lt_zero _)⟩
  ·exact ⟨_,_,rfl,fun _ _=>⟨g,rfl,hc⟩⟩
 clear h;go_enter func77,ntmps77;go_wp2;go_loop [5] (fun i=> ∃k:Nat,k<=n/\i=Iq k) (fun i=>n-(intOf i).toNat);case atStart=>exact ⟨0,Nat.zero_le _,rfl⟩
 case round=>
  obtain ⟨k,hk,rfl⟩:=hrel;by_cases hlt:k<n
  ·obtain ⟨g,rfl,hc⟩:=HC.out k hlt;have hcell:w.cell? (Aq g k)=some (Uq (r:Int)):=by rw [hc k zza,xfB,HR.out]
   exact zqo
  ·go_wp2;go_ret;exact ⟨rfl,rfl⟩
theorem zay(row:Option Nat)(H m n:Nat)(v v1 v2 v3:Value)(w:World)(hm:m<=1000000000)(hn:n<=100000000)(h0:AllX 5 1 (xfB m) row H w v n)(h1:AllX 5 1 (xfB m) row H w v1 (n+1))(h2:AllX 5 1 (xfB m) row H w v2 (n+2))(h3:AllX 5 1 (xfB m) row H w v3 (n+64))(hH:H<=w.heap.size):Cq 47 #[.agg #[v,v1,v2,v3,Iq m]] w (Tq true) fun w'=>Bq w w':=by
 have HH:=qH4 h0 h1 h2 h3;clear h0 h1 h2 h3;go_enter func47,ntmps47;go_wp2_with fail;refine (jd row H m n v _ hm zza (HH.out.1.alloc _ hH)).mono ?_;rintro e w1 ⟨rfl,rfl⟩;go_wp2_with fail;refine (jd row H m (n+1) v1 _ hm zza (HH.out.2.1.alloc _ hH)).mono ?_;rintro e w1 ⟨rfl,rfl⟩;go_wp2_with fail;refine (jd row H m (n+2) v2 _ hm zza (HH.out.2.2.1.alloc _ hH)).mono ?_;rintro e w1 ⟨rfl,rfl⟩;go_wp2_with fail;refine (jd row H m (n+64) v3 _ hm zza (HH.out.2.2.2.alloc _ hH)).mono ?_;rintro e w1 ⟨rfl,rfl⟩;go_wp2;go_ret;exact ⟨rfl,qBa⟩
theorem vn(row:Option Nat)(H m n:Nat)(v:Value)(w:World)(hm:m<=1000000000)(hn:n<=1000000000)(h:AllX 152 3 (xfP m) row H w v n):Cq 78 #[v,Iq m] w (Tq true) fun w'=>w'=w:=by
 obtain ⟨a,cap,rfl,HC⟩:∃a cap,v=.slice a n cap/\Hid (∀k,k<n->∃g,a=some (Aq g 0)/\∀i,i<n*3->w.cell? (Aq g i)=some (xfP m (i%3))):=by
  rcases h with ⟨rfl,rfl⟩|⟨g,cap,rfl,_,_,_,hc⟩
  ·exact ⟨_,_,rfl,fun k hk=>absurd hk (Nat.not_lt_zero _)⟩
  ·exact ⟨_,_,rfl,fun _ _=>⟨g,rfl,hc⟩⟩
 clear h;go_enter func78,ntmps78;go_wp2;go_loop [5] (fun i=> ∃k:Nat,k<=n/\i=Iq k) (fun i=>n-(intOf i).toNat);case atStart=>exact ⟨0,Nat.zero_le _,rfl⟩
 case round=>
  obtain ⟨k,hk,rfl⟩:=hrel;by_cases hlt:k<n
  ·obtain ⟨g,rfl,hc⟩:=HC.out k hlt;have c0:w.cell? ⟨g,k*3,none⟩=some (Iq (-1000-(m:Int))):=by rw [hc (k*3) zza,show k*3%3=0 from by omega];rfl
   have c1:w.cell? ⟨g,k*3+1,none⟩=some (Zq ⟨#[]⟩):=by rw [hc (k*3+1) zza,show (k*3+1)%3=1 from by omega];rfl
   have c2:w.cell? ⟨g,k*3+2,none⟩=some (Tq false):=by rw [hc (k*3+2) zza,show (k*3+2)%3=2 from by omega];rfl
   exact zqo
  ·go_wp2;go_ret;exact ⟨rfl,rfl⟩
theorem zaa(row:Option Nat)(H m n:Nat)(v v1 v2 v3:Value)(w:World)(hm:m<=1000000000)(hn:n<=100000000)(h0:AllX 152 3 (xfP m) row H w v n)(h1:AllX 152 3 (xfP m) row H w v1 (n+1))(h2:AllX 152 3 (xfP m) row H w v2 (n+2))(h3:AllX 152 3 (xfP m) row H w v3 (n+64))(hH:H<=w.heap.size):Cq 48 #[.agg #[v,v1,v2,v3,Iq m]] w (Tq true) fun w'=>Bq w w':=by
 have HH:=qH4 h0 h1 h2 h3;clear h0 h1 h2 h3;go_enter func48,ntmps48;go_wp2_with fail;refine (vn row H m n v _ hm zza (HH.out.1.alloc _ hH)).mono ?_;rintro e w1 ⟨rfl,rfl⟩;go_wp2_with fail;refine (vn row H m (n+1) v1 _ hm zza (HH.out.2.1.alloc _ hH)).mono ?_;rintro e w1 ⟨rfl,rfl⟩;go_wp2_with fail;refine (vn row H m (n+2) v2 _ hm zza (HH.out.2.2.1.alloc _ hH)).mono ?_;rintro e w1 ⟨rfl,rfl⟩;go_wp2_with fail;refine (vn row H m (n+64) v3 _ hm zza (HH.out.2.2.2.alloc _ hH)).mono ?_;rintro e w1 ⟨rfl,rfl⟩;go_wp2;go_ret;exact ⟨rfl,qBa⟩
theorem UO(m n:Nat)(v:Value)(X:Nat->Prop)(w:World)(hm:m<=1000000000)(hn:n<=100000000)(hv:Out 5 1 w X v n):Calls prog 99 #[v,Iq m] w fun e w'=> ∃v1 v2 v3,e=.returned (.agg #[v,v1,v2,v3,Iq m])/\w.grownBy w' v.ownBlock/\
   AllX 5 1 (xfB m) v.ownBlock w.heap.size w' v n/\AllX 5 1 (xfB m) v.ownBlock w.heap.size w' v1 (n+1)/\AllX 5 1 (xfB m) v.ownBlock w.heap.size w' v2 (n+2)/\AllX 5 1 (xfB m) v.ownBlock w.heap.size w' v3 (n+64):=by
 obtain ⟨r,h251,hb1,HR0⟩:∃r:Nat,(m:Int)%251=(r:Int)/\(r:Int)<256/\Hid (m%251=r):=⟨m%251,by omega,by omega,rfl⟩
 obtain ⟨i0,hi,hz0,hz1,hz2⟩:=info_parts xP;obtain ⟨a,cap,rfl,hr,hM⟩:=Mk.first (xf:=xfB m) hv;clear hv;have HR:=zol hr;have HW:Hid (Bq w (w.alloc (.cells #[Nq,Nq,Nq,Nq,Iq 0] 139))/\(w.alloc (.cells #[Nq,Nq,Nq,Nq,Iq 0] 139)).heap[w.heap.size]?=some (.cells #[Nq,Nq,Nq,Nq,Iq 0] 139 (0,0))):=⟨qBa,heap_alloc_new w _⟩;have HO:Hid (Mk 5 1 (xfB m) a n cap 0 (w.alloc (.cells #[Nq,Nq,Nq,Nq,Iq 0] 139))/\Ow 5 1 (xfB m) (Value.slice a n cap).ownBlock (w.heap.size+1) (w.alloc (.cells #[Nq,Nq,Nq,Nq,Iq 0] 139)) [] (w.alloc (.cells #[Nq,Nq,Nq,Nq,Iq 0] 139))):=⟨hM _ HW.out.1,XExt.refl _,by simp,fun p hp=>by cases hp⟩;clear hM hr;go_enter func99,ntmps99;go_wp2;go_loopw [6] (fun i wr=> ∃k:Nat,k<=n/\i=Iq k/\Mk 5 1 (xfB m) a n cap (k*1) wr/\Ow 5 1 (xfB m) (Value.slice a n cap).ownBlock (w.heap.size+1) (w.alloc (.cells #[Nq,Nq,Nq,Nq,Iq 0] 139)) [] wr) (fun i _=>n-(intOf i).toNat);case atStart=>exact ⟨0,Nat.zero_le _,rfl,by rw [Nat.zero_mul];exact HO.out.1,HO.out.2⟩
 case round=>
  obtain ⟨k,hk,rfl,p0,p1⟩:=hrel;have HP:=qH2 p0 p1;clear HO p1;by_cases hltn:k<n
  ·rcases p0 with ⟨_,z,_⟩|⟨g,rfl,hnc,hrow,_⟩
   ·omega
   ·obtain ⟨uu,hcu⟩:=hrow.there k zza;have hfu:=hrow.free k;have HN:=zol (HP.out.1.next HP.out.2 (u:=Uq (r:Int)) zza (by rw [xfB,HR0.out]));rw [Nat.mul_one] at HN;clear HP hrow;go_wp2;go_roundw;case rel=>exact ⟨k+1,by omega,by go_num,by rw [Nat.mul_one];exact HN.out.1,HN.out.2⟩
    case measure=>simp [intOf];omega
  have HA:=zol (show Ow 5 1 (xfB m) (Value.slice a n cap).ownBlock (w.heap.size+1) (w.alloc (.cells #[Nq,Nq,Nq,Nq,Iq 0] 139)) [(.slice a n cap,n)] wr from ⟨HP.out.2.x,HP.out.2.h,fun p hp=>by obtain rfl:=List.mem_singleton.1 hp;obtain rfl:k=n:=zza;exact HP.out.1.all⟩);clear HP p0;go_wp2_with (first|(at_builtin;(refine xg (xf:=xfB m) (row:=(Value.slice a n cap).ownBlock) (H:=w.heap.size+1) _ rfl (.tmp 24) (.tmp 26) 35 rfl i0 (Uq 0) 1 zx hi hz0 hz1 hz2 rfl zzb (.slice a n cap) n rfl (by exact HA.out.at _ (List.mem_singleton.2 rfl)) (Aq _ 0) 1 1 [Uq (r:Int)] rfl rfl (ye _ _ _) (xa _) (XU HR0.out) zzb zze zza (by have:=HA.out.h;simp;omega) ?_;intro v1 w1 hA1 hX1;have HA1:=zol (HA.out.push hA1 hX1);clear hA1 hX1))|(at_builtin;(refine xg (xf:=xfB m) (row:=(Value.slice a n cap).ownBlock) (H:=w.heap.size+1) _ rfl (.tmp 28) (.tmp 31) 35 rfl i0 (Uq 0) 1 zx hi hz0 hz1 hz2 rfl zzb (.slice a n cap) n rfl ?_ (Aq _ 0) 2 2 [Uq (r:Int),Uq (r:Int)] rfl rfl (Yl _ _ _ _) (XP _ _) (zbq HR0.out) zzb zze zza ?_ ?_;exact HA1.out.at (p:=(.slice a n cap,n)) _ zzc;(have:=HA1.out.h;simp;omega);intro v2 w2 hA2 hX2;have HA2:=zol (HA1.out.push hA2 hX2);clear hA2 hX2 HA1)));clear HA;go_loopw [9,10] (fun v3 j wq=> ∃k:Nat,k<=64/\j=Iq k/\Ow 5 1 (xfB m) (Value.slice a n cap).ownBlock (w.heap.size+1) (w.alloc (.cells #[Nq,Nq,Nq,Nq,Iq 0] 139)) [(v3,n+k),(v2,n+2),(v1,n+1),(.slice a n cap,n)] wq) (fun _ j _=>64-(intOf j).toNat)
  case atStart=>exact ⟨0,by omega,rfl,HA2.out.sub zzc⟩
  case round=>
   clear HA2;obtain ⟨k,hk,rfl,q0⟩:=hrel;have HQ:=zol q0;clear q0;by_cases hlt:k<64
   ·go_wp2_with (first|(at_builtin;go_must (refine xg (xf:=xfB m) (row:=(Value.slice a n cap).ownBlock) (H:=w.heap.size+1) _ rfl (.tmp 38) (.tmp 40) 35 rfl i0 (Uq 0) 1 zx hi hz0 hz1 hz2 rfl zzb u9 (n+k) rfl (by exact HQ.out.at (p:=(u9,n+k)) _ zzc) (Aq _ 0) 1 1 [Uq (r:Int)] rfl rfl (ye _ _ _) (xa _) (XU HR0.out) zzb zze zza (by have:=HQ.out.h;simp;omega) ?_;intro v4 w4 hA4 hX4;have HQ4:=zol (HQ.out.push hA4 hX4);clear hA4 hX4 HQ)));go_roundw;case rel=>exact ⟨k+1,by omega,by go_num,HQ4.out.sub (by simp;exact .inl zza)⟩
    case measure=>simp [intOf];omega
   ·obtain rfl:k=64:=by omega
    obtain ⟨c0,f0⟩:=HQ.out.cells HR.out.1 zza HW.out.2;have d0:=c0 0;have d1:=c0 1;have d2:=c0 2;have d3:=c0 3;have d4:=c0 4;have g0:=f0 0;have g1:=f0 1;have g2:=f0 2;have g3:=f0 3;have g4:=f0 4;simp only [List.getElem?_toArray,List.getElem?_cons_zero,List.getElem?_cons_succ] at d0 d1 d2 d3 d4;clear f0 c0;obtain ⟨ga,ca,rfl⟩:=xL (n:=n+1) (HQ.out.a (v1,n+1) zzc) zza;obtain ⟨gb,cb,rfl⟩:=xL (n:=n+2) (HQ.out.a (v2,n+2) zzc) zza;obtain ⟨gc,cc,rfl⟩:=xL (n:=n+64) (HQ.out.a (u9,n+64) zzc) zza;go_wp2;obtain ⟨R1,R2⟩:=HQ.out.done HR.out.1 zza HW.out.1 (.slice a n cap) (Sq ga (n+1) ca) (Sq gb (n+2) cb) (Sq gc (n+64) cc) (Iq m);exact bodyPost_ret (v:=.agg #[.slice a n cap,Sq ga (n+1) ca,Sq gb (n+2) cb,Sq gc (n+64) cc,Iq m]) (by simp [results,results99,go_sem,d0,d1,d2,d3,d4]) rfl ⟨_,_,_,rfl,R1,R2 (_,n) zzc,R2 (_,n+1) zzc,R2 (_,n+2) zzc,R2 (_,n+64) zzc⟩
theorem zow(m n:Nat)(v:Value)(X:Nat->Prop)(w:World)(hm:m<=1000000000)(hn:n<=100000000)(hv:Out 152 3 w X v n):Calls prog 101 #[v,Iq m] w fun e w'=> ∃v1 v2 v3,e=.returned (.agg #[v,v1,v2,v3,Iq m])/\w.grownBy w' v.ownBlock/\
   AllX 152 3 (xfP m) v.ownBlock w.heap.size w' v n/\AllX 152 3 (xfP m) v.ownBlock w.heap.size w' v1 (n+1)/\AllX 152 3 (xfP m) v.ownBlock w.heap.size w' v2 (n+2)/\AllX 152 3 (xfP m) v.ownBlock w.heap.size w' v3 (n+64):=by
 obtain ⟨i0,hi,hz0,hz1,hz2⟩:=info_parts zdU;obtain ⟨a,cap,rfl,hr,hM⟩:=Mk.first (xf:=xfP m) hv;clear hv;have HR:=zol hr;have HW:Hid (Bq w ((w.alloc (.cells #[Nq,Nq,Nq,Nq,Iq 0] 142)).alloc (.cells #[Iq (-1000-(m:Int)),Zq ⟨#[]⟩,Tq false] 152))/\((w.alloc (.cells #[Nq,Nq,Nq,Nq,Iq 0] 142)).alloc (.cells #[Iq (-1000-(m:Int)),Zq ⟨#[]⟩,Tq false] 152)).heap[w.heap.size]?=some (.cells #[Nq,Nq,Nq,Nq,Iq 0] 142 (0,0))/\((w.alloc (.cells #[Nq,Nq,Nq,Nq,Iq 0] 142)).alloc (.cells #[Iq (-1000-(m:Int)),Zq ⟨#[]⟩,Tq false] 152)).heap[w.heap.size+1]?=some (.cells #[Iq (-1000-(m:Int)),Zq ⟨#[]⟩,Tq false] 152 (0,0))):=⟨qBa.alloc zzc _,(Below.heap_alloc _ _ _ zzc).trans (heap_alloc_new w _),by have:=heap_alloc_new (w.alloc (.cells #[Nq,Nq,Nq,Nq,Iq 0] 142)) (.cells #[Iq (-1000-(m:Int)),Zq ⟨#[]⟩,Tq false] 152);rw [World.size_alloc] at this;exact this⟩;have HO:Hid (Mk 152 3 (xfP m) a n cap 0 ((w.alloc (.cells #[Nq,Nq,Nq,Nq,Iq 0] 142)).alloc (.cells #[Iq (-1000-(m:Int)),Zq ⟨#[]⟩,Tq false] 152))/\Ow 152 3 (xfP m) (Value.slice a n cap).ownBlock (w.heap.size+2) ((w.alloc (.cells #[Nq,Nq,Nq,Nq,Iq 0] 142)).alloc (.cells #[Iq (-1000-(m:Int)),Zq ⟨#[]⟩,Tq false] 152)) [] ((w.alloc (.cells #[Nq,Nq,Nq,Nq,Iq 0] 142)).alloc (.cells #[Iq (-1000-(m:Int)),Zq ⟨#[]⟩,Tq false] 152))):=⟨hM _ HW.out.1,XExt.refl _,by simp,fun p hp=>by cases hp⟩
 clear hM hr;go_enter func101,ntmps101;go_wp2;go_loopw [6] (fun i wr=> ∃k:Nat,k<=n/\i=Iq k/\Mk 152 3 (xfP m) a n cap (k*3) wr/\Ow 152 3 (xfP m) (Value.slice a n cap).ownBlock (w.heap.size+2) ((w.alloc (.cells #[Nq,Nq,Nq,Nq,Iq 0] 142)).alloc (.cells #[Iq (-1000-(m:Int)),Zq ⟨#[]⟩,Tq false] 152)) [] wr) (fun i _=>n-(intOf i).toNat);case atStart=>exact ⟨0,Nat.zero_le _,rfl,by rw [Nat.zero_mul];exact HO.out.1,HO.out.2⟩
 case round=>
  obtain ⟨k,hk,rfl,p0,p1⟩:=hrel;have HP:=qH2 p0 p1;clear HO p1;obtain ⟨y0,y1,y2⟩:wr.cell? ⟨w.heap.size+1,0,none⟩=some (Iq (-1000-(m:Int)))/\wr.cell? ⟨w.heap.size+1,1,none⟩=some (Zq ⟨#[]⟩)/\wr.cell? ⟨w.heap.size+1,2,none⟩=some (Tq false):=⟨(HP.out.2.cells HR.out.2 zza HW.out.2.2).1 0,(HP.out.2.cells HR.out.2 zza HW.out.2.2).1 1,(HP.out.2.cells HR.out.2 zza HW.out.2.2).1 2⟩;by_cases hltn:k<n
  ·rcases p0 with ⟨_,z,_⟩|⟨g,rfl,hnc,hrow,_⟩
   ·omega
   ·obtain ⟨ua,hca⟩:=hrow.there (k*3) zza;obtain ⟨ub,hcb⟩:=hrow.there (k*3+1) zza;obtain ⟨uc,hcc⟩:=hrow.there (k*3+2) zza;have hfa:=hrow.free (k*3);have hfb:=hrow.free (k*3+1);have hfc:=hrow.free (k*3+2);have HN:=zol (by
     obtain ⟨z1,z2⟩:=HP.out.1.next HP.out.2 (u:=Iq (-1000-(m:Int))) zza (by rw [show k*3%3=0 from by omega];rfl);obtain ⟨z3,z4⟩:=z1.next z2 (u:=Zq ⟨#[]⟩) zza (by rw [show (k*3+1)%3=1 from by omega];rfl);exact z3.next z4 (u:=Tq false) zza (by rw [show (k*3+2)%3=2 from by omega];rfl))
    clear HP hrow;go_wp2;go_roundw;case rel=>exact ⟨k+1,by omega,by go_num,by rw [show (k+1)*3=k*3+2+1 from by omega];exact HN.out.1,HN.out.2⟩
    case measure=>simp [intOf];omega
  have HA:=zol (show Ow 152 3 (xfP m) (Value.slice a n cap).ownBlock (w.heap.size+2) ((w.alloc (.cells #[Nq,Nq,Nq,Nq,Iq 0] 142)).alloc (.cells #[Iq (-1000-(m:Int)),Zq ⟨#[]⟩,Tq false] 152)) [(.slice a n cap,n)] wr from ⟨HP.out.2.x,HP.out.2.h,fun p hp=>by obtain rfl:=List.mem_singleton.1 hp;obtain rfl:k=n:=zza;exact HP.out.1.all⟩);clear HP p0;go_wp2_with (first|(at_builtin;(refine xg (xf:=xfP m) (row:=(Value.slice a n cap).ownBlock) (H:=w.heap.size+2) _ rfl (.tmp 24) (.tmp 26) 140 rfl i0 _ 32 zbb hi hz0 hz1 hz2 rfl zzb (.slice a n cap) n rfl (by exact HA.out.at _ (List.mem_singleton.2 rfl)) (Aq _ 0) 1 1 [Iq (-1000-(m:Int)),Zq ⟨#[]⟩,Tq false] rfl rfl (zpr _ _ _) (zp2 _) (zo8 m) zzb zze zza (by have:=HA.out.h;simp;omega) ?_;intro v1 w1 hA1 hX1;have HA1:=zol (HA.out.push hA1 hX1);clear hA1 hX1;obtain ⟨z0,z1,z2⟩:w1.cell? ⟨w.heap.size+1,0,none⟩=some (Iq (-1000-(m:Int)))/\w1.cell? ⟨w.heap.size+1,1,none⟩=some (Zq ⟨#[]⟩)/\w1.cell? ⟨w.heap.size+1,2,none⟩=some (Tq false):=⟨(HA1.out.cells HR.out.2 zza HW.out.2.2).1 0,(HA1.out.cells HR.out.2 zza HW.out.2.2).1 1,(HA1.out.cells HR.out.2 zza HW.out.2.2).1 2⟩))|(at_builtin;(refine xg (xf:=xfP m) (row:=(Value.slice a n cap).ownBlock) (H:=w.heap.size+2) _ rfl (.tmp 28) (.tmp 31) 140 rfl i0 _ 32 zbb hi hz0 hz1 hz2 rfl zzb (.slice a n cap) n rfl ?_ (Aq _ 0) 2 2 [Iq (-1000-(m:Int)),Zq ⟨#[]⟩,Tq false,Iq (-1000-(m:Int)),Zq ⟨#[]⟩,Tq false] rfl rfl (zqi _ _ _) (zqn _) (zpD m) zzb zze zza ?_ ?_;exact HA1.out.at (p:=(.slice a n cap,n)) _ zzc;(have:=HA1.out.h;simp;omega);intro v2 w2 hA2 hX2;have HA2:=zol (HA1.out.push hA2 hX2);clear hA2 hX2 HA1)))
  clear HA;go_loopw [9,10] (fun v3 j wq=> ∃k:Nat,k<=64/\j=Iq k/\Ow 152 3 (xfP m) (Value.slice a n cap).ownBlock (w.heap.size+2) ((w.alloc (.cells #[Nq,Nq,Nq,Nq,Iq 0] 142)).alloc (.cells #[Iq (-1000-(m:Int)),Zq ⟨#[]⟩,Tq false] 152)) [(v3,n+k),(v2,n+2),(v1,n+1),(.slice a n cap,n)] wq) (fun _ j _=>64-(intOf j).toNat);case atStart=>exact ⟨0,by omega,rfl,HA2.out.sub zzc⟩
  case round=>
   clear HA2;obtain ⟨k,hk,rfl,q0⟩:=hrel;have HQ:=zol q0;clear q0;by_cases hlt:k<64
   ·obtain ⟨z0,z1,z2⟩:wr.cell? ⟨w.heap.size+1,0,none⟩=some (Iq (-1000-(m:Int)))/\wr.cell? ⟨w.heap.size+1,1,none⟩=some (Zq ⟨#[]⟩)/\wr.cell? ⟨w.heap.size+1,2,none⟩=some (Tq false):=⟨(HQ.out.cells HR.out.2 zza HW.out.2.2).1 0,(HQ.out.cells HR.out.2 zza HW.out.2.2).1 1,(HQ.out.cells HR.out.2 zza HW.out.2.2).1 2⟩;go_wp2_with (first|(at_builtin;go_must (refine xg (xf:=xfP m) (row:=(Value.slice a n cap).ownBlock) (H:=w.heap.size+2) _ rfl (.tmp 38) (.tmp 40) 140 rfl i0 _ 32 zbb hi hz0 hz1 hz2 rfl zzb u9 (n+k) rfl (by exact HQ.out.at (p:=(u9,n+k)) _ zzc) (Aq _ 0) 1 1 [Iq (-1000-(m:Int)),Zq ⟨#[]⟩,Tq false] rfl rfl (zpr _ _ _) (zp2 _) (zo8 m) zzb zze zza (by have:=HQ.out.h;simp;omega) ?_;intro v4 w4 hA4 hX4;have HQ4:=zol (HQ.out.push hA4 hX4);clear hA4 hX4 HQ)));go_roundw;case rel=>exact ⟨k+1,by omega,by go_num,HQ4.out.sub (by simp;exact .inl zza)⟩
    case measure=>simp [intOf];omega
   ·obtain rfl:k=64:=by omega
    obtain ⟨c0,f0⟩:=HQ.out.cells HR.out.1 zza HW.out.2.1;have d0:=c0 0;have d1:=c0 1;have d2:=c0 2;have d3:=c0 3;have d4:=c0 4;have g0:=f0 0;have g1:=f0 1;have g2:=f0 2;have g3:=f0 3;have g4:=f0 4;simp only [List.getElem?_toArray,List.getElem?_cons_zero,List.getElem?_cons_succ] at d0 d1 d2 d3 d4;clear f0 c0;obtain ⟨ga,ca,rfl⟩:=xL (n:=n+1) (HQ.out.a (v1,n+1) zzc) zza;obtain ⟨gb,cb,rfl⟩:=xL (n:=n+2) (HQ.out.a (v2,n+2) zzc) zza;obtain ⟨gc,cc,rfl⟩:=xL (n:=n+64) (HQ.out.a (u9,n+64) zzc) zza;go_wp2;obtain ⟨R1,R2⟩:=HQ.out.done HR.out.1 zza HW.out.1 (.slice a n cap) (Sq ga (n+1) ca) (Sq gb (n+2) cb) (Sq gc (n+64) cc) (Iq m);exact bodyPost_ret (v:=.agg #[.slice a n cap,Sq ga (n+1) ca,Sq gb (n+2) cb,Sq gc (n+64) cc,Iq m]) (by simp [results,results101,go_sem,d0,d1,d2,d3,d4]) rfl ⟨_,_,_,rfl,R1,R2 (_,n) zzc,R2 (_,n+1) zzc,R2 (_,n+2) zzc,R2 (_,n+64) zzc⟩
