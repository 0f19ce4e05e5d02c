import Derived.Test.YtcgjliflnnklnaaGreatJ26
import Derived.Test.YtcgjliflnnklnaaGreatJ25
import Derived.Test.YtcgjliflnnklnaaGreatJ18
import Derived.Test.YtcgjliflnnklnaaGreatJ24
namespace Go.Proofs.YtcgjliflnnklnaaGreat
open Go.RowKit Tryz
set_option maxRecDepth 100000
set_option maxHeartbeats 20000000
section
variable {w:World} {base:Nat} {tag:Nat->Nat} {f:DF} {S:SB} {N:Int}
theorem DS.still(h:DS w base tag f S){w':World}(hw:Below w.heap.size w w'):Dn tag w base f.Q S w':=⟨tag,f,rfl,h.below hw,Chg.below tag hw⟩
theorem zdc(h:DS w base tag f S)(hs:Sat S N)(hN:N<3000000000000000000)(hb:base<=w.heap.size)(b:List UInt8)(hc:b=[] \/b=[103] \/b=[113]):Calls prog 102 #[.pointer (some ⟨f.Q,0,none⟩),.string ⟨b.toArray⟩] w fun e w'=>e=.returned (.string ⟨(S.doI b).2.toArray⟩)/\Dn tag w base f.Q (S.doI b).1 w':=by
 have HD:=hid h;have hc0:=hs.cycs;have RG:=zld h hs.rn hc0.1 zza;have RD:=zkM h hs.rc.1 hs.rc.2 hb;have E1:Hid (S.doI [103]=(S,xF S.pc)):=rfl;have E2:Hid (S.doI [113]=S.takeRecs):=rfl;clear h hs hc0;rcases hc with rfl|rfl|rfl
 ·go_enter func102,ntmps102
  go_wp2;go_ret;exact ⟨rfl,HD.out.still (Below.refl _ _)⟩
 ·rw [E1.out];generalize xF S.pc=t at*;go_enter func102,ntmps102
  go_wp2_with (first|(go_at_call 161;refine RG.mono ?_;rintro e w1 ⟨rfl,hw1⟩;have HM:=hid (HD.out.still hw1);clear hw1));go_ret;exact ⟨rfl,HM.out⟩
 ·rw [E2.out];generalize S.takeRecs=t at*;go_enter func102,ntmps102
  go_wp2_with (first|(go_at_call 162;refine RD.mono ?_;rintro e w1 ⟨rfl,hw1⟩;have HM:=hid hw1;clear hw1));go_ret;exact ⟨rfl,HM.out⟩
theorem zod(h:DS w base tag f S)(hi:S.pc.betw=true->S.pa=[])(hs:Sat S N)(hb:base<=w.heap.size)(r:List UInt8)(hr:r.length<=200):Calls prog 102 #[.pointer (some ⟨f.Q,0,none⟩),.string ⟨(119::r).toArray⟩] w fun e w'=>e=.returned (.string ⟨(S.doI (119::r)).2.toArray⟩)/\Dn tag w base f.Q (S.doI (119::r)).1 w':=by
 rw [zm1];have RP:=zlT h hi hs.pa.2 r hr hb;have F1:=ZF 119 r;have T1:=qg 119 r;generalize S.patchI r=t at*;clear h hi hs;go_enter func102,ntmps102
 go_wp2_with (first|(go_at_call 163;refine RP.mono ?_;rintro e w1 ⟨rfl,hw1⟩;have HM:=hid hw1;clear hw1));go_ret;exact ⟨rfl,HM.out⟩
theorem zf2(h:DS w base tag f S)(c:UInt8)(r:List UInt8)(hr:r.length<=200)(hw:c≠119)(h1:c::r≠ [103])(h2:c::r≠ [113])(hz:sizeC c=0\/r.length≠sizeC c):Calls prog 102 #[.pointer (some ⟨f.Q,0,none⟩),.string ⟨(c::r).toArray⟩] w fun e w'=>e=.returned (.string ⟨(S.doI (c::r)).2.toArray⟩)/\Dn tag w base f.Q (S.doI (c::r)).1 w':=by
 have HD:=hid h;rw [zeB hw h1 h2 (by rcases hz with z|z;exact .inr (.inl z);exact .inl z)];have F1:=ZF c r;have T1:=qg c r;have X1:=fun w=>zeA r w zza
 have q1:(c::r==[103])=false:=by simpa using h1
 have q2:(c::r==[113])=false:=by simpa using h2
 clear h h1 h2;by_cases hc:c=109\/c=98\/c=100\/c=118\/c=120\/c=115\/c=105\/c=116\/c=112
 ·rcases hc with hc|hc|hc|hc|hc|hc|hc|hc|hc
  all_goals
   first|(have e0:([c]==[119])=true:=by rw [hc];rfl)|(have e0:([c]==[119])=false:=by rw [hc];rfl)
   first|(have e1:([c]==[109])=true:=by rw [hc];rfl)|(have e1:([c]==[109])=false:=by rw [hc];rfl)
   first|(have e2:([c]==[98])=true:=by rw [hc];rfl)|(have e2:([c]==[98])=false:=by rw [hc];rfl)
   first|(have e3:([c]==[100])=true:=by rw [hc];rfl)|(have e3:([c]==[100])=false:=by rw [hc];rfl)
   first|(have e4:([c]==[118])=true:=by rw [hc];rfl)|(have e4:([c]==[118])=false:=by rw [hc];rfl)
   first|(have e5:([c]==[120])=true:=by rw [hc];rfl)|(have e5:([c]==[120])=false:=by rw [hc];rfl)
   first|(have e6:([c]==[115])=true:=by rw [hc];rfl)|(have e6:([c]==[115])=false:=by rw [hc];rfl)
   first|(have e7:([c]==[105])=true:=by rw [hc];rfl)|(have e7:([c]==[105])=false:=by rw [hc];rfl)
   first|(have e8:([c]==[116])=true:=by rw [hc];rfl)|(have e8:([c]==[116])=false:=by rw [hc];rfl)
   first|(have e9:([c]==[112])=true:=by rw [hc];rfl)|(have e9:([c]==[112])=false:=by rw [hc];rfl)
   rw [hc] at hz;have hz:=hz.resolve_left zzb;have hzi:¬(r.length:Int)=((sizeC _:Nat):Int):=fun q=>hz (Int.ofNat.inj q)
   simp [sizeC] at hz hzi;clear hc hw;go_enter func102,ntmps102
   go_wp2_with (first|(go_at_call 159;refine (X1 _).mono ?_;rintro e w1 ⟨⟨z,rfl⟩,hw1⟩;subst w1));go_ret;exact ⟨rfl,HD.out.still (Below.refl _ _)⟩
 ·simp only [not_or] at hc;obtain ⟨c1,c2,c3,c4,c5,c6,c7,c8,c9⟩:=hc;have g:∀x:UInt8,c≠x->([c]==[x])=false:=fun x hx=>by simpa using hx
  have e0:=g _ hw;have e1:=g _ c1;have e2:=g _ c2;have e3:=g _ c3;have e4:=g _ c4;have e5:=g _ c5;have e6:=g _ c6;have e7:=g _ c7;have e8:=g _ c8;have e9:=g _ c9;clear hz g hw c1 c2 c3 c4 c5 c6 c7 c8 c9;go_enter func102,ntmps102
  go_wp2_with (first|(go_at_call 159;refine (X1 _).mono ?_;rintro e w1 ⟨⟨z,rfl⟩,hw1⟩;subst w1));go_ret;exact ⟨rfl,HD.out.still (Below.refl _ _)⟩
theorem zju(h:DS w base tag f S)(c:UInt8)(r:List UInt8)(hl:r.length=sizeC c)(hb:yJ r<0\/(c=116/\1<yJ r)\/(c=112/\3<yJ r))(hc:c=109\/c=98\/c=100\/c=118\/c=120\/c=115\/c=105\/c=116\/c=112):Calls prog 102 #[.pointer (some ⟨f.Q,0,none⟩),.string ⟨(c::r).toArray⟩] w fun e w'=>e=.returned (.string ⟨(S.doI (c::r)).2.toArray⟩)/\Dn tag w base f.Q (S.doI (c::r)).1 w':=by
 have HD:=hid h;have hn:∀x:UInt8,c::r≠ [x]:=fun x e=>by
  injection e with e1 e2;rw [e2] at hl;rcases hc with rfl|rfl|rfl|rfl|rfl|rfl|rfl|rfl|rfl<;>cases hl
 rw [zeB (by rcases hc with rfl|rfl|rfl|rfl|rfl|rfl|rfl|rfl|rfl<;>decide) (hn _) (hn _) (by rcases hb with z|z|z;exact .inr (.inr (.inl z));exact .inr (.inr (.inr (.inl z)));exact .inr (.inr (.inr (.inr z))))];have F1:=ZF c r;have T1:=qg c r;have X1:=fun w=>XY r w (by rcases hc with rfl|rfl|rfl|rfl|rfl|rfl|rfl|rfl|rfl<;>rw [hl]<;>decide)
 have q1:(c::r==[103])=false:=by simpa using hn 103
 have q2:(c::r==[113])=false:=by simpa using hn 113
 generalize yJ r=z at*;clear h hn;rcases hc with hc|hc|hc|hc|hc|hc|hc|hc|hc
 all_goals
  first|(have e0:([c]==[119])=true:=by rw [hc];rfl)|(have e0:([c]==[119])=false:=by rw [hc];rfl)
  first|(have e1:([c]==[109])=true:=by rw [hc];rfl)|(have e1:([c]==[109])=false:=by rw [hc];rfl)
  first|(have e2:([c]==[98])=true:=by rw [hc];rfl)|(have e2:([c]==[98])=false:=by rw [hc];rfl)
  first|(have e3:([c]==[100])=true:=by rw [hc];rfl)|(have e3:([c]==[100])=false:=by rw [hc];rfl)
  first|(have e4:([c]==[118])=true:=by rw [hc];rfl)|(have e4:([c]==[118])=false:=by rw [hc];rfl)
  first|(have e5:([c]==[120])=true:=by rw [hc];rfl)|(have e5:([c]==[120])=false:=by rw [hc];rfl)
  first|(have e6:([c]==[115])=true:=by rw [hc];rfl)|(have e6:([c]==[115])=false:=by rw [hc];rfl)
  first|(have e7:([c]==[105])=true:=by rw [hc];rfl)|(have e7:([c]==[105])=false:=by rw [hc];rfl)
  first|(have e8:([c]==[116])=true:=by rw [hc];rfl)|(have e8:([c]==[116])=false:=by rw [hc];rfl)
  first|(have e9:([c]==[112])=true:=by rw [hc];rfl)|(have e9:([c]==[112])=false:=by rw [hc];rfl)
  rw [hc] at hl;have hl2:(r.length:Int)=((sizeC _:Nat):Int):=congrArg Int.ofNat hl;simp [sizeC] at hl hl2;simp [hc] at hb
 iterate 7
  ·clear hc;go_enter func102,ntmps102
   go_wp2_with (first|(go_at_call 159;refine (X1 _).mono ?_;rintro e w1 ⟨rfl,hw1⟩;subst w1));go_ret;exact ⟨rfl,HD.out.still (Below.refl _ _)⟩
 all_goals
  clear hc;rcases hb with hb|hb
 all_goals
  try (have hb2:¬z<0:=by omega)
  go_enter func102,ntmps102
  go_wp2_with (first|(go_at_call 159;refine (X1 _).mono ?_;rintro e w1 ⟨rfl,hw1⟩;subst w1));go_ret;exact ⟨rfl,HD.out.still (Below.refl _ _)⟩
end
section
structure FdW (w0 w1:World) (B pg:Nat) (N:Int) (S:SB) (ps:List Pk) (W:World) (u:Value) (k:Nat) (q:PC):Prop where
 t:Tn B q w0 W
 v:SV (S.answers (ps.take k)).1 q
 i:SI (S.answers (ps.take k)).1 (N+1000000*k)
 r:(S.answers (ps.take k)).1.rp.length<=80
 z:w1.heap.size<=W.heap.size
 p:∀j,W.cell? ⟨pg,j,none⟩=w1.cell? ⟨pg,j,none⟩
 o:W.ownsRow w1.heap.size 5 1 u (S.answers (ps.take k)).2.length (zS (S.answers (ps.take k)).2)
 l:(S.answers (ps.take k)).2.length<=201*k
def zj6(B:Nat)(N:Int)(w0 w w':World)(R:SB × List UInt8)(n:Nat)(e:Ending):Prop:=
 ∃v s',e=.returned v/\w'.ownsRow w.heap.size 5 1 v R.2.length (zS R.2)/\Tn B s' w0 w'/\SV R.1 s'/\SI R.1 (N+1000000*n)/\R.1.rp.length<=80
theorem K8{w:World}{a b n:Nat}{v:Value}{xs:List Value}(h:w.ownsRow a 5 1 v n xs)(hb:b<=a):w.ownsRow b 5 1 v n xs:=by
 obtain ⟨h1,h2⟩:=h;refine ⟨h1,?_⟩;rcases h2 with h2|⟨g,cap,cur,e,h3,h4⟩
 ·exact .inl h2
 ·exact .inr ⟨g,cap,cur,e,Nat.le_trans hb h3,h4⟩
theorem zeR{B:Nat}{s:PC}{w0 w:World}{S:SB}{N:Int}(h:Tn B s w0 w)(hS:SV S s)(hI:SI S N)(hN0:0<=N)(hN:N<=2000000000000000000)(hrp:S.rp.length<=80)(bb off cap:Nat)(l:List UInt8)(hl:l.length<=4000000)(hB:zy w bb off l)(hne:bb≠B):Calls prog 40 #[.pointer (some ⟨B,0,none⟩),.slice (some ⟨bb,off,none⟩) l.length cap] w fun e w'=>zj6 B N w0 w w' (S.feed l) (zR S.sc l).length e:=by
 obtain ⟨i0,hi,hz0,hz1,hz2⟩:=info_parts xP;have hlt:=h.c.lt;have hsz:=h.g.size;have hpl:=jX l S.sc;have hpb:=ZZ l S.sc;have SF:=jO B bb off cap S.sc l w (hS.scs h) zza hB hne zza;unfold SB.feed;have HT:=hid h;have HS:=hid hS;have HI0:=hid hI;have HRP:=hid hrp;clear hB;generalize zR S.sc l=ps at*;generalize yA S.sc l=c1 at*;have HPB:=hid hpb;have HI1:Hid (SI {S with sc:=c1} N):=HI0.out.like rfl rfl;have hr1:({S with sc:=c1}:SB).rp.length<=80:=HRP.out;have SCN:=fun {w1:World} {v:Value} (F:FedS (fun o=>w.cell? ⟨B,o,none⟩) B w w1 v c1 ps)=>scanned HT.out HS.out F
 generalize ({S with sc:=c1}:SB)=S1 at*;go_enter func40,ntmps40;go_wp2_with fail;refine SF.mono ?_;rintro e w1 ⟨v,rfl,F1⟩;obtain ⟨s1,T1,V1⟩:=SCN F1;clear SCN;have hs1:=F1.grown.size;have HV1:=hid V1;have HT1:=hid T1;by_cases hps:ps=[]
 ·subst hps;obtain rfl:=F1.nil rfl;clear F1 SF h hS hI V1 T1;go_wp2_with fail;go_loopw [5,14] (fun v i wr=>v=.slice none 0 0/\i=.int .i64 0/\wr=w1) (fun _ i _=>1);case atStart=>exact ⟨rfl,rfl,rfl⟩
  case round=>
   obtain ⟨rfl,rfl,rfl⟩:=hrel;go_wp2;go_ret;exact ⟨_,s1,rfl,World.ownsRow_nil _ _ _ _,HT1.out,HV1.out,HI1.out.mono zza,hr1⟩
 ·have hps1:ps.length≠0:=fun e=>hps (List.eq_nil_of_length_eq_zero e)
  obtain ⟨pg,pcap,rfl⟩:∃g cap,v=.slice (some ⟨g,0,none⟩) ps.length cap:=by
   rcases F1.own.2 with ⟨-,e⟩|⟨g,cap,cur,e, -⟩
   ·exact absurd e hps1
   ·exact ⟨g,cap,e⟩
  have HPC:Hid (∀k j,(hk:k<ps.length)->j<3->w1.cell? ⟨pg,k*3+j,none⟩=(ps[k].cells)[j]?):=fun k j hk hj=>(F1.own.cellAt (k*3+j) zza).trans (Qx _ k j hk hj)
  have hpg:=F1.own.lt pg rfl;have npg:pg≠B:=by omega
  have hpg2:pg<w1.heap.size:=hpg.2;clear F1 SF h hS hI V1 T1;have HW0:Hid (FdW w0 w1 B pg N S1 ps w1 (.slice none 0 0) 0 s1):=⟨HT1.out,HV1.out,HI1.out.mono zza,hr1,Nat.le_refl _,fun j=>rfl,World.ownsRow_nil _ _ _ _,by simp [SB.answers]⟩;have hpn:ps.length<=4000000:=by omega
  go_wp2_with fail;go_loopw [5,14] (fun v i wr=> ∃(k:Nat) (t:PC),k<=ps.length/\i=.int .i64 k/\FdW w0 w1 B pg N S1 ps wr v k t) (fun _ i _=>ps.length-(intOf i).toNat);case atStart=>exact ⟨0,s1,by omega,rfl,HW0.out⟩
  case round=>
   obtain ⟨k,t,hk,rfl,hW⟩:=hrel;by_cases hlt1:k<ps.length
   ·have q0:=(hW.p (k*3+0)).trans (HPC.out k 0 hlt1 zzb);have q1:=(hW.p (k*3+1)).trans (HPC.out k 1 hlt1 zzb);have q2:=(hW.p (k*3+2)).trans (HPC.out k 2 hlt1 zzb);have hbd:=HPB.out ps[k] (List.getElem_mem _);have HST:=hid (Yw S1 (ps.take k) ps[k]);rw [<-List.take_succ_eq_append_getElem hlt1] at HST;have AN:=fun {x w:World} (h:Tn B t x w)=>VY h hW.v hW.i zza zza ps[k] hbd hW.r
    have hal:=UG (S1.answers (ps.take k)).1 ps[k] hW.r;have har:=zam (S1.answers (ps.take k)).1 ps[k] hW.r;have HW:=hid hW;have htl:=hW.l;rw [Uj] at AN;generalize hPK:ps[k]=pk at*;obtain ⟨sq,bd,ba⟩:=pk;change wr.cell? ⟨pg,k*3,none⟩=some (.int .i64 (sq:Int)) at q0;change wr.cell? ⟨pg,k*3+1,none⟩=some (.string ⟨bd.toArray⟩) at q1;change wr.cell? ⟨pg,k*3+2,none⟩=some (.bool ba) at q2;generalize hA:(S1.answers (ps.take k)).1.ans ⟨sq,bd,ba⟩=A at*;obtain ⟨S2,L⟩:=A;generalize hT0:(S1.answers (ps.take k)).2=T0 at*;have ho:wr.ownsRow w1.heap.size 5 1 u5 T0.length (zS T0):=by have:=hW.o;rwa [hT0] at this
    have HO:=hid ho;have hz:=hW.z;have HTk:=hid hW.t;have hkl:(k:Int)<(ps.length:Int):=by omega
    clear hW ho HW0 hA hT0 hPK;have hal:0<L.length/\L.length<=201:=hal;have HST:Hid (S1.answers (ps.take (k+1))=(S2,T0++L)):=HST;go_wp2_with fail;refine (AN (Tn.refl (HTk.out.alloc _).c)).mono ?_;rintro e w2 ⟨g2,cap2,s2,rfl,b2,l2,m2,T2,V2,I2⟩;have HT2:=hid ((HTk.out.alloc _).trans T2);have HV2:=hid V2;have HI2:=hid I2;have HB2:=hid b2;have HO2:=hid (KV (HO.out.alloc _) T2.g zza);have hzz:=T2.g.size;simp only [World.size_alloc] at hzz;have hpw:pg<wr.heap.size:=by omega
    have HP2:Hid (∀j,w2.cell? ⟨pg,j,none⟩=w1.cell? ⟨pg,j,none⟩):=fun j=>((kept T2).1 pg j npg zzd).trans ((World.cell?_of_block (a:=⟨pg,j,none⟩) (Below.heap_alloc _ _ _ hpw)).trans (HW.out.p j))
    have hl2:T0.length<=201*k:=htl;have hB1:B<w1.heap.size:=by omega
    have h01:w0.heap.size<=w1.heap.size:=by omega
    clear T2 V2 I2 b2 AN;go_wp2_with (first|(at_builtin;go_must (refine wpList_append_lies _ rfl (.tmp 18) (.tmp 21) 35 rfl w1.heap.size 5 i0 (.int .u8 0) 1 1 zx hi hz0 hz1 hz2 rfl zzb u5 T0.length (zS T0) rfl HO2.out ⟨g2,0,none⟩ L.length cap2 (zS L) rfl (by rw [yR];simp) (jt HB2.out) (Zo L) hal.1 zze zza zza _ rfl ?_;intro g' cap' w4 hown' hgrow hat hlt';have H4:Hid (w4.ownsRow w1.heap.size 5 1 (.slice (some ⟨g',0,none⟩) (T0.length+L.length) cap') (T0++L).length (zS (T0++L))/\Tn B s2 w0 w4/\w1.heap.size<=w4.heap.size/\∀j,w4.cell? ⟨pg,j,none⟩=w1.cell? ⟨pg,j,none⟩):=⟨by rw [List.length_append,Za];exact hown',zal HT2.out hgrow (fun q e=>by have:=(HO2.out.lt q e).1;omega),by have:=hgrow.size;omega,fun j=>(World.cell?_of_block (a:=⟨pg,j,none⟩) (hgrow.block pg zza (fun e=>by have:=(HO2.out.lt pg e.symm).1;omega))).trans (HP2.out j)⟩;clear hown' hgrow hat hlt')));go_roundw;case rel=>
     obtain ⟨b1,b2,b3,b4⟩:=H4.out;refine ⟨k+1,s2,by omega,by go_num,⟨b2,?_,?_,?_,b3,b4,?_,?_⟩⟩
     ·rw [HST.out];exact HV2.out
     ·rw [HST.out];exact HI2.out.mono zza
     ·rw [HST.out];exact har
     ·rw [HST.out];exact b1
     ·rw [HST.out];show (T0++L).length<=_;rw [List.length_append];omega
    case measure=>simp [intOf];omega
   ·have e1:k=ps.length:=by omega
    subst e1;have HW:=hid hW;clear hW HW0;go_wp2;go_ret;have q:=HW.out;have et:ps.take ps.length=ps:=List.take_length;obtain ⟨a1,a2,a3,a4,a5,a6,a7,a8⟩:=q;rw [et] at a2 a3 a4 a7;exact ⟨_,t,rfl,K8 a7 hs1,a1,a2,a3,a4⟩
end
section
def VV:List Value:=[.int .u8 0]++(List.replicate 200 (.int .u8 0)++([.int .i64 0,.int .u8 0,.int .u8 0,.bool false,.string ⟨#[]⟩]++
 ([.int .u16 0,.int .u16 0,.int .u16 0,.int .u16 0,.int .i64 0,.int .u16 0,.int .u16 0,.int .u16 0,.int .u16 0,.int .i64 0]++
 ((List.replicate 4 [.int .i64 0,.int .u16 0,.int .u8 0,.int .u8 0,.int .u8 0,.int .u8 0,.int .u8 0,.int .u8 0,.int .u8 0,.int .u8 0,.int .i64 0]).flatten++([.int .i64 0]++
 ((List.replicate 64 [.int .i64 0,.int .i64 0,.bool false,.bool false]).flatten++ [.int .i64 0,.int .i64 0,.bool false,.bool false,.bool false]))))))
theorem zcu:(zeroCells126.toList.drop 65562).take 522=VV:=by kernel_rfl
def zeS(R:Nat->Option Value):Prop:=∀k,k<522->R (65562+k)=VV[k]?
theorem VW:∃(R:Nat->Option Value) (z:Array Value),(∀w:World,Sem.run prog (zeroValue 126) w=.ok (.agg z) w)/\z.size=66084/\zeS R/\∀ (w:World) (t:TypeId),CAt (w.alloc (.cells z t)) w.heap.size (zah R):=
 ⟨_,_,zeroValue126,zeroCells126_size,fun k hk=>by rw [<-Array.getElem?_toList, <-zcu,List.getElem?_take,if_pos hk,List.getElem?_drop],fun w t=>zeK w t _ zeQ zai⟩
theorem znb:((List.range 64).map fun i=>(VV[261+i*4]?,VV[261+i*4+1]?,VV[261+i*4+2]?,VV[261+i*4+3]?))=List.replicate 64 (some (.int .i64 0),some (.int .i64 0),some (.bool false),some (.bool false)):=by kernel_rfl
theorem zraw:((List.range 200).map fun i=>VV[1+i]?)=List.replicate 200 (some (.int .u8 0)):=by kernel_rfl
theorem znc:((List.range 4).map fun i=>((VV[216+i*11]?,VV[216+i*11+1]?,VV[216+i*11+10]?),(List.range 8).map fun j=>VV[216+i*11+2+j]?))=List.replicate 4 ((some (.int .i64 0),some (.int .u16 0),some (.int .i64 0)),List.replicate 8 (some (.int .u8 0))):=by kernel_rfl
theorem UB{α:Type}{n:Nat}{f:Nat->α}{a:α}(h:(List.range n).map f=List.replicate n a)(i:Nat)(hi:i<n):f i=a:=by
 have q:=congrArg (fun l=>l[i]?) h;simpa [hi] using q
def bus0:BusI:=⟨0,0,false,false⟩
def SB.fresh(rom:Int)(cs:List Chn):SB:=⟨.fresh rom cs (fun _=>none),⟨0,[],0⟩,0,false,[],⟨fun _=>0,0⟩,⟨fun _=>0,0⟩,[],⟨fun _=>bus0,0,0⟩,false,false,false⟩
theorem zaj(rom:Int)(cs:List Chn)(R:Nat->Option Value):PC.fresh rom cs R=(PC.fresh rom cs (fun _=>none)).rr (PC.fresh rom cs R).rest:=rfl
theorem Ga(rom:Int)(cs:List Chn)(R:Nat->Option Value)(h:zeS R):SV (SB.fresh rom cs) (.fresh rom cs R) where
 core:=zaj rom cs R
 sc:=⟨Nat.zero_le _,Nat.zero_le _,h 0 zzb,h 201 zzb,h 202 zzb,fun i hi=>by simp [SB.fresh] at hi,fun i hi=>⟨_,(show R (65563+i)=_ by rw [show 65563+i=65562+(1+i) from by omega];exact (h (1+i) zza).trans (UB zraw i hi))⟩⟩
 cd:=h 203 zzb
 cb:=h 204 zzb
 cr:=h 205 zzb
 bp:=⟨Nat.zero_le _,h 210 zzb,fun i hi=>by
  rcases (show i=0\/i=1\/i=2\/i=3 from by omega) with rfl|rfl|rfl|rfl
  ·exact h 206 zzb
  ·exact h 207 zzb
  ·exact h 208 zzb
  ·exact h 209 zzb⟩
 wp:=⟨Nat.zero_le _,h 215 zzb,fun i hi=>by
  rcases (show i=0\/i=1\/i=2\/i=3 from by omega) with rfl|rfl|rfl|rfl
  ·exact h 211 zzb
  ·exact h 212 zzb
  ·exact h 213 zzb
  ·exact h 214 zzb⟩
 pa:=⟨⟨fun _=>JA,⟨Nat.zero_le _,h 260 zzb,fun i hi=>by
   have q:=UB znc i hi;have q1:=congrArg (fun x=>x.1.1) q;have q2:=congrArg (fun x=>x.1.2.1) q;have q3:=congrArg (fun x=>x.1.2.2) q;have q4:=congrArg (fun x=>x.2) q;refine ⟨?_,?_,fun j hj=>?_,?_⟩
   ·show R (65778+i*11)=_;rw [show 65778+i*11=65562+(216+i*11) from by omega];exact (h _ zza).trans q1
   ·show R (65778+i*11+1)=_;rw [show 65778+i*11+1=65562+(216+i*11+1) from by omega];exact (h _ zza).trans q2
   ·show R (65778+i*11+2+j)=_;rw [show 65778+i*11+2+j=65562+(216+i*11+2+j) from by omega];exact (h _ zza).trans (UB q4 j hj)
   ·show R (65778+i*11+10)=_;rw [show 65778+i*11+10=65562+(216+i*11+10) from by omega];exact (h _ zza).trans q3⟩,fun i hi=>by simp [SB.fresh] at hi⟩,fun i hi=>by simp [SB.fresh] at hi,fun p hp=>by simp [SB.fresh] at hp⟩
 rc:=⟨(show 0<64 from by decide),Nat.zero_le _,h 517 zzb,h 518 zzb,fun i hi=>by
  have q:=UB znb i hi;have q1:=congrArg (fun x=>x.1) q;have q2:=congrArg (fun x=>x.2.1) q;have q3:=congrArg (fun x=>x.2.2.1) q;have q4:=congrArg (fun x=>x.2.2.2) q;refine ⟨?_,?_,?_,?_⟩
  ·show R (65823+i*4)=_;rw [show 65823+i*4=65562+(261+i*4) from by omega];exact (h _ zza).trans q1
  ·show R (65823+i*4+1)=_;rw [show 65823+i*4+1=65562+(261+i*4+1) from by omega];exact (h _ zza).trans q2
  ·show R (65823+i*4+2)=_;rw [show 65823+i*4+2=65562+(261+i*4+2) from by omega];exact (h _ zza).trans q3
  ·show R (65823+i*4+3)=_;rw [show 65823+i*4+3=65562+(261+i*4+3) from by omega];exact (h _ zza).trans q4⟩
 re:=h 519 zzb
 nm:=h 520 zzb
 iq:=h 521 zzb
theorem Gb(N:Nat)(v:Value)(cs:List Chn)(rom:Int)(w:World)(hN:N<=w.heap.size)(hc:CfAt N w v cs)(hv:yt rom cs=true)
  (hl:cs.length<=140737488355328) (hb:∀c∈cs,c.bs.length<=140737488355328):
  Calls prog 26 #[.agg #[v,.int .i64 rom]] w fun e w'=> ∃B R,w.heap.size<=B/\e=.returned (.tuple #[.pointer (some ⟨B,0,none⟩),.int .i64 0])/\
   CAt w' B (.fresh rom cs R)/\zeS R/\Below w.heap.size w w':=by
 obtain ⟨R,zz,hz,hzs,hR,HZ⟩:=VW;have hne:zz≠ #[]:=by intro e;rw [e] at hzs;cases hzs
 have S:∀ (o:Obj) (t:TypeId),Calls prog 37 #[.pointer (some ⟨w.heap.size+1,0,none⟩),.agg #[v,.int .i64 rom]] ((w.alloc o).alloc (.cells zz t)).drew fun e w'=>e=.returned (.int .i64 0)/\Tn (w.heap.size+1) (.fresh rom cs R) ((w.alloc o).alloc (.cells zz t)) w':=by
  intro o t;have q:=UA (Tn.refl (HZ (w.alloc o) t)).drew N zzd v cs rom ((hc.below (((Below.refl _ _).alloc (Nat.le_refl _) o).alloc zzc _)).below (qJ (Below.refl _ _))) hv hl hb;rwa [show (w.alloc o).heap.size=w.heap.size+1 from by simp] at q
 have HH:Hid (zeS R):=hR;obtain ⟨p,cap,rfl, -⟩:=hc;clear HZ hR;go_enter func26,ntmps26;go_wp2_with fail;go_region_with (first|(go_at_call 37;refine (S _ _).mono ?_;rintro e w2 ⟨rfl,T2⟩;have HT:Hid (CAt w2 (w.heap.size+1) (.fresh rom cs R)/\Below w.heap.size w w2):=⟨T2.c,KY (((Below.refl _ _).alloc (Nat.le_refl _) _).alloc zzc _) T2.g zza zzd⟩;clear T2 S));all_goals go_wp2
 all_goals go_ret2
 all_goals exact ⟨w.heap.size+1,R,by omega,rfl,HT.out.1,HH.out,HT.out.2⟩
def znd(bs:List UInt8):SB:=SB.fresh 250 (zgJ bs (.slice none 0 0) (.slice none 0 0))
theorem zh2(bs:List UInt8):SI (znd bs) 0:=⟨⟨0,(zgK bs).1⟩,by show (0:Int)<=0;omega,by show (0:Int)<=0;omega,fun i=>by show (0:Int)<=0/\(0:Int)<65536/\(0:Int)<=0/\(0:Int)<256;omega⟩
theorem Qt{B:Nat}{s:PC}{w0 w:World}{S:SB}{N:Int}(h:Tn B s w0 w)(hS:SV S s)(hI:SI S N)(hN0:0<=N)(hN:N<=2000000000000000000)(hrp:S.rp.length<=80)(bb off cap:Nat)(l:List UInt8)(hl:l.length<=4000000)(hB:zy w bb off l)(hne:bb≠B):Calls prog 29 #[.pointer (some ⟨B,0,none⟩),.slice (some ⟨bb,off,none⟩) l.length cap] w fun e w'=>zj6 B N w0 w w' (S.feed l) (zR S.sc l).length e:=by
 have F:=zeR h hS hI hN0 hN hrp bb off cap l hl hB hne;generalize S.feed l=R at*;clear h hS hI hB;go_enter func29,ntmps29;go_wp2_with (first|(go_at_call 40;refine F.mono ?_;rintro e w2 ⟨v,s2,rfl,H⟩;have HH:=hid H;clear H F));go_ret;exact ⟨v,s2,rfl,HH.out⟩
end
section
def Stb(w:World)(B:Nat)(S:SB)(N:Int):Prop:= ∃s,CAt w B s/\SV S s/\SI S N/\S.rp.length<=80
theorem Stb.bel{w w':World}{B:Nat}{S:SB}{N:Int}(h:Stb w B S N)(b:Below w.heap.size w w'):Stb w' B S N:=by
 obtain ⟨s,h1,h2⟩:=h;exact ⟨s,h1.bl b,h2⟩
theorem Stb.other{w w':World}{B C:Nat}{S:SB}{N:Int}(h:Stb w B S N)(g:w.grownBy w' (some C))(hne:B≠C):Stb w' B S N:=by
 obtain ⟨s,h1,h2⟩:=h;exact ⟨s,h1.beside g hne,h2⟩
theorem Stb.lt{w:World}{B:Nat}{S:SB}{N:Int}(h:Stb w B S N):B<w.heap.size:=by obtain ⟨s,h1, -⟩:=h;exact h1.lt
theorem Stb.mono{w:World}{B:Nat}{S:SB}{N M:Int}(h:Stb w B S N)(e:N<=M):Stb w B S M:=by obtain ⟨s,h1,h2,h3,h4⟩:=h;exact ⟨s,h1,h2,h3.mono e,h4⟩
theorem Stb.feed{w:World}{B:Nat}{S:SB}{N:Int}(h:Stb w B S N)(hN0:0<=N)(hN:N<=2000000000000000000)(bb off cap n:Nat)(l:List UInt8)(hn:l.length=n)(hl:l.length<=4000000)(hB:zy w bb off l)(hne:bb≠B):Calls prog 29 #[.pointer (some ⟨B,0,none⟩),.slice (some ⟨bb,off,none⟩) n cap] w fun e w'=> ∃v,e=.returned v/\w'.ownsRow w.heap.size 5 1 v (S.feed l).2.length (zS (S.feed l).2)/\Stb w' B (S.feed l).1 (N+1000000*l.length)/\w.grownBy w' (some B):=by
 subst hn;obtain ⟨s,h1,h2,h3,h4⟩:=h;refine (Qt (Tn.refl h1) h2 h3 hN0 hN h4 bb off cap l hl hB hne).mono ?_;rintro e w' ⟨v,s',rfl,o,T,V,I,R⟩;have:=jX l S.sc;exact ⟨v,rfl,o,⟨s',T.c,V,I.mono zza,R⟩,T.g⟩
theorem Stb.fresh{w:World}{B:Nat}{R:Nat->Option Value}{bs:List UInt8}{v1 v2:Value}(h:CAt w B (.fresh 250 (zgJ bs v1 v2) R))(hR:zeS R):Stb w B (znd bs) 0:=
 ⟨_,h,Ga 250 (zgJ bs v1 v2) R hR,zh2 bs,by show 0<=80;decide⟩
theorem Gc(ps:List Pk):∀S:SB,S.rp.length<=80->(S.answers ps).2.length<=201*ps.length:=by
 induction ps with
 |nil=>intro S _;simp [SB.answers]
 |cons p r ih=>
  intro S h;have h1:=(UG S p h).2;have h2:=ih (S.ans p).1 (zam S p h);rw [SB.answers,List.length_append,List.length_cons];omega
end
