import Derived.Test.YtcgjliflnnklnaaGreatCM1z
import Derived.Test.YtcgjliflnnklnaaGreatJ01
namespace Go.Proofs.YtcgjliflnnklnaaGreat
open Go.RowKit Tryz
set_option maxRecDepth 100000
set_option maxHeartbeats 8000000
section
variable {B:Nat} {s:PC} {w0 w:World}
theorem Ze(h:Tn B s w0 w)(i:Int)(_:0<=i)(_:i<256):RM 171 [Uq i] B w0 w (s.zeroPageBy i):=by
 have hf:=func171;have hn:=ntmps171;have hr:=results171;obtain ⟨c_pc,l_pc,u_pc⟩:=ja h.c;obtain ⟨c_ad,l_ad,u_ad⟩:=XH h.c;obtain ⟨c_st,l_st,u_st⟩:=JB h.c;have hK:=jJ (fun w B s=>@XH w B s);have hL:=jJ (fun w B s=>@JB w B s);unfold PC.zeroPageBy;exact zN
theorem Jw(h:Tn B s w0 w):RM 115 [] B w0 w (s.zeroPageBy s.x):=by
 have hf:=func115;have hn:=ntmps115;have hr:=results115;obtain ⟨c_x,l_x,u_x⟩:=Kfx h.c;exact zN
theorem Jx(h:Tn B s w0 w):RM 116 [] B w0 w (s.zeroPageBy s.y):=by
 have hf:=func116;have hn:=ntmps116;have hr:=results116;obtain ⟨c_y,l_y,u_y⟩:=Kfy h.c;exact zN
theorem Uo(h:Tn B s w0 w):RM 117 [] B w0 w (s.absolute):=by
 have hf:=func117;have hn:=ntmps117;have hr:=results117;obtain ⟨c_pc,l_pc,u_pc⟩:=ja h.c;obtain ⟨c_st,l_st,u_st⟩:=JB h.c;unfold PC.absolute;exact zN
theorem Xl(h:Tn B s w0 w)(i:Int)(_:0<=i)(_:i<256):RM 176 [Uq i] B w0 w (s.indexed i):=by
 have hf:=func176;have hn:=ntmps176;have hr:=results176;obtain ⟨c_st,l_st,u_st⟩:=JB h.c;obtain ⟨c_ad,l_ad,u_ad⟩:=XH h.c;obtain ⟨c_ins,l_ins,u_ins⟩:=zj0 h.c;obtain ⟨v1,v2⟩:=Gg s.ad i l_ad u_ad;have sm:IntKind.u16.wrap (s.ad+i)=(s.ad+i)%65536:=IntKind.wrap_u16 _;unfold PC.indexed;dsimp only;by_cases e1:(s.ad+i)%65536=zC s.ad i
 ·by_cases e2:yx s.ins=0
  ·rw [if_pos ⟨e1,e2⟩];have e1:=beq_iff_eq.mpr e1;exact zN
  ·rw [if_neg (fun q=>e2 q.2)];have e1:=beq_iff_eq.mpr e1;have e2:=beq_false_of_ne e2;exact zN
 ·rw [if_neg (fun q=>e1 q.1)];have e1:=beq_false_of_ne e1;exact zN
theorem Zf(h:Tn B s w0 w)(i:Int)(_:0<=i)(_:i<256):RM 173 [Uq i] B w0 w (s.absoluteBy i):=by
 have hf:=func173;have hn:=ntmps173;have hr:=results173;obtain ⟨c_pc,l_pc,u_pc⟩:=ja h.c;unfold PC.absoluteBy;exact zN
theorem Jy(h:Tn B s w0 w):RM 118 [] B w0 w (s.absoluteBy s.x):=by
 have hf:=func118;have hn:=ntmps118;have hr:=results118;obtain ⟨c_x,l_x,u_x⟩:=Kfx h.c;exact zN
theorem Jz(h:Tn B s w0 w):RM 119 [] B w0 w (s.absoluteBy s.y):=by
 have hf:=func119;have hn:=ntmps119;have hr:=results119;obtain ⟨c_y,l_y,u_y⟩:=Kfy h.c;exact zN
end
theorem zew{h:ByteArray}{l:List UInt8}(e:h.data.toList=l):h=⟨l.toArray⟩:=by subst e;cases h;simp
theorem jb(l:List UInt8):(⟨l.toArray⟩:ByteArray).size=l.length:=by simp [ByteArray.size]
theorem xh(a b:List UInt8):(⟨a.toArray⟩:ByteArray)++ ⟨b.toArray⟩=⟨(a++b).toArray⟩:=zew (by rw [ByteArray.data_append];simp)
theorem qC(l:List UInt8)(a b:Nat):(⟨l.toArray⟩:ByteArray).extract a b=⟨((l.drop a).take (b-a)).toArray⟩:=zew (by rw [ByteArray.data_extract,Array.toList_extract,List.extract_eq_take_drop])
theorem zmO{p:Prop} (q:p:=by
 have h2:(0:Int)<=(n:Int)%16:=by omega
 go_enter func91,ntmps91;go_wp2;go_ret;exact ⟨xT zza,rfl⟩):p:=q
theorem zbf(n:Nat)(w:World)(h:n<=65536):Cq 91 #[Iq n,Iq 16] w (Iq ((n%16:Nat):Int)) fun w'=>w'=w:=by
 have h0:(0:Int)<=(n:Int):=by omega
 have h1:(n:Int)<=65536:=by omega
 exact zmO
theorem zoX(d:Nat)(h:d<16):(({data:=#[48,49,50,51,52,53,54,55,56,57,97,98,99,100,101,102] }:ByteArray).extract d (d+1))=⟨[vA d].toArray⟩:=by
 have:∀d:Fin 16,(({data:=#[48,49,50,51,52,53,54,55,56,57,97,98,99,100,101,102] }:ByteArray).extract d.1 (d.1+1))=⟨[vA d.1].toArray⟩:=by decide+kernel
 exact this ⟨d,h⟩
theorem VK(c:UInt8)(w:World):Cq 97 #[Iq c.toNat,Iq 2] w (Zq ⟨(vx c).toArray⟩) fun w'=>w'=w:=by
 have hc:c.toNat<256:=c.toNat_lt;go_enter func97,ntmps97;go_wp2;go_loop [0,5,6] (fun n s i=>(n=Iq (c.toNat:Int)/\s=Zq ⟨#[]⟩/\i=Iq 0)\/(n=Iq ((c.toNat/16:Nat):Int)/\s=Zq ⟨[vA (c.toNat%16)].toArray⟩/\i=Iq 1)\/(s=Zq ⟨(vx c).toArray⟩/\i=Iq 2)) (fun _ _ i=>2-(intOf i).toNat);case atStart=>exact .inl ⟨rfl,rfl,rfl⟩
 case round=>
  rcases hrel with ⟨rfl,rfl,rfl⟩|⟨rfl,rfl,rfl⟩|⟨rfl,rfl⟩
  ·go_wp2_with fail;refine (zbf c.toNat _ zza).mono ?_;rintro e w' ⟨rfl,hw⟩;subst w';have d1:c.toNat%16<16:=by omega
   have dI:((c.toNat%16:Nat):Int)<16:=by omega
   have he:Hid ((({data:=#[48,49,50,51,52,53,54,55,56,57,97,98,99,100,101,102] }:ByteArray).extract (c.toNat%16) (c.toNat%16+1))=⟨[vA (c.toNat%16)].toArray⟩):=zoX _ d1;have hn:((c.toNat:Int)-((c.toNat%16:Nat):Int)).tdiv 16=((c.toNat/16:Nat):Int):=by
    rw [Int.tdiv_eq_ediv_of_nonneg zza];omega
   generalize hd:c.toNat%16=d at*;have HD:=qH1 hd;clear hd;go_wp2;go_round;case rel=>exact .inr (.inl ⟨by go_num,by rw [he.out,HD.out];exact congrArg Zq (xh [vA d] []),rfl⟩)
   case measure=>simp [intOf]
  ·have hc16:c.toNat/16<16:=by omega
   go_wp2_with fail;refine (zbf (c.toNat/16) _ zza).mono ?_;rintro e w' ⟨rfl,hw⟩;subst w';have em:c.toNat/16%16=c.toNat/16:=by omega
   rw [em];clear em;have dI:((c.toNat/16:Nat):Int)<16:=by omega
   have he:Hid ((({data:=#[48,49,50,51,52,53,54,55,56,57,97,98,99,100,101,102] }:ByteArray).extract (c.toNat/16) (c.toNat/16+1))=⟨[vA (c.toNat/16)].toArray⟩):=zoX _ hc16;generalize hd:c.toNat/16=d at*;have HD:=qH1 hd;clear hd;go_wp2;go_round;case rel=>exact .inr (.inr ⟨by rw [he.out];exact congrArg Zq (by rw [vx,HD.out];exact xh [vA d] [vA (c.toNat%16)]),rfl⟩)
   case measure=>simp [intOf]
  ·go_wp2;go_ret;exact ⟨rfl,rfl⟩
def ZX(l:List UInt8):Nat:=(l.map UInt8.toNat).sum
theorem zch(l:List UInt8)(c:UInt8):ZX (l++ [c])=ZX l+c.toNat:=by simp [ZX]
theorem zhx(l:List UInt8):ZX l<=255*l.length:=by
 induction l with
 |nil=>simp [ZX]
 |cons c r ih=>have:=c.toNat_lt;simp only [ZX,List.map_cons,List.sum_cons,List.length_cons] at*;omega
theorem zci(l:List UInt8):(xG l).toNat=ZX l%256:=by
 have:∀ (l:List UInt8) (a:UInt8),(l.foldl (·+·) a).toNat=(a.toNat+ZX l)%256:=by
  intro l;induction l with
  |nil=>intro a;simp [ZX]
  |cons c r ih=>
   intro a;rw [List.foldl_cons,ih,UInt8.toNat_add];simp only [ZX,List.map_cons,List.sum_cons];omega
 have h:=this l 0;simpa [xG] using h
theorem VL(s:ByteArray)(w:World)(hs:s.size<=1000000):Cq 98 #[Zq s] w (Iq ((xG s.data.toList).toNat:Int)) fun w'=>w'=w:=by
 go_enter func98,ntmps98;go_wp2;go_loop [3,4] (fun n i=> ∃k:Nat,k<=s.size/\i=Iq k/\n=Iq (ZX (s.data.toList.take k):Int)) (fun _ i=>s.size-(intOf i).toNat);case atStart=>exact ⟨0,Nat.zero_le _,rfl,rfl⟩
 case round=>
  obtain ⟨k,hk,rfl,rfl⟩:=hrel;have hb:=zhx (s.data.toList.take k);have hl:(s.data.toList.take k).length<=k:=List.length_take_le _ _;by_cases hlt:k<s.size
  ·have HS:Hid (ZX (s.data.toList.take (k+1))=ZX (s.data.toList.take k)+s[k].toNat):=by show _=_;rw [ZB s k hlt,zch]
   have hc:(s[k].toNat:Int)<256:=by have:=s[k].toNat_lt;omega
   have hb':(ZX (s.data.toList.take k):Int)<=255000000:=by omega
   go_wp2;go_round;case rel=>exact ⟨k+1,by omega,by go_num,by rw [HS.out];go_num⟩
   case measure=>simp [intOf];omega
  ·have hb':(ZX (s.data.toList.take k):Int)<=255000000:=by omega
   go_wp2;go_ret;exact ⟨xT (by rw [zci,List.take_of_length_le zzd];omega),rfl⟩
def vz(c d:UInt8):Int:=if (hb c d).2=true then ((hb c d).1.toNat:Int) else -1
theorem zbg(c:UInt8):(hv c).1.toNat<16:=by revert c;apply Q8;decide+kernel
theorem ZE(c d:UInt8)(h1:(hv c).2=true)(h2:(hv d).2=true):vz c d=16*((hv c).1.toNat:Int)+((hv d).1.toNat:Int):=by
 have:∀a b:Fin 16,((UInt8.ofNat a.1<<<4|||UInt8.ofNat b.1).toNat:Int)=16*(a.1:Int)+(b.1:Int):=by decide+kernel
 have h:=this ⟨_,zbg c⟩ ⟨_,zbg d⟩;simp only [UInt8.ofNat_toNat] at h;have e:hb c d=((hv c).1<<<4|||(hv d).1,true):=by unfold hb;rw [if_pos ⟨h1,h2⟩]
 unfold vz;rw [e,if_pos rfl];exact h
theorem zcj(c d:UInt8)(h1:(hv c).2=false):vz c d= -1:=by simp [vz,hb,h1]
theorem zck(c d:UInt8)(h1:(hv d).2=false):vz c d= -1:=by simp [vz,hb,h1]
theorem qD{c:UInt8}{x:Int}(h:(48<=(c.toNat:Int)/\(c.toNat:Int)<=57/\x=(c.toNat:Int)-48)\/(97<=(c.toNat:Int)/\(c.toNat:Int)<=102/\x=(c.toNat:Int)-97+10)\/(65<=(c.toNat:Int)/\(c.toNat:Int)<=70/\x=(c.toNat:Int)-65+10)):(hv c).2=true/\x=((hv c).1.toNat:Int):=by
 rw [zdO,Hf];refine ⟨decide_eq_true zza,?_⟩;rcases h with ⟨a,b,rfl⟩|⟨a,b,rfl⟩|⟨a,b,rfl⟩
 ·rw [if_pos ⟨a,b⟩]
 ·rw [if_neg zza,if_pos ⟨a,b⟩]
 ·rw [if_neg zza,if_neg zza,if_pos ⟨a,b⟩]
theorem zex{c:UInt8}(h:¬(48<=(c.toNat:Int)/\(c.toNat:Int)<=57))(h2:¬(97<=(c.toNat:Int)/\(c.toNat:Int)<=102))(h3:¬(65<=(c.toNat:Int)/\(c.toNat:Int)<=70)):(hv c).2=false:=by
 rw [Hf];exact decide_eq_false zza
theorem XR(c d:UInt8)(w:World):Cq 159 #[Zq ⟨#[c,d]⟩] w (Iq (vz c d)) fun w'=>w'=w:=by
 have hc:(c.toNat:Int)<256:=by have:=c.toNat_lt;omega
 have hd:(d.toNat:Int)<256:=by have:=d.toNat_lt;omega
 have g0:(({data:=#[c,d] }:ByteArray)[0]'(by show 0<2;omega))=c:=rfl;have g1:(({data:=#[c,d] }:ByteArray)[1]'(by show 1<2;omega))=d:=rfl;go_enter func159,ntmps159;go_wp2;go_loop [3,4] (fun n i=>(n=Iq 0/\i=Iq 0)\/(Hid ((hv c).2=true)/\n=Iq ((hv c).1.toNat:Int)/\i=Iq 1)\/(n=Iq (vz c d)/\i=Iq 2)) (fun _ i=>2-(intOf i).toNat);case atStart=>exact .inl ⟨rfl,rfl⟩
 case round=>
  rcases hrel with ⟨rfl,rfl⟩|⟨h1,rfl,rfl⟩|⟨rfl,rfl⟩
  ·go_wp2;all_goals first
    |(have q:=qD (c:=c) (x:=(c.toNat:Int)-48) zza;go_round;(case rel=>exact .inr (.inl ⟨q.1,by rw [<-q.2],rfl⟩));(case measure=>simp [intOf]))
    |(have q:=qD (c:=c) (x:=(c.toNat:Int)-97+10) zza;go_round;(case rel=>exact .inr (.inl ⟨q.1,by rw [<-q.2],rfl⟩));(case measure=>simp [intOf]))
    |(have q:=qD (c:=c) (x:=(c.toNat:Int)-65+10) zza;go_round;(case rel=>exact .inr (.inl ⟨q.1,by rw [<-q.2],rfl⟩));(case measure=>simp [intOf]))
    |(have q:=zex (c:=c) zza zza zza;go_ret;exact ⟨xT (by rw [zcj c d q]),rfl⟩)
  ·have h16:=zbg c;have h16':((hv c).1.toNat:Int)<16:=by omega
   go_wp2;all_goals first
    |(have q:=qD (c:=d) (x:=(d.toNat:Int)-48) zza;go_round;(case rel=>exact .inr (.inr ⟨by rw [ZE c d h1.out q.1, <-q.2],rfl⟩));(case measure=>simp [intOf]))
    |(have q:=qD (c:=d) (x:=(d.toNat:Int)-97+10) zza;go_round;(case rel=>exact .inr (.inr ⟨by rw [ZE c d h1.out q.1, <-q.2];go_num,rfl⟩));(case measure=>simp [intOf]))
    |(have q:=qD (c:=d) (x:=(d.toNat:Int)-65+10) zza;go_round;(case rel=>exact .inr (.inr ⟨by rw [ZE c d h1.out q.1, <-q.2];go_num,rfl⟩));(case measure=>simp [intOf]))
    |(have q:=zex (c:=d) zza zza zza;go_ret;exact ⟨xT (by rw [zck c d q]),rfl⟩)
  ·go_wp2;go_ret;exact ⟨rfl,rfl⟩
structure OwnsN (base:Nat) (w0 w:World) (v:Value) (l:List UInt8):Prop where
 own:w.ownsRow base 5 1 v l.length (zS l)
 bel:Below base w0 w
 sz:base<=w.heap.size
theorem Owns.n{base:Nat}{w0 w:World}{v:Value}{l:List UInt8}(h:Owns base w0 w v l):OwnsN base w0 w v l:=by
 obtain ⟨g,cap,rfl,h1,h2,h3⟩:=h;exact ⟨h1,h2,h3⟩
theorem Qu(w:World):OwnsN w.heap.size w w (Nq) []:=⟨World.ownsRow_nil _ _ _ _,Below.refl _ _,Nat.le_refl _⟩
theorem Qv{w:World}{base n:Nat}{v:Value}{l:List UInt8}(h:w.ownsRow base 5 1 v n (zS l))(hn:l.length=n):(l=[]/\v=Nq)\/ ∃g c,v=Sq g l.length c:=by
 rcases h.2 with ⟨e,e2⟩|⟨g,cap,_,e,_⟩
 ·exact .inl ⟨List.eq_nil_of_length_eq_zero zza,e⟩
 ·exact .inr ⟨g,cap,by rw [hn];exact e⟩
theorem Xr{w:World}{base:Nat}{v:Value}{l:List UInt8}(h:w.ownsRow base 5 1 v l.length (zS l)):(convert 35 9 v).run prog w=.ok (Zq ⟨l.toArray⟩) w:=by
 rcases Qv h rfl with ⟨rfl,rfl⟩|⟨g,c,rfl⟩
 ·exact run_convert_bytes_nil (P:=prog) w 35 5 zx zoj 0 0 9 vj
 ·exact ji h
def xW(l:List UInt8):List UInt8 × Bool:=match xo l with
 |some out=>(out,decide (out.length<=80))
 |none=>([],false)
theorem zeU(s:ByteArray)(w:World)(hs:s.size<=1000):Cq 160 #[Zq s] w (.tuple #[Zq ⟨(xW s.data.toList).1.toArray⟩,Tq (xW s.data.toList).2]) fun w'=>Bq w w':=by
 obtain ⟨i0,hi,hz0,hz1,hz2⟩:=info_parts xP;go_enter func160,ntmps160;go_wp2;go_loopw [4,5] (fun v i wr=> ∃(k:Nat) (out:List UInt8),k<=s.size/\i=Iq k/\Hid (YP s.data.toList k out)/\OwnsN w.heap.size w wr v out) (fun _ i _=>s.size-(intOf i).toNat);case atStart=>exact ⟨0,[],Nat.zero_le _,rfl,zdT _,Qu w⟩
 case round=>
  obtain ⟨k,out,hk,rfl,hP,hO⟩:=hrel;obtain ⟨hown,hbel,hsz⟩:=hO;have hol:out.length<=1000:=by have:=hP.out.2;omega
  by_cases hlt:k<s.size
  ·have hlt':k<s.data.toList.length:=by simpa using hlt
   by_cases h125:s[k]=125
   ·by_cases hk1:k+1<s.size
    ·have hP':Hid (YP s.data.toList (k+2) (out++ [s[k+1] ^^^ 32])):=Km hP.out (by simpa using hk1) h125;have t1:((s[k].toNat:Int)==125)=true:=by rw [h125];rfl
     have hx:bits .xor .u8 (s[k+1].toNat:Int) 32=((s[k+1] ^^^ 32).toNat:Int):=zba _;clear h125 hP;have tz:((k:Int)+1==(s.size:Int))=false:=by rw [beq_eq_false_iff_ne];omega
     go_wp2_with (first|(at_builtin;go_must (refine wpList_append_lies _ rfl (.tmp 28) (.tmp 30) 35 rfl w.heap.size 5 i0 (Uq 0) 1 1 zx hi hz0 hz1 hz2 rfl zzb u4 out.length (zS out) rfl (by exact (hown.alloc _)) (Aq wr.heap.size 0) 1 1 [Uq (s[k+1] ^^^ 32).toNat] rfl rfl (ye _ _ _) (xa _) zzb zze zza zzd _ rfl ?_;intro g' cap' w1 hown' hgrow hat hlt')));have HO:=(xe (m:=[s[k+1] ^^^ 32]) hown hbel hsz hown' hgrow).n;clear hown hbel hsz hown' hgrow hat hlt';go_roundw;case rel=>exact ⟨k+2,out++ [s[k+1] ^^^ 32],by omega,by go_num,hP',HO⟩
     case measure=>simp [intOf];omega
    ·have hn:Hid (xo s.data.toList=none):=JQ hP.out hlt' zzd h125;have t1:((s[k].toNat:Int)==125)=true:=by rw [h125];rfl
     have tz:((k:Int)+1==(s.size:Int))=true:=by rw [beq_iff_eq];omega
     clear h125 hP;go_wp2;go_ret2;refine ⟨by simp only [xW,hn.out];rfl,hbel⟩
   ·have hP':Hid (YP s.data.toList (k+1) (out++ [s[k]])):=Vi hP.out hlt' h125;have t1:((s[k].toNat:Int)==125)=false:=YO (n:=125) h125;clear h125 hP;go_wp2_with (first|(at_builtin;go_must (refine wpList_append_lies _ rfl (.tmp 28) (.tmp 30) 35 rfl w.heap.size 5 i0 (Uq 0) 1 1 zx hi hz0 hz1 hz2 rfl zzb u4 out.length (zS out) rfl (by exact (hown.alloc _)) (Aq wr.heap.size 0) 1 1 [Uq s[k].toNat] rfl rfl (ye _ _ _) (xa _) zzb zze zza zzd _ rfl ?_;intro g' cap' w1 hown' hgrow hat hlt')));have HO:=(xe (m:=[s[k]]) hown hbel hsz hown' hgrow).n;clear hown hbel hsz hown' hgrow hat hlt';go_roundw;case rel=>exact ⟨k+1,out++ [s[k]],by omega,by go_num,hP',HO⟩
    case measure=>simp [intOf];omega
  ·have hn:Hid (xo s.data.toList=some out):=Kn hP.out zzd;have hconv:=Xr hown;have hd:Hid (decide (out.length<=80)=decide ((out.length:Int)<=80)):=by show _=_;rw [decide_eq_decide];omega
   rcases Qv hown rfl with ⟨rfl,rfl⟩|⟨g,c,rfl⟩
   ·clear hP hown;go_wp2;go_ret2;refine ⟨by simp only [xW,hn.out];rfl,hbel⟩
   ·clear hP hown;go_wp2;go_ret2;refine ⟨by simp only [xW,hn.out];rw [hd.out];rfl,hbel⟩
theorem UC(raw:List UInt8)(x y z:UInt8):(⟨(raw++ [x,y,z]).toArray⟩:ByteArray).extract 0 raw.length=⟨raw.toArray⟩:=by
 rw [qC];simp
theorem UD(raw:List UInt8)(x y z:UInt8):(⟨(raw++ [x,y,z]).toArray⟩:ByteArray).extract (raw.length+1) (raw.length+3)=⟨#[y,z]⟩:=by
 rw [qC,List.drop_append,List.drop_of_length_le zza];simp
theorem UE(raw:List UInt8)(x y z:UInt8):(⟨(raw++ [x,y,z]).toArray⟩:ByteArray).size=raw.length+3:=by rw [jb];simp
theorem Gd(c d x:UInt8):vz c d=(x.toNat:Int) ↔ (hb c d).2=true/\(hb c d).1=x:=by
 unfold vz;constructor
 ·intro h;by_cases e:(hb c d).2=true
  ·rw [if_pos e] at h;exact ⟨e,UInt8.toNat_inj.1 zza⟩
  ·rw [if_neg e] at h;omega
 ·rintro ⟨e,rfl⟩;rw [if_pos e]
theorem UF{w w2:World}{a0 a1 a2 b0 b1 b2:Value}{t t':TypeId}
  (h:Below ((w.alloc (.cells #[a0,a1,a2] t)).alloc (.cells #[b0,b1,b2] t')).heap.size ((w.alloc (.cells #[a0,a1,a2] t)).alloc (.cells #[b0,b1,b2] t')) w2):
  w2.cell? (Aq w.heap.size 0)=some a0/\w2.cell? (Aq w.heap.size 1)=some a1/\w2.cell? (Aq w.heap.size 2)=some a2/\
  w2.frozen? (Aq w.heap.size 0)=false/\w2.frozen? (Aq w.heap.size 1)=false/\w2.frozen? (Aq w.heap.size 2)=false/\
  w2.cell? ⟨w.heap.size+1,0,none⟩=some b0/\w2.cell? ⟨w.heap.size+1,1,none⟩=some b1/\w2.cell? ⟨w.heap.size+1,2,none⟩=some b2:=
 Xh (n:=0) h
theorem zeV(raw:List UInt8)(x h lo:UInt8)(w:World)(hl:raw.length<2):Cq 100 #[Zq ⟨(raw++ [x,h,lo]).toArray⟩] w xH.val fun w'=>Bq w w':=by
 have hsz:=UE raw x h lo;have hx0:=UC raw x h lo;have hx1:=UD raw x h lo;have hl':(raw.length:Int)<2:=by omega
 generalize (⟨(raw++ [x,h,lo]).toArray⟩:ByteArray)=s at*;go_enter func100,ntmps100;go_wp2_with fail;refine (XR h lo _).mono ?_;rintro e w1 ⟨rfl,rfl⟩;go_wp2;exact bodyPost_ret (v:=.agg #[Iq 0,Zq ⟨#[]⟩,Tq true]) (by simp [results,results100,go_sem]) rfl ⟨rfl,xI _ _ _⟩
theorem zeW(raw:List UInt8)(x h lo:UInt8)(w:World)(hl:2<=raw.length)(hl2:raw.length<=1000)(hne:(vz h lo !=((xG raw).toNat:Int))=true):Cq 100 #[Zq ⟨(raw++ [x,h,lo]).toArray⟩] w xH.val fun w'=>Bq w w':=by
 have hsz:=UE raw x h lo;have hx0:=UC raw x h lo;have hx1:=UD raw x h lo;have hl':(2:Int)<=(raw.length:Int):=by omega
 generalize (⟨(raw++ [x,h,lo]).toArray⟩:ByteArray)=s at*;go_enter func100,ntmps100;go_wp2_with fail;refine (XR h lo _).mono ?_;rintro e w1 ⟨rfl,rfl⟩;go_wp2_with fail;refine (VL ⟨raw.toArray⟩ _ (by rw [jb];omega)).mono ?_;rintro e w1 ⟨rfl,rfl⟩;go_wp2;exact bodyPost_ret (v:=.agg #[Iq 0,Zq ⟨#[]⟩,Tq true]) (by simp [results,results100,go_sem]) rfl ⟨rfl,xI _ _ _⟩
theorem zcv(c0 c1:UInt8)(r:List UInt8)(h:(hb c0 c1).2=true):xp (c0::c1::r) c0 c1=if (xW r).2=true then ⟨(hb c0 c1).1.toNat,(xW r).1,false⟩ else xH:=by
 unfold xp xW;rw [if_pos h];show (match xo r with|some out=>if out.length<=80 then (⟨(hb c0 c1).1.toNat,out,false⟩:Pk) else xH|none=>xH)=_;cases xo r with
 |none=>simp
 |some out=>by_cases h80:out.length<=80<;>simp [h80]
theorem zeX(c0 c1:UInt8)(r:List UInt8)(x h lo:UInt8)(w:World)(hl2:r.length<=900)(hne:(vz h lo !=((xG (c0::c1::r)).toNat:Int))=false):Calls prog 100 #[Zq ⟨((c0::c1::r)++ [x,h,lo]).toArray⟩] w fun e w'=>e=.returned (xp (c0::c1::r) c0 c1).val/\Bq w w':=by
 have hsz:=UE (c0::c1::r) x h lo;have hx0:=UC (c0::c1::r) x h lo;have hx1:=UD (c0::c1::r) x h lo;have hrs:=jb (c0::c1::r);have hr0:(⟨(c0::c1::r).toArray⟩:ByteArray).extract 0 2=⟨#[c0,c1]⟩:=by rw [qC];rfl
 have hr1:(⟨(c0::c1::r).toArray⟩:ByteArray).extract 2 (r.length+2)=⟨r.toArray⟩:=by rw [qC];simp
 have hdl:(⟨(c0::c1::r).toArray⟩:ByteArray).data.toList=c0::c1::r:=by simp
 have hrl:(c0::c1::r).length=r.length+2:=rfl;have HB:=qH1 hdl;clear hdl;generalize (⟨((c0::c1::r)++ [x,h,lo]).toArray⟩:ByteArray)=s at*;generalize (⟨(c0::c1::r).toArray⟩:ByteArray)=rb at*;rw [hrl] at*;go_enter func100,ntmps100;go_wp2_with fail;refine (XR h lo _).mono ?_;rintro e w1 ⟨rfl,rfl⟩;go_wp2_with fail;refine (VL rb _ zza).mono ?_;rintro e w1 ⟨rfl,rfl⟩;rw [HB.out];go_wp2_with fail;refine (XR c0 c1 _).mono ?_;rintro e w1 ⟨rfl,rfl⟩;go_wp2_with fail;refine (zeU ⟨r.toArray⟩ _ (by rw [jb];omega)).mono ?_;rintro e w2 ⟨rfl,hbel⟩;have HF:Hid (Bq w w2):=(xI _ _ _).trans (hbel.mono zzd);obtain ⟨d0,d1,d2,f0,f1,f2,g0,g1,g2⟩:=UF hbel;clear hbel HB;rw [show (⟨r.toArray⟩:ByteArray).data.toList=r from by simp];cases hq:(hb c0 c1).2 with
 |false=>
  have hx:vz c0 c1= -1:=by simp [vz,hq]
  have hT:Hid (xp (c0::c1::r) c0 c1=xH):=by show _=_;simp [xp,hq]
  rw [hx];clear hx hq;generalize (xW r).1=bl at*;generalize (xW r).2=bo at*;go_wp2;exact bodyPost_ret (v:=.agg #[Iq 0,Zq ⟨#[]⟩,Tq true]) (by simp [results,results100,go_sem,d0,d1,d2]) rfl ⟨by rw [hT.out];rfl,((HF.out.setCell (Nat.le_refl _) _).setCell (Nat.le_refl _) _).setCell (Nat.le_refl _) _⟩
 |true=>
  have hx:vz c0 c1=((hb c0 c1).1.toNat:Int):=by simp [vz,hq]
  have hT:=zcv c0 c1 r hq;rw [hx];clear hx hq;generalize (hb c0 c1).1=sq at*;have hsq:(0:Int)<=(sq.toNat:Int):=by omega
  generalize (xW r).1=bl at*;cases hbo:(xW r).2 with
  |false=>
   have HT:Hid (xp (c0::c1::r) c0 c1=xH):=by show _=_;rw [hT,hbo];rfl
   clear hT hbo;go_wp2;exact bodyPost_ret (v:=.agg #[Iq 0,Zq ⟨#[]⟩,Tq true]) (by simp [results,results100,go_sem,d0,d1,d2]) rfl ⟨by rw [HT.out];rfl,((HF.out.setCell (Nat.le_refl _) _).setCell (Nat.le_refl _) _).setCell (Nat.le_refl _) _⟩
  |true=>
   have HT:Hid (xp (c0::c1::r) c0 c1=⟨sq.toNat,bl,false⟩):=by show _=_;rw [hT,hbo];rfl
   clear hT hbo;go_wp2;exact bodyPost_ret (v:=.agg #[Iq sq.toNat,Zq ⟨bl.toArray⟩,Tq false]) (by simp [results,results100,go_sem,d0,d1,d2]) rfl ⟨by rw [HT.out];rfl,((HF.out.setCell (Nat.le_refl _) _).setCell (Nat.le_refl _) _).setCell (Nat.le_refl _) _⟩
theorem Ge(raw:List UInt8)(x h lo:UInt8)(w:World)(hl:raw.length<=200):Calls prog 100 #[Zq ⟨(raw++ [x,h,lo]).toArray⟩] w fun e w'=>e=.returned (yM raw h lo).val/\Bq w w':=by
 by_cases h2:2<=raw.length
 ·by_cases he:vz h lo=((xG raw).toNat:Int)
  ·match raw,h2 with
   |c0::c1::r,_=>
    simp only [List.length_cons] at hl;have hq:=(Gd _ _ _).1 he;rw [show yM (c0::c1::r) h lo=xp (c0::c1::r) c0 c1 from by unfold yM;rw [if_pos ⟨hq.1,hq.2,by simp⟩];rfl];exact zeX c0 c1 r x h lo w zza (by rw [he];simp)
  ·rw [show yM raw h lo=xH from by unfold yM;rw [if_neg];rintro ⟨a,b,_⟩;exact he ((Gd _ _ _).2 ⟨a,b⟩)];exact zeW raw x h lo w h2 zza (by rw [bne_iff_ne];exact he)
 ·rw [show yM raw h lo=xH from by unfold yM;rw [if_neg];rintro ⟨_,_,c⟩;exact h2 c];exact zeV raw x h lo w zza
