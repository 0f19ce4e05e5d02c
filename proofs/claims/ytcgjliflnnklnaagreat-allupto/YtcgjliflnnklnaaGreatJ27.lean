import Derived.Test.YtcgjliflnnklnaaGreatJ26
namespace Go.Proofs.YtcgjliflnnklnaaGreat
open Go.RowKit Tryz
set_option maxRecDepth 100000
set_option maxHeartbeats 20000000
section
variable {w:World} {base:Nat} {tag:Nat->Nat} {f:DF} {S:SB} {N:Int}
theorem DS.still(h:DS w base tag f S){w':World}(hw:Bq w w'):Dn tag w base f.Q S w':=⟨tag,f,rfl,h.below hw,Chg.below tag hw⟩
theorem zdc(h:DS w base tag f S)(hs:Sat S N)(hN:N<3000000000000000000)(hb:base<=w.heap.size)(b:List UInt8)(hc:b=[] \/b=[103] \/b=[113]):Cq 102 #[Pq f.Q,Zq ⟨b.toArray⟩] w (Zq ⟨(S.doI b).2.toArray⟩) fun w'=>Dn tag w base f.Q (S.doI b).1 w':=by
 have HD:=hid h;have hc0:=hs.cycs;have RG:=zld h hs.rn hc0.1 zza;have RD:=zkM h hs.rc.1 hs.rc.2 hb;have E1:Hid (S.doI [103]=(S,xF S.pc)):=rfl;have E2:Hid (S.doI [113]=S.takeRecs):=rfl;clear h hs hc0;rcases hc with rfl|rfl|rfl
 ·go_enter func102,ntmps102
  go_wp2;go_ret;exact ⟨rfl,HD.out.still (Below.refl _ _)⟩
 ·rw [E1.out];generalize xF S.pc=t at*;go_enter func102,ntmps102
  go_wp2_with (first|(go_at_call 161;refine RG.mono ?_;rintro e w1 ⟨rfl,hw1⟩;have HM:=hid (HD.out.still hw1);clear hw1));go_ret;exact ⟨rfl,HM.out⟩
 ·rw [E2.out];generalize S.takeRecs=t at*;go_enter func102,ntmps102
  go_wp2_with (first|(go_at_call 162;refine RD.mono ?_;rintro e w1 ⟨rfl,hw1⟩;have HM:=hid hw1;clear hw1));go_ret;exact ⟨rfl,HM.out⟩
theorem zod(h:DS w base tag f S)(hi:S.pc.betw=true->S.pa=[])(hs:Sat S N)(hb:base<=w.heap.size)(r:List UInt8)(hr:r.length<=200):Cq 102 #[Pq f.Q,Zq ⟨(119::r).toArray⟩] w (Zq ⟨(S.doI (119::r)).2.toArray⟩) fun w'=>Dn tag w base f.Q (S.doI (119::r)).1 w':=by
 rw [zm1];have RP:=zlT h hi hs.pa.2 r hr hb;have F1:=ZF 119 r;have T1:=qg 119 r;generalize S.patchI r=t at*;clear h hi hs;go_enter func102,ntmps102
 go_wp2_with (first|(go_at_call 163;refine RP.mono ?_;rintro e w1 ⟨rfl,hw1⟩;have HM:=hid hw1;clear hw1));go_ret;exact ⟨rfl,HM.out⟩
theorem zf2(h:DS w base tag f S)(c:UInt8)(r:List UInt8)(hr:r.length<=200)(hw:c≠119)(h1:c::r≠ [103])(h2:c::r≠ [113])(hz:sizeC c=0\/r.length≠sizeC c):Cq 102 #[Pq f.Q,Zq ⟨(c::r).toArray⟩] w (Zq ⟨(S.doI (c::r)).2.toArray⟩) fun w'=>Dn tag w base f.Q (S.doI (c::r)).1 w':=by
 have HD:=hid h;rw [zeB hw h1 h2 (by rcases hz with z|z;exact .inr (.inl z);exact .inl z)];have F1:=ZF c r;have T1:=qg c r;have X1:=fun w=>zeA r w zza
 have q1:(c::r==[103])=false:=by simpa using h1
 have q2:(c::r==[113])=false:=by simpa using h2
 clear h h1 h2;by_cases hc:c=109\/c=98\/c=100\/c=118\/c=120\/c=115\/c=105\/c=116\/c=112
 ·rcases hc with hc|hc|hc|hc|hc|hc|hc|hc|hc
  all_goals
   first|(have e0:([c]==[119])=true:=by rw [hc];rfl)|(have e0:([c]==[119])=false:=by rw [hc];rfl)
   first|(have e1:([c]==[109])=true:=by rw [hc];rfl)|(have e1:([c]==[109])=false:=by rw [hc];rfl)
   first|(have e2:([c]==[98])=true:=by rw [hc];rfl)|(have e2:([c]==[98])=false:=by rw [hc];rfl)
   first|(have e3:([c]==[100])=true:=by rw [hc];rfl)|(have e3:([c]==[100])=false:=by rw [hc];rfl)
   first|(have e4:([c]==[118])=true:=by rw [hc];rfl)|(have e4:([c]==[118])=false:=by rw [hc];rfl)
   first|(have e5:([c]==[120])=true:=by rw [hc];rfl)|(have e5:([c]==[120])=false:=by rw [hc];rfl)
   first|(have e6:([c]==[115])=true:=by rw [hc];rfl)|(have e6:([c]==[115])=false:=by rw [hc];rfl)
   first|(have e7:([c]==[105])=true:=by rw [hc];rfl)|(have e7:([c]==[105])=false:=by rw [hc];rfl)
   first|(have e8:([c]==[116])=true:=by rw [hc];rfl)|(have e8:([c]==[116])=false:=by rw [hc];rfl)
   first|(have e9:([c]==[112])=true:=by rw [hc];rfl)|(have e9:([c]==[112])=false:=by rw [hc];rfl)
   rw [hc] at hz;have hz:=hz.resolve_left zzb;have hzi:¬(r.length:Int)=((sizeC _:Nat):Int):=fun q=>hz (Int.ofNat.inj q)
   simp [sizeC] at hz hzi;clear hc hw;go_enter func102,ntmps102
   go_wp2_with (first|(go_at_call 159;refine (X1 _).mono ?_;rintro e w1 ⟨⟨z,rfl⟩,hw1⟩;subst w1));go_ret;exact ⟨rfl,HD.out.still (Below.refl _ _)⟩
 ·simp only [not_or] at hc;obtain ⟨c1,c2,c3,c4,c5,c6,c7,c8,c9⟩:=hc;have g:∀x:UInt8,c≠x->([c]==[x])=false:=fun x hx=>by simpa using hx
  have e0:=g _ hw;have e1:=g _ c1;have e2:=g _ c2;have e3:=g _ c3;have e4:=g _ c4;have e5:=g _ c5;have e6:=g _ c6;have e7:=g _ c7;have e8:=g _ c8;have e9:=g _ c9;clear hz g hw c1 c2 c3 c4 c5 c6 c7 c8 c9;go_enter func102,ntmps102
  go_wp2_with (first|(go_at_call 159;refine (X1 _).mono ?_;rintro e w1 ⟨⟨z,rfl⟩,hw1⟩;subst w1));go_ret;exact ⟨rfl,HD.out.still (Below.refl _ _)⟩
theorem zju(h:DS w base tag f S)(c:UInt8)(r:List UInt8)(hl:r.length=sizeC c)(hb:yJ r<0\/(c=116/\1<yJ r)\/(c=112/\3<yJ r))(hc:c=109\/c=98\/c=100\/c=118\/c=120\/c=115\/c=105\/c=116\/c=112):Cq 102 #[Pq f.Q,Zq ⟨(c::r).toArray⟩] w (Zq ⟨(S.doI (c::r)).2.toArray⟩) fun w'=>Dn tag w base f.Q (S.doI (c::r)).1 w':=by
 have HD:=hid h;have hn:∀x:UInt8,c::r≠ [x]:=fun x e=>by
  injection e with e1 e2;rw [e2] at hl;rcases hc with rfl|rfl|rfl|rfl|rfl|rfl|rfl|rfl|rfl<;>cases hl
 rw [zeB (by rcases hc with rfl|rfl|rfl|rfl|rfl|rfl|rfl|rfl|rfl<;>decide) (hn _) (hn _) (by rcases hb with z|z|z;exact .inr (.inr (.inl z));exact .inr (.inr (.inr (.inl z)));exact .inr (.inr (.inr (.inr z))))];have F1:=ZF c r;have T1:=qg c r;have X1:=fun w=>XY r w (by rcases hc with rfl|rfl|rfl|rfl|rfl|rfl|rfl|rfl|rfl<;>rw [hl]<;>decide)
 have q1:(c::r==[103])=false:=by simpa using hn 103
 have q2:(c::r==[113])=false:=by simpa using hn 113
 generalize yJ r=z at*;clear h hn;rcases hc with hc|hc|hc|hc|hc|hc|hc|hc|hc
 all_goals
  first|(have e0:([c]==[119])=true:=by rw [hc];rfl)|(have e0:([c]==[119])=false:=by rw [hc];rfl)
  first|(have e1:([c]==[109])=true:=by rw [hc];rfl)|(have e1:([c]==[109])=false:=by rw [hc];rfl)
  first|(have e2:([c]==[98])=true:=by rw [hc];rfl)|(have e2:([c]==[98])=false:=by rw [hc];rfl)
  first|(have e3:([c]==[100])=true:=by rw [hc];rfl)|(have e3:([c]==[100])=false:=by rw [hc];rfl)
  first|(have e4:([c]==[118])=true:=by rw [hc];rfl)|(have e4:([c]==[118])=false:=by rw [hc];rfl)
  first|(have e5:([c]==[120])=true:=by rw [hc];rfl)|(have e5:([c]==[120])=false:=by rw [hc];rfl)
  first|(have e6:([c]==[115])=true:=by rw [hc];rfl)|(have e6:([c]==[115])=false:=by rw [hc];rfl)
  first|(have e7:([c]==[105])=true:=by rw [hc];rfl)|(have e7:([c]==[105])=false:=by rw [hc];rfl)
  first|(have e8:([c]==[116])=true:=by rw [hc];rfl)|(have e8:([c]==[116])=false:=by rw [hc];rfl)
  first|(have e9:([c]==[112])=true:=by rw [hc];rfl)|(have e9:([c]==[112])=false:=by rw [hc];rfl)
  rw [hc] at hl;have hl2:(r.length:Int)=((sizeC _:Nat):Int):=congrArg Int.ofNat hl;simp [sizeC] at hl hl2;simp [hc] at hb
 iterate 7
  ·clear hc;go_enter func102,ntmps102
   go_wp2_with (first|(go_at_call 159;refine (X1 _).mono ?_;rintro e w1 ⟨rfl,hw1⟩;subst w1));go_ret;exact ⟨rfl,HD.out.still (Below.refl _ _)⟩
 all_goals
  clear hc;rcases hb with hb|hb
 all_goals
  try (have hb2:¬z<0:=by omega)
  go_enter func102,ntmps102
  go_wp2_with (first|(go_at_call 159;refine (X1 _).mono ?_;rintro e w1 ⟨rfl,hw1⟩;subst w1));go_ret;exact ⟨rfl,HD.out.still (Below.refl _ _)⟩
end
theorem zd5:∀i:Fin 256,(hv (UInt8.ofNat i)).2=true->(hv (UInt8.ofNat i)).1.toNat<=3->(UInt8.ofNat i).toNat=48+(hv (UInt8.ofNat i)).1.toNat:=by decide+kernel
theorem Vo(x:UInt8)(h0:¬yJ [x]<0)(h3:yJ [x]<=3):(x=48/\yJ [x]=0)\/(x=49/\yJ [x]=1)\/(x=50/\yJ [x]=2)\/(x=51/\yJ [x]=3):=by
 have q:=zd5 ⟨x.toNat,x.toNat_lt⟩;rw [show UInt8.ofNat (⟨x.toNat,x.toNat_lt⟩:Fin 256)=x from UInt8.ofNat_toNat] at q;rw [GR] at h0 h3⊢;cases e:(hv x).2
 ·rw [e] at h0;simp at h0
 ·rw [e,if_pos rfl] at h3;have h:=q e zza;rw [if_pos rfl];have k:∀n:Nat,n<256->x.toNat=n->x=UInt8.ofNat n:=fun n hn e=>by rw [<-e,UInt8.ofNat_toNat]
  have:(hv x).1.toNat=0\/(hv x).1.toNat=1\/(hv x).1.toNat=2\/(hv x).1.toNat=3:=by omega
  rcases this with e|e|e|e<;>rw [e] at h⊢
  ·exact .inl ⟨k 48 zzb h,rfl⟩
  ·exact .inr (.inl ⟨k 49 zzb h,rfl⟩)
  ·exact .inr (.inr (.inl ⟨k 50 zzb h,rfl⟩))
  ·exact .inr (.inr (.inr ⟨k 51 zzb h,rfl⟩))
theorem JY{r:List UInt8}{n:Nat}(hr:r.length=2*n)(h:¬yJ r<0):∃l,yP r=some l/\l.length=n:=by
 rw [vJ hr] at h;cases hx:yP r with
 |none=>rw [hx] at h;exact absurd zzb h
 |some l=>exact ⟨l,rfl,by have:=vu _ _ _ (Nat.le_refl _) hx;omega⟩
theorem jQ{r:List UInt8}(hr:r.length=4)(h:¬yJ r<0):∃l,yP r=some l/\l.drop 2=[]/\yJ r=yo l/\2<=l.length:=by
 obtain ⟨l,h1,h2⟩:=JY (n:=2) hr h;refine ⟨l,h1,List.drop_of_length_le zza,?_,by omega⟩;have:=JJ h1 zza;rwa [List.take_of_length_le zza] at this
theorem zgN{r:List UInt8}(hr:r.length=6)(h:¬yJ r<0):∃x y z,yP r=some [x,y,z]/\yJ r=256*yo [x,y,z]+(z.toNat:Int):=by
 obtain ⟨l,h1,h2⟩:=JY (n:=3) hr h;match l,h2 with
 | [x,y,z],_=>exact ⟨x,y,z,h1,by rw [vJ (n:=3) hr,h1];exact zc8 x y z⟩
theorem jR{S:SB}{c:UInt8}{r l:List UInt8}(hr:r.length=4)(h:yP r=some l)(h2:2<=l.length)(hd:l.drop 2=[]):S.doI (c::r)=S.doW c (yo l) []:=by
 rw [Yu (.inr zza),h];show (if l.length<2 then (S,eT 49) else S.doW c (yo l) (l.drop 2))=_;rw [if_neg zza,hd]
section
variable {w:World} {base:Nat} {tag:Nat->Nat} {f:DF} {S:SB} {N:Int}
theorem zkG{p:Prop} (q:p:=by
 clear hv hc z0 z1 z2 HR;go_enter func102,ntmps102
 go_wp2_with (first|(go_at_call 159;refine (X1 _).mono ?_;rintro e w1 ⟨rfl,hw1⟩;subst w1));go_ret;exact ⟨rfl,HM.out⟩):p:=q
theorem zm3{p:Prop} (q:p:=by
 generalize yo l=n at*;clear hv hx hd h2 hc z1 z2 hnl HR b1 b2;go_enter func102,ntmps102
 go_wp2_with (first|(go_at_call 159;refine (X1 _).mono ?_;rintro e w1 ⟨rfl,hw1⟩;subst w1)|(go_at_call 165;refine RP.mono ?_;rintro e w1 ⟨v',l',rfl,hb1,ho1,hP1,hv1⟩;obtain ⟨a',c',rfl, -⟩:=yG ho1;have HM:=hid (HD.out.brk hb1 _ l' _ ho1 hP1 hv1);have k5:w1.cell? (Aq f.Q 5)=some f.vb:=(hb1.cell (p:=(Aq f.Q 5)) lQ).trans q5;have kf:w1.frozen? (Aq f.Q 5)=false:=(World.frozen?_of_block (a:=(Aq f.Q 5)) (hb1.block f.Q lQ)).trans f5;clear hb1 ho1 hP1 hv1));go_ret;exact ⟨rfl,HM.out⟩):p:=q
theorem zmq{p:Prop} (q:p:=by
 generalize yo l=n at*;clear hv hx hd h2 hc z1 z2 hnl HR b1 b2;go_enter func102,ntmps102
 go_wp2_with (first|(go_at_call 159;refine (X1 _).mono ?_;rintro e w1 ⟨rfl,hw1⟩;subst w1)|(go_at_call 165;refine RP.mono ?_;rintro e w1 ⟨v',l',rfl,hb1,ho1,hP1,hv1⟩;obtain ⟨a',c',rfl, -⟩:=yG ho1;have HM:=hid (HD.out.wat hb1 _ l' _ ho1 hP1 hv1);have k5:w1.cell? (Aq f.Q 6)=some f.vw:=(hb1.cell (p:=(Aq f.Q 6)) lQ).trans q5;have kf:w1.frozen? (Aq f.Q 6)=false:=(World.frozen?_of_block (a:=(Aq f.Q 6)) (hb1.block f.Q lQ)).trans f5;clear hb1 ho1 hP1 hv1));go_ret;exact ⟨rfl,HM.out⟩):p:=q
theorem zms{p:Prop} (q:p:=by
 generalize yo l=n at*;clear hv hx hd h2 hc z1 z2 hnl HR;go_enter func102,ntmps102
 go_wp2_with (first|(go_at_call 159;refine (X1 _).mono ?_;rintro e w1 ⟨rfl,hw1⟩;subst w1)|(go_at_call 166;refine RP.mono ?_;rintro e w1 ⟨rfl,hw1⟩;have HM:=hid hw1;clear hw1));go_ret;exact ⟨rfl,HM.out⟩):p:=q
theorem zgO(h:DS w base tag f S)(hs:Sat S N)(hN:N<3000000000000000000)(hb:base<=w.heap.size)(c:UInt8)(r:List UInt8)(hl:r.length=sizeC c)(hz:¬(yJ r<0\/(c=116/\1<yJ r)\/(c=112/\3<yJ r)))(hc:c=109\/c=98\/c=100\/c=118\/c=120\/c=115\/c=105\/c=116\/c=112):Cq 102 #[Pq f.Q,Zq ⟨(c::r).toArray⟩] w (Zq ⟨(S.doI (c::r)).2.toArray⟩) fun w'=>Dn tag w base f.Q (S.doI (c::r)).1 w':=by
 have HD:=hid h;have HS:=hid hs;have hn:∀x:UInt8,c::r≠ [x]:=fun x e=>by
  injection e with e1 e2;rw [e2] at hl;rcases hc with rfl|rfl|rfl|rfl|rfl|rfl|rfl|rfl|rfl<;>cases hl
 have F1:=ZF c r;have T1:=qg c r;have X1:=fun w=>XY r w (by rcases hc with rfl|rfl|rfl|rfl|rfl|rfl|rfl|rfl|rfl<;>rw [hl]<;>decide)
 have q1:(c::r==[103])=false:=by simpa using hn 103
 have q2:(c::r==[113])=false:=by simpa using hn 113
 simp only [not_or] at hz;obtain ⟨z0,z1,z2⟩:=hz;clear h hn hs;rcases hc with hc|hc|hc|hc|hc|hc|hc|hc|hc
 all_goals
  first|(have e0:([c]==[119])=true:=by rw [hc];rfl)|(have e0:([c]==[119])=false:=by rw [hc];rfl)
  first|(have e1:([c]==[109])=true:=by rw [hc];rfl)|(have e1:([c]==[109])=false:=by rw [hc];rfl)
  first|(have e2:([c]==[98])=true:=by rw [hc];rfl)|(have e2:([c]==[98])=false:=by rw [hc];rfl)
  first|(have e3:([c]==[100])=true:=by rw [hc];rfl)|(have e3:([c]==[100])=false:=by rw [hc];rfl)
  first|(have e4:([c]==[118])=true:=by rw [hc];rfl)|(have e4:([c]==[118])=false:=by rw [hc];rfl)
  first|(have e5:([c]==[120])=true:=by rw [hc];rfl)|(have e5:([c]==[120])=false:=by rw [hc];rfl)
  first|(have e6:([c]==[115])=true:=by rw [hc];rfl)|(have e6:([c]==[115])=false:=by rw [hc];rfl)
  first|(have e7:([c]==[105])=true:=by rw [hc];rfl)|(have e7:([c]==[105])=false:=by rw [hc];rfl)
  first|(have e8:([c]==[116])=true:=by rw [hc];rfl)|(have e8:([c]==[116])=false:=by rw [hc];rfl)
  first|(have e9:([c]==[112])=true:=by rw [hc];rfl)|(have e9:([c]==[112])=false:=by rw [hc];rfl)
  rw [hc] at hl;have HL:=hid hl;have hl2:(r.length:Int)=((sizeC _:Nat):Int):=congrArg Int.ofNat hl;simp [sizeC] at hl hl2
 ·obtain ⟨x,y,z,hx,hv⟩:=zgN hl z0;have HR:Hid (S.doI (c::r)=(S,S.tellMem (yo [x,y,z]) (z.toNat:Int))):=by
   show _=_;rw [hc,Yu (.inr zza),hx];rfl
  have RB:=zle HD.out HS.out.rn (yo [x,y,z]) (z.toNat:Int) (vM _).1 (vM _).2;have hz8:=z.toNat_lt;have hnl:=vM [x,y,z];have d1:(yJ r).tdiv 256=yo [x,y,z]:=by rw [Int.tdiv_eq_ediv_of_nonneg zza,hv];omega
  have d2:(yJ r).tmod 256=(z.toNat:Int):=by rw [Int.tmod_eq_emod_of_nonneg zza,hv];omega
  rw [HR.out];have hv2:yJ r<=5000000000:=by omega
  obtain ⟨k1,k2⟩:0<=yo [x,y,z]/\yo [x,y,z]<=70000:=by omega
  obtain ⟨k3,k4⟩:0<=(z.toNat:Int)/\(z.toNat:Int)<=300:=by omega
  clear hv hx hz8 hnl HR;generalize S.tellMem (yo [x,y,z]) (z.toNat:Int)=t at*;generalize yo [x,y,z]=n1 at*;generalize (z.toNat:Int)=n2 at*;generalize yJ r=v at*;clear hc z1 z2;go_enter func102,ntmps102
  go_wp2_with (first|(go_at_call 159;refine (X1 _).mono ?_;rintro e w1 ⟨rfl,hw1⟩;subst w1)|(go_at_call 164;refine RB.mono ?_;rintro e w1 ⟨rfl,hw1⟩;subst w1));go_ret;exact ⟨rfl,HD.out.still (Below.refl _ _)⟩
 ·obtain ⟨l,hx,hd,hv,h2⟩:=jQ hl z0;have HR:Hid (S.doI (c::r)=({S with bp:=(S.bp.add (yo l)).1},(S.bp.add (yo l)).2)):=by show _=_;rw [hc,jR hl hx h2 hd];rfl
  obtain ⟨lb,b1,b2⟩:=HD.out.c.bk;have RP:=Ur base lb S.bp b2 HS.out.pts.1 f.vb (yo l) true w b1 hb;simp only [if_true] at RP;have hnl:=vM l;obtain ⟨k1,k2⟩:0<=yo l/\yo l<=70000:=by omega
  rw [HR.out];rw [hv] at X1 z0;have q5:=HD.out.blk.cq 5;have f5:=HD.out.blk.free 5;have lQ:=HD.out.blk.lt;generalize S.bp.add (yo l)=R at*;exact zm3
 ·obtain ⟨l,hx,hd,hv,h2⟩:=jQ hl z0;have HR:Hid (S.doI (c::r)=({S with bp:=(S.bp.remove (yo l)).1},(S.bp.remove (yo l)).2)):=by show _=_;rw [hc,jR hl hx h2 hd];rfl
  obtain ⟨lb,b1,b2⟩:=HD.out.c.bk;have RP:=Ur base lb S.bp b2 HS.out.pts.1 f.vb (yo l) false w b1 hb;simp only [Bool.false_eq_true,if_false] at RP;have hnl:=vM l;obtain ⟨k1,k2⟩:0<=yo l/\yo l<=70000:=by omega
  rw [HR.out];rw [hv] at X1 z0;have q5:=HD.out.blk.cq 5;have f5:=HD.out.blk.free 5;have lQ:=HD.out.blk.lt;generalize S.bp.remove (yo l)=R at*;exact zm3
 ·obtain ⟨l,hx,hd,hv,h2⟩:=jQ hl z0;have HR:Hid (S.doI (c::r)=({S with wp:=(S.wp.add (yo l)).1},(S.wp.add (yo l)).2)):=by show _=_;rw [hc,jR hl hx h2 hd];rfl
  obtain ⟨lb,b1,b2⟩:=HD.out.c.wt;have RP:=Ur base lb S.wp b2 HS.out.pts.2 f.vw (yo l) true w b1 hb;simp only [if_true] at RP;have hnl:=vM l;obtain ⟨k1,k2⟩:0<=yo l/\yo l<=70000:=by omega
  rw [HR.out];rw [hv] at X1 z0;have q5:=HD.out.blk.cq 6;have f5:=HD.out.blk.free 6;have lQ:=HD.out.blk.lt;generalize S.wp.add (yo l)=R at*;exact zmq
 ·obtain ⟨l,hx,hd,hv,h2⟩:=jQ hl z0;have HR:Hid (S.doI (c::r)=({S with wp:=(S.wp.remove (yo l)).1},(S.wp.remove (yo l)).2)):=by show _=_;rw [hc,jR hl hx h2 hd];rfl
  obtain ⟨lb,b1,b2⟩:=HD.out.c.wt;have RP:=Ur base lb S.wp b2 HS.out.pts.2 f.vw (yo l) false w b1 hb;simp only [Bool.false_eq_true,if_false] at RP;have hnl:=vM l;obtain ⟨k1,k2⟩:0<=yo l/\yo l<=70000:=by omega
  rw [HR.out];rw [hv] at X1 z0;have q5:=HD.out.blk.cq 6;have f5:=HD.out.blk.free 6;have lQ:=HD.out.blk.lt;generalize S.wp.remove (yo l)=R at*;exact zmq
 ·obtain ⟨l,hx,hd,hv,h2⟩:=jQ hl z0;have HR:Hid (S.doI (c::r)=S.go (10*(yo l).toNat+9) (yo l) false 0):=by show _=_;rw [hc,jR hl hx h2 hd];rfl
  have hnl:=vM l;obtain ⟨k1,k2⟩:0<=yo l/\yo l<=70000:=by omega
  have RP:=zj4 HD.out HS.out hN (yo l) hnl.1 zza false hb;rw [HR.out];rw [hv] at X1 z0;generalize S.go (10*(yo l).toNat+9) (yo l) false 0=R at*;exact zms
 ·obtain ⟨l,hx,hd,hv,h2⟩:=jQ hl z0;have HR:Hid (S.doI (c::r)=S.goIns (yo l)):=by show _=_;rw [hc,jR hl hx h2 hd];rfl
  have hnl:=vM l;obtain ⟨k1,k2⟩:0<=yo l/\yo l<=70000:=by omega
  have RP:=zj4 HD.out HS.out hN (yo l) hnl.1 zza true hb;rw [HR.out];rw [hv] at X1 z0;unfold SB.goIns;by_cases h9:4095<yo l
  ·rw [if_pos h9];clear RP;generalize yo l=n at*;clear hv hx hd h2 hc z1 z2 hnl HR;go_enter func102,ntmps102
   go_wp2_with (first|(go_at_call 159;refine (X1 _).mono ?_;rintro e w1 ⟨rfl,hw1⟩;subst w1));go_ret;exact ⟨rfl,HD.out.still (Below.refl _ _)⟩
  ·rw [if_neg h9];generalize S.go (10*(yo l).toNat+9) (yo l) true 0=R at*;exact zms
 ·obtain ⟨x,rfl⟩:=List.length_eq_one_iff.1 hl;have hx:=Vo x z0 (by have:¬1<yJ [x]:=fun q=>z1 ⟨hc,q⟩;omega);have hx:(x=48/\yJ [x]=0)\/(x=49/\yJ [x]=1):=by
   have:¬1<yJ [x]:=fun q=>z1 ⟨hc,q⟩
   rcases hx with h|h|h|h
   ·exact .inl h
   ·exact .inr h
   ·exact absurd h.2 zza
   ·exact absurd h.2 zza
  have q7:=HD.out.blk.cq 7;have f7:=HD.out.blk.free 7;have lQ:=HD.out.blk.lt;rcases hx with ⟨rfl,hv⟩|⟨rfl,hv⟩
  ·have HR:Hid (S.doI (c::[48])=({S with re:=false},[79,75])):=by show _=_;rw [hc];rfl
   rw [HR.out];rw [hv] at X1;have HM:=hid (HD.out.on false);exact zkG
  ·have HR:Hid (S.doI (c::[49])=({S with re:=true},[79,75])):=by show _=_;rw [hc];rfl
   rw [HR.out];rw [hv] at X1;have HM:=hid (HD.out.on true);exact zkG
 ·obtain ⟨x,rfl⟩:=List.length_eq_one_iff.1 hl;have hx:=Vo x z0 (by have:¬3<yJ [x]:=fun q=>z2 ⟨hc,q⟩;omega);have q2':w.cell? (Aq f.Q 2)=some (Tq S.nmi):=HD.out.blk.cell 2;have q3':w.cell? (Aq f.Q 3)=some (Tq S.irq):=HD.out.blk.cell 3;have f2:=HD.out.blk.free 2;have f3:=HD.out.blk.free 3;have lQ:=HD.out.blk.lt;rcases hx with ⟨rfl,hv⟩|⟨rfl,hv⟩|⟨rfl,hv⟩|⟨rfl,hv⟩
  ·have HR:Hid (S.doI (c::[48])=({S with nmi:=false,irq:=false},[79,75])):=by show _=_;rw [hc];rfl
   rw [HR.out];rw [hv] at X1;have HM:=hid (HD.out.pins false false);exact zkG
  ·have HR:Hid (S.doI (c::[49])=({S with nmi:=true,irq:=false},[79,75])):=by show _=_;rw [hc];rfl
   rw [HR.out];rw [hv] at X1;have HM:=hid (HD.out.pins true false);exact zkG
  ·have HR:Hid (S.doI (c::[50])=({S with nmi:=false,irq:=true},[79,75])):=by show _=_;rw [hc];rfl
   rw [HR.out];rw [hv] at X1;have HM:=hid (HD.out.pins false true);exact zkG
  ·have HR:Hid (S.doI (c::[51])=({S with nmi:=true,irq:=true},[79,75])):=by show _=_;rw [hc];rfl
   rw [HR.out];rw [hv] at X1;have HM:=hid (HD.out.pins true true);exact zkG
theorem rdo(h:DS w base tag f S)(hs:Sat S N)(hN:N<3000000000000000000)(hi:S.pc.betw=true->S.pa=[])(hb:base<=w.heap.size)(b:List UInt8)(hl:b.length<=200):Cq 102 #[Pq f.Q,Zq ⟨b.toArray⟩] w (Zq ⟨(S.doI b).2.toArray⟩) fun w'=>Dn tag w base f.Q (S.doI b).1 w':=by
 by_cases h0:b=[] \/b=[103] \/b=[113]
 ·exact zdc h hs hN hb b h0
 ·simp only [not_or] at h0;match b,h0,hl with
  | [],h0,_=>exact absurd rfl h0.1
  |c::r,h0,hl=>
   have hr:r.length<=200:=by simp at hl;omega
   by_cases hw:c=119
   ·subst hw;exact zod h hi hs hb r hr
   ·by_cases hc:c=109\/c=98\/c=100\/c=118\/c=120\/c=115\/c=105\/c=116\/c=112
    ·by_cases hz:r.length=sizeC c
     ·by_cases hx:yJ r<0\/(c=116/\1<yJ r)\/(c=112/\3<yJ r)
      ·exact zju h c r hz hx hc
      ·exact zgO h hs hN hb c r hz hx hc
     ·exact zf2 h c r hr hw h0.2.1 h0.2.2 (.inr hz)
    ·refine zf2 h c r hr hw h0.2.1 h0.2.2 (.inl ?_);simp only [not_or] at hc;unfold sizeC;rw [if_neg hc.1,if_neg (by simp only [not_or];exact ⟨hc.2.1,hc.2.2.1,hc.2.2.2.1,hc.2.2.2.2.1,hc.2.2.2.2.2.1,hc.2.2.2.2.2.2.1⟩),if_neg (by simp only [not_or];exact ⟨hc.2.2.2.2.2.2.2.1,hc.2.2.2.2.2.2.2.2⟩)]
end
