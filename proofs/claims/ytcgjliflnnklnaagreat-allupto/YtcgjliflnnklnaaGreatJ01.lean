import Derived.WalkKit
import Derived.WalkSpells
import Derived.WalkLawsBesides
import Derived.Laws.BitsAllLaws
import Derived.Deep.AppendLies
import Derived.Deep.RegionLaw
import Derived.Deep.RegionHeld3
import Derived.Deep.QuietTactic
import Derived.BigQuiet
import Derived.Test.YtcgjliflnnklnaaGreatProg
namespace Go.Proofs.YtcgjliflnnklnaaGreat
open Go.RowKit Tryz
set_option maxRecDepth 100000
set_option maxHeartbeats 2000000
theorem zza{p:Prop}(q:p:=by omega):p:=q
theorem zzb{p:Prop}(q:p:=by decide):p:=q
theorem zzc{p:Prop}(q:p:=by simp):p:=q
theorem zzd{p:Prop}(q:p:=by simp;omega):p:=q
theorem zze{p:Prop}(q:p:=by unfold maxLen;omega):p:=q
theorem zzf{p:Prop}(q:p:=by kernel_rfl):p:=q
theorem zzg{p:Prop}(q:p:=by simp only [World.size_alloc];omega):p:=q
theorem zzh{p:Prop}(q:p:=by assumption):p:=q
theorem qH1{p:Prop}(a0:p):Hid (p):=a0
theorem qH2{p q:Prop}(a0:p)(a1:q):Hid (p/\q):=⟨a0,a1⟩
theorem qH3{p q r:Prop}(a0:p)(a1:q)(a2:r):Hid (p/\q/\r):=⟨a0,a1,a2⟩
theorem qH4{p q r s:Prop}(a0:p)(a1:q)(a2:r)(a3:s):Hid (p/\q/\r/\s):=⟨a0,a1,a2,a3⟩
theorem qH5{p q r s t:Prop}(a0:p)(a1:q)(a2:r)(a3:s)(a4:t):Hid (p/\q/\r/\s/\t):=⟨a0,a1,a2,a3,a4⟩
theorem qH6{p q r s t u:Prop}(a0:p)(a1:q)(a2:r)(a3:s)(a4:t)(a5:u):Hid (p/\q/\r/\s/\t/\u):=⟨a0,a1,a2,a3,a4,a5⟩
theorem qH7{p q r s t u v:Prop}(a0:p)(a1:q)(a2:r)(a3:s)(a4:t)(a5:u)(a6:v):Hid (p/\q/\r/\s/\t/\u/\v):=⟨a0,a1,a2,a3,a4,a5,a6⟩
theorem qH8{p q r s t u v w:Prop}(a0:p)(a1:q)(a2:r)(a3:s)(a4:t)(a5:u)(a6:v)(a7:w):Hid (p/\q/\r/\s/\t/\u/\v/\w):=⟨a0,a1,a2,a3,a4,a5,a6,a7⟩
abbrev Iq(k:Int):Value:=.int .i64 k
abbrev Uq(k:Int):Value:=.int .u8 k
abbrev Pq(B:Nat):Value:=.pointer (some ⟨B,0,none⟩)
abbrev Sq(B n c:Nat):Value:=.slice (some ⟨B,0,none⟩) n c
abbrev Nq:Value:=.slice none 0 0
abbrev Aq(B o:Nat):Addr:=⟨B,o,none⟩
abbrev Bq(w v:World):Prop:=Below w.heap.size w v
abbrev Cq(f:Nat)(a:Array Value)(w:World)(v:Value)(Q:World->Prop):Prop:=Calls prog f a w fun e w=>e=.returned v/\Q w
abbrev Tq(b:Bool):Value:=.bool b
abbrev Zq(s:ByteArray):Value:=.string s
theorem qBa{w:World}{o:Obj}:Below w.heap.size w (w.alloc o):=(Below.refl _ _).alloc (Nat.le_refl _) _
section
def hv(c:UInt8):UInt8 × Bool:=
 if 48<=c/\c<=57 then (c-48,true) else if 97<=c/\c<=102 then (c-97+10,true) else if 65<=c/\c<=70 then (c-65+10,true) else (0,false)
theorem Q8{p:UInt8->Prop}(h:∀n:Fin 256,p (UInt8.ofFin n))(c:UInt8):p c:=h c.toFin
theorem zdO(c:UInt8):((hv c).1.toNat:Int)=if 48<=(c.toNat:Int)/\(c.toNat:Int)<=57 then (c.toNat:Int)-48 else
  if 97<=(c.toNat:Int)/\(c.toNat:Int)<=102 then (c.toNat:Int)-97+10 else if 65<=(c.toNat:Int)/\(c.toNat:Int)<=70 then (c.toNat:Int)-65+10 else 0:=by
 revert c;apply Q8;decide+kernel
theorem Hf(c:UInt8):(hv c).2=decide ((48<=(c.toNat:Int)/\(c.toNat:Int)<=57)\/(97<=(c.toNat:Int)/\(c.toNat:Int)<=102)\/(65<=(c.toNat:Int)/\(c.toNat:Int)<=70)):=by
 revert c;apply Q8;decide+kernel
theorem XN{a b:Int}{x y:Bool}(h:a=b)(h':x=y):Ending.returned (.tuple #[Uq a,Tq x])=.returned (.tuple #[Uq b,Tq y]):=by rw [h,h']
theorem xT{k:IntKind}{a b:Int}(h:a=b):Ending.returned (.int k a)=.returned (.int k b):=by rw [h]
theorem Yk(c:UInt8)(w:World):Cq 185 #[Uq c.toNat] w (.tuple #[Uq (hv c).1.toNat,Tq (hv c).2]) fun w'=>w'=w:=by
 have hc:(c.toNat:Int)<256:=by have:=c.toNat_lt;omega
 go_enter func185,ntmps185;go_wp2;all_goals go_ret2
 all_goals
  refine ⟨XN ?_ ?_,rfl⟩
  ·rw [zdO];first|(rw [if_pos zza];done)|(rw [if_neg zza,if_pos zza];done)|(rw [if_neg zza,if_neg zza,if_pos zza];done)|(rw [if_neg zza,if_neg zza,if_neg zza];done)
  ·rw [Hf];symm;first|(rw [decide_eq_true_eq];omega)|(rw [decide_eq_false_iff_not];omega)
theorem za9(c n:Int)(h:1<=n)(hc:c<0):0<= -(c+1).tmod n/\ -(c+1).tmod n<n:=by
 rw [<-Int.neg_tmod,Int.tmod_eq_emod_of_nonneg zza];exact ⟨Int.emod_nonneg _ zza,Int.emod_lt_of_pos _ zza⟩
theorem zkB(a b:UInt8):bits .or .u8 ((a.toNat:Int)*16%256) (b.toNat:Int)=((a<<<4|||b).toNat:Int):=by
 have e:(a.toNat:Int)*(16:Int)% (256:Int)=((a<<<4).toNat:Int):=by revert a;apply Q8;decide+kernel
 rw [e,u8_or_nat _ _ (UInt8.toNat_lt _) (UInt8.toNat_lt _),UInt8.toNat_or]
def hb(h l:UInt8):UInt8 × Bool:=if (hv h).2=true/\(hv l).2=true then ((hv h).1<<<4|||(hv l).1,true) else (0,false)
theorem ve(h l:UInt8)(w:World):Cq 135 #[Uq h.toNat,Uq l.toNat] w (.tuple #[Uq (hb h l).1.toNat,Tq (hb h l).2]) fun w'=>w'=w:=by
 have hc1:((hv h).1.toNat:Int)<256:=by have:=(hv h).1.toNat_lt;omega
 have hc2:((hv l).1.toNat:Int)<256:=by have:=(hv l).1.toNat_lt;omega
 go_enter func135,ntmps135;go_wp2_with fail;refine (Yk h _).mono ?_;rintro e w' ⟨rfl,rfl⟩;go_wp2_with fail;refine (Yk l _).mono ?_;rintro e w' ⟨rfl,rfl⟩;go_wp2;all_goals go_ret2
 ·have e1:(hv h).snd=true:=by assumption
  have e2:(!(hv l).snd)=true:=by assumption
  exact ⟨XN (by simp_all [hb]) (by simp_all [hb]),rfl⟩
 ·have e1:(hv h).snd=true:=by assumption
  have e2:(!(hv l).snd)=false:=by assumption
  have e3:(hv l).snd=true:=by simpa using e2
  refine ⟨XN ?_ (by simp [hb,e1,e3]),rfl⟩;rw [zkB];simp [hb,e1,e3]
 ·have e1:¬(hv h).snd=true:=by assumption
  exact ⟨XN (by simp_all [hb]) (by simp_all [hb]),rfl⟩
end
section
def xG(l:List UInt8):UInt8:=l.foldl (·+·) 0
theorem zbW(l:List UInt8)(c:UInt8):xG (l++ [c])=xG l+c:=by simp [xG]
theorem zkC(a b:UInt8):((a.toNat:Int)+(b.toNat:Int))%256=((a+b).toNat:Int):=by
 rw [UInt8.toNat_add];omega
def zy(w:World)(b off:Nat)(l:List UInt8):Prop:=∀i,(h:i<l.length)->w.cell? ⟨b,off+i,none⟩=some (Uq (l[i].toNat:Int))
theorem jp(l:List UInt8)(k:Nat)(h:k<l.length):l.take (k+1)=l.take k++ [l[k]]:=by
 rw [List.take_succ_eq_append_getElem h]
theorem XO(b off cap:Nat)(l:List UInt8)(w:World)(hl:l.length<=140737488355328)(h:zy w b off l):Cq 86 #[.slice (some (Aq b off)) l.length cap] w (Uq (xG l).toNat) fun w'=>w'=w:=by
 have H:=h;clear h;go_enter func86,ntmps86;go_wp2;go_loop [3,8] (fun t i=> ∃k:Nat,k<=l.length/\i=Iq k/\t=Uq (xG (l.take k)).toNat) (fun _ i=>l.length-(intOf i).toNat);case atStart=>exact ⟨0,Nat.zero_le _,rfl,rfl⟩
 case round=>
  obtain ⟨k,hk,rfl,rfl⟩:=hrel;by_cases hlt:k<l.length
  ·have hcell:=H k hlt;have hs:Hid (xG (l.take (k+1))=xG (l.take k)+l[k]):=by rw [jp l k hlt];exact zbW _ _
   have b1:((xG (l.take k)).toNat:Int)<256:=by have:=(xG (l.take k)).toNat_lt;omega
   have b2:(l[k].toNat:Int)<256:=by have:=l[k].toNat_lt;omega
   go_wp2;go_round;case rel=>exact ⟨k+1,by omega,by go_num,by rw [hs.out, <-zkC]⟩
   case measure=>simp [intOf];omega
  ·go_wp2;go_ret;exact ⟨xT (by rw [List.take_of_length_le zza]),rfl⟩
structure Sc where
 st:Nat
 raw:List UInt8
 sum:UInt8
def Sc.step(s:Sc)(c:UInt8):Sc:=
 if s.st=0 then (if c=36 then ⟨1,[],s.sum⟩ else s)
 else if s.st=1 then (if c=36 then ⟨1,[],s.sum⟩ else if c=35 then ⟨2,s.raw,s.sum⟩ else if s.raw.length=200 then ⟨0,s.raw,s.sum⟩ else ⟨1,s.raw++ [c],s.sum⟩)
 else if s.st=2 then ⟨3,s.raw,c⟩
 else ⟨0,s.raw,s.sum⟩
structure ScAt (w:World) (B:Nat) (s:Sc):Prop where
 st3:s.st<=3
 len:s.raw.length<=200
 cst:w.cell? (Aq B 0)=some (Uq (s.st:Int))
 cnt:w.cell? (Aq B 201)=some (Iq (s.raw.length:Int))
 csum:w.cell? (Aq B 202)=some (Uq (s.sum.toNat:Int))
 bytes:zy w B 1 s.raw
 there:∀i,i<200->∃v,w.cell? ⟨B,1+i,none⟩=some v
 free:∀o,w.frozen? (Aq B o)=false
theorem zQ(B a b:Nat)(h:a≠b):((Aq B a):Addr)≠ (Aq B b):=by
 intro e;injection e with e1 e2;exact h e2
theorem zc4{p:Prop} (q:p:=by
 intro i hi;rw [World.cell?_setCell_other _ _ _ _ (zQ _ _ _ zza)];exact h.there i hi):p:=q
theorem zkL{p:Prop} (q:p:=by
 rw [World.cell?_setCell_other _ _ _ _ (zQ _ _ _ zza)];exact h.csum):p:=q
theorem znY{p:Prop} (q:p:=by
 rw [World.cell?_setCell_other _ _ _ _ (zQ _ _ _ zza)];exact h.cnt):p:=q
theorem zpO{p:Prop} (q:p:=by
 intro i hi;rw [World.cell?_setCell_other _ _ _ _ (zQ _ _ _ zza)];exact h.bytes i hi):p:=q
theorem ScAt.setSt{w:World}{B:Nat}{s:Sc}(h:ScAt w B s)(n:Nat)(hn:n<=3):ScAt (w.setCell (Aq B 0) (Uq (n:Int))) B ⟨n,s.raw,s.sum⟩:=by
 refine ⟨hn,h.len,World.cell?_setCell_same _ _ _ h.cst,?_,?_,?_,?_,?_⟩
 ·exact znY
 ·exact zkL
 ·exact zpO
 ·exact zc4
 ·intro o;rw [World.frozen?_setCell];exact h.free o
theorem znZ{p:Prop} (q:p:=by
 rw [World.cell?_setCell_other _ _ _ _ (zQ _ _ _ zza)];exact h.cst):p:=q
theorem ScAt.clear{w:World}{B:Nat}{s:Sc}(h:ScAt w B s):ScAt (w.setCell (Aq B 201) (Iq 0)) B ⟨s.st,[],s.sum⟩:=by
 refine ⟨h.st3,by simp,?_,?_,?_,?_,?_,?_⟩
 ·exact znZ
 ·exact World.cell?_setCell_same _ _ _ h.cnt
 ·exact zkL
 ·intro i hi;simp at hi
 ·exact zc4
 ·intro o;rw [World.frozen?_setCell];exact h.free o
theorem zoa{p:Prop} (q:p:=by
 intro i hi;have:=h.len;have hi':i<s.raw.length:=hi;rw [World.cell?_setCell_other _ _ _ _ (zQ _ _ _ zza)];exact h.bytes i hi):p:=q
theorem ScAt.setSum{w:World}{B:Nat}{s:Sc}(h:ScAt w B s)(c:UInt8):ScAt (w.setCell (Aq B 202) (Uq (c.toNat:Int))) B ⟨s.st,s.raw,c⟩:=by
 refine ⟨h.st3,h.len,?_,?_,World.cell?_setCell_same _ _ _ h.csum,?_,?_,?_⟩
 ·exact znZ
 ·exact znY
 ·exact zoa
 ·exact zc4
 ·intro o;rw [World.frozen?_setCell];exact h.free o
theorem zes{p:Prop} (q:p:=by
 intro i hi;simp at hi;rw [World.cell?_setCell_other _ _ _ _ (zQ _ _ _ zza)];by_cases e:i=s.raw.length
 ·subst e;rw [World.cell?_setCell_same _ _ _ hv];simp
 ·rw [World.cell?_setCell_other _ _ _ _ (zQ _ _ _ zza),h.bytes i zza];simp [List.getElem_append_left (show i<s.raw.length by omega)]):p:=q
theorem zgv{p:Prop} (q:p:=by
 intro i hi;rw [World.cell?_setCell_other _ _ _ _ (zQ _ _ _ zza)];by_cases e:i=s.raw.length
 ·subst e;exact ⟨_,World.cell?_setCell_same _ _ _ hv⟩
 ·rw [World.cell?_setCell_other _ _ _ _ (zQ _ _ _ zza)];exact h.there i hi):p:=q
theorem zm2{p:Prop} (q:p:=by
 rw [World.cell?_setCell_other _ _ _ _ (zQ _ _ _ zza),World.cell?_setCell_other _ _ _ _ (zQ _ _ _ zza)];exact h.csum):p:=q
theorem znX{p:Prop} (q:p:=by
 rw [World.cell?_setCell_other _ _ _ _ (zQ _ _ _ zza),World.cell?_setCell_other _ _ _ _ (zQ _ _ _ zza)];exact h.cst):p:=q
theorem ScAt.push{w:World}{B:Nat}{s:Sc}(h:ScAt w B s)(c:UInt8)(hl:s.raw.length<200):ScAt ((w.setCell ⟨B,1+s.raw.length,none⟩ (Uq (c.toNat:Int))).setCell (Aq B 201) (Iq ((s.raw.length:Int)+1))) B ⟨s.st,s.raw++ [c],s.sum⟩:=by
 obtain ⟨v,hv⟩:=h.there _ hl;refine ⟨h.st3,by simp;omega,?_,?_,?_,?_,?_,?_⟩
 ·exact znX
 ·have e:w.cell? (Aq B 201)=some (Iq (s.raw.length:Int)):=h.cnt;rw [<-World.cell?_setCell_other w ⟨B,1+s.raw.length,none⟩ _ (Uq (c.toNat:Int)) (zQ _ _ _ zza)] at e;rw [World.cell?_setCell_same _ _ _ e];simp
 ·exact zm2
 ·exact zes
 ·exact zgv
 ·intro o;rw [World.frozen?_setCell,World.frozen?_setCell];exact h.free o
theorem zpP{p:Prop} (q:p:=by
 clear h;go_enter func133,ntmps133;go_wp2;go_end0;exact ⟨rfl,rfl⟩):p:=q
theorem zoB(B:Nat)(s:Sc)(w:World)(h:ScAt w B s):Cq 133 #[Pq B] w (.tuple #[]) fun w'=>w'=(w.setCell (Aq B 0) (Uq 1)).setCell (Aq B 201) (Iq 0):=by
 have h1:=h.cst;have h2:=h.cnt;have f1:=h.free 0;have f2:=h.free 201;exact zpP
def zkD(B:Nat)(s':Sc)(w w':World):Prop:=ScAt w' B s'/\w.grownBy w' (some B)/\w'.heap.size=w.heap.size
theorem yU(w:World)(B o:Nat)(v:Value):w.grownBy (w.setCell (Aq B o) v) (some B):=
 ⟨rfl,rfl,rfl,by simp,fun k _ hne=>Below.heap_setCell _ _ _ _ (fun e=>hne (by rw [e]))⟩
theorem yQ{a b c:World}{row:Option Nat}(h:a.grownBy b row)(k:b.grownBy c row):a.grownBy c row:=
 ⟨k.os.trans h.os,k.tape.trans h.tape,k.output.trans h.output,Nat.le_trans h.size k.size,fun i hi hne=>(k.block i (Nat.lt_of_lt_of_le hi h.size) hne).trans (h.block i hi hne)⟩
theorem Hg(w:World)(row:Option Nat):w.grownBy w.drew row:=⟨rfl,rfl,rfl,Nat.le_refl _,fun _ _ _=>rfl⟩
theorem ScAt.drew{w:World}{B:Nat}{s:Sc}(h:ScAt w B s):ScAt w.drew B s:=
 ⟨h.st3,h.len,h.cst,h.cnt,h.csum,h.bytes,h.there,h.free⟩
theorem YO{c:UInt8}{n:Nat}(h:c≠UInt8.ofNat n):((c.toNat:Int)==(n:Int))=false:=by
 rw [beq_eq_false_iff_ne];intro e;apply h;have:c.toNat=n:=by omega
 rw [<-this];simp
theorem zoI(B:Nat)(s:Sc)(w:World)(h:ScAt w B s):Cq 134 #[Pq B,Uq 36] w (.tuple #[]) fun w'=>w'=(w.setCell (Aq B 0) (Uq 1)).setCell (Aq B 201) (Iq 0):=by
 have H:=qH1 h;clear h;go_enter func134,ntmps134;go_wp2_with fail;refine (zoB B s _ H.out).mono ?_;rintro e w' ⟨rfl,rfl⟩;go_wp2;go_end0;exact ⟨rfl,rfl⟩
theorem zmN{p:Prop} (q:p:=by
 go_enter func134,ntmps134;go_wp2;go_end0;exact ⟨rfl,rfl⟩):p:=q
theorem zoV(B:Nat)(s:Sc)(w:World)(h:ScAt w B s):Cq 134 #[Pq B,Uq 35] w (.tuple #[]) fun w'=>w'=w.setCell (Aq B 0) (Uq 2):=by
 have h1:=h.cst;have f1:=h.free 0;clear h;exact zmN
theorem zoN(B:Nat)(s:Sc)(w:World)(h:ScAt w B s)(c:UInt8)(h36:((c.toNat:Int)==36)=false)(h35:((c.toNat:Int)==35)=false)(hl:s.raw.length=200):Cq 134 #[Pq B,Uq c.toNat] w (.tuple #[]) fun w'=>w'=w.setCell (Aq B 0) (Uq 0):=by
 have h1:=h.cst;have h2:=h.cnt;rw [hl] at h2;have f1:=h.free 0;clear h hl;exact zmN
theorem zl8{p:Prop} (q:p:=by
 have hn:((s.raw.length:Int)==200)=false:=by rw [beq_eq_false_iff_ne];omega
 generalize s.raw.length=n at*;clear h;go_enter func134,ntmps134;go_wp2;go_region;go_wp2;go_end0;exact ⟨rfl,rfl⟩):p:=q
theorem zoO(B:Nat)(s:Sc)(w:World)(h:ScAt w B s)(c:UInt8)(h36:((c.toNat:Int)==36)=false)(h35:((c.toNat:Int)==35)=false)(hl:s.raw.length<200):Cq 134 #[Pq B,Uq c.toNat] w (.tuple #[]) fun w'=>
   w'=((w.setCell ⟨B,1+s.raw.length,none⟩ (Uq (c.toNat:Int))).setCell (Aq B 201) (Iq ((s.raw.length:Int)+1))).drew:=by
 have h2:=h.cnt;obtain ⟨v,hv⟩:=h.there _ hl;have f1:=h.free 201;have f2:=h.free (1+s.raw.length);exact zl8
theorem zor{B:Nat}{s:Sc}{w:World}(h:ScAt w B s):zkD B ⟨1,[],s.sum⟩ w ((w.setCell (Aq B 0) (Uq 1)).setCell (Aq B 201) (Iq 0)):=
 ⟨(h.setSt 1 zza).clear,yQ (yU _ _ _ _) (yU _ _ _ _),by simp⟩
theorem zmm{p:Prop} (q:p:=by
 rintro e w' ⟨rfl,rfl⟩;have e:s.step c=⟨s.st,s.raw++ [c],s.sum⟩:=by simp [Sc.step,hs,h36,h35,hl]
 rw [e];exact ⟨rfl,(h.push c hlt).drew,yQ (yQ (yU _ _ _ _) (yU _ _ _ _)) (Hg _ _),by simp⟩):p:=q
theorem zlx{p:Prop} (q:p:=by
 rintro e w' ⟨rfl,rfl⟩;have e:s.step c=⟨0,s.raw,s.sum⟩:=by simp [Sc.step,hs,h36,h35,hl]
 rw [e];exact ⟨rfl,h.setSt 0 zza,yU _ _ _ _,by simp⟩):p:=q
theorem zme{p:Prop} (q:p:=by
 rintro e w' ⟨rfl,rfl⟩;have e:s.step 35=⟨2,s.raw,s.sum⟩:=by simp [Sc.step,hs]
 rw [e];exact ⟨rfl,h.setSt 2 zza,yU _ _ _ _,by simp⟩):p:=q
theorem zoW(B:Nat)(s:Sc)(w:World)(h:ScAt w B s)(hs:s.st=1)(c:UInt8):Cq 134 #[Pq B,Uq c.toNat] w (.tuple #[]) fun w'=>zkD B (s.step c) w w':=by
 by_cases h36:c=36
 ·subst h36;refine (zoI B s w h).mono ?_;rintro e w' ⟨rfl,rfl⟩;refine ⟨rfl,?_⟩;have e:s.step 36=⟨1,[],s.sum⟩:=by simp [Sc.step,hs]
  rw [e];exact zor h
 ·by_cases h35:c=35
  ·subst h35;refine (zoV B s w h).mono ?_;exact zme
  ·by_cases hl:s.raw.length=200
   ·refine (zoN B s w h c (YO (n:=36) h36) (YO (n:=35) h35) hl).mono ?_;exact zlx
   ·have hlt:s.raw.length<200:=by have:=h.len;omega
    refine (zoO B s w h c (YO (n:=36) h36) (YO (n:=35) h35) hlt).mono ?_;exact zmm
theorem zma{p:Prop} (q:p:=by
 have hc:=YO (n:=36) h36;have e:s.step c=s:=by simp [Sc.step,hs,h36]
 rw [e];have H:=qH1 h;clear h hs e;go_enter func87,ntmps87;go_wp2;go_ret;exact ⟨rfl,H.out,World.grownBy.refl _ _,rfl⟩):p:=q
theorem zp8(B:Nat)(s:Sc)(w:World)(h:ScAt w B s)(hs:s.st=0)(c:UInt8):Cq 87 #[Pq B,Uq c.toNat] w (Tq false) fun w'=>zkD B (s.step c) w w':=by
 have h1:=h.cst;rw [hs] at h1;by_cases h36:c=36
 ·subst h36;have e:s.step 36=⟨1,[],s.sum⟩:=by simp [Sc.step,hs]
  rw [e];have H:=qH1 h;clear h hs e;go_enter func87,ntmps87;go_wp2_with fail;refine (zoB B s _ H.out).mono ?_;rintro e w' ⟨rfl,rfl⟩;go_wp2;go_ret;exact ⟨rfl,zor H.out⟩
 ·exact zma
theorem zp9(B:Nat)(s:Sc)(w:World)(h:ScAt w B s)(hs:s.st=1)(c:UInt8):Cq 87 #[Pq B,Uq c.toNat] w (Tq false) fun w'=>zkD B (s.step c) w w':=by
 have h1:=h.cst;rw [hs] at h1;have H:=qH1 h;have HS:=qH1 hs;clear h hs;go_enter func87,ntmps87;go_wp2_with fail;refine (zoW B s _ H.out HS.out c).mono ?_;rintro e w' ⟨rfl,hT⟩;have HT:=qH1 hT;clear hT;go_wp2;go_ret;exact ⟨rfl,HT.out⟩
theorem znO{p:Prop} (q:p:=by
 have e:s.step c=⟨3,s.raw,c⟩:=by simp [Sc.step,hs]
 rw [e];have H:=qH1 h;clear h hs e;go_enter func87,ntmps87;go_wp2;go_ret;exact ⟨rfl,(H.out.setSum c).setSt 3 zza,yQ (yU _ _ _ _) (yU _ _ _ _),by simp⟩):p:=q
theorem zqa(B:Nat)(s:Sc)(w:World)(h:ScAt w B s)(hs:s.st=2)(c:UInt8):Cq 87 #[Pq B,Uq c.toNat] w (Tq false) fun w'=>zkD B (s.step c) w w':=by
 have h1:=h.cst;rw [hs] at h1;have h2:=h.csum;have f1:=h.free 0;have f2:=h.free 202;exact znO
theorem zkH{p:Prop} (q:p:=by
 have e:s.step c=⟨0,s.raw,s.sum⟩:=by simp [Sc.step,hs]
 rw [e];have H:=qH1 h;clear h hs e;go_enter func87,ntmps87;go_wp2;go_ret;exact ⟨rfl,H.out.setSt 0 zza,yU _ _ _ _,by simp⟩):p:=q
theorem zqb(B:Nat)(s:Sc)(w:World)(h:ScAt w B s)(hs:s.st=3)(c:UInt8):Cq 87 #[Pq B,Uq c.toNat] w (Tq true) fun w'=>zkD B (s.step c) w w':=by
 have h1:=h.cst;rw [hs] at h1;have f1:=h.free 0;exact zkH
theorem zpo(B:Nat)(s:Sc)(w:World)(h:ScAt w B s)(c:UInt8):Cq 87 #[Pq B,Uq c.toNat] w (Tq (decide (s.st=3))) fun w'=>zkD B (s.step c) w w':=by
 have h3:=h.st3;rcases (show s.st=0\/s.st=1\/s.st=2\/s.st=3 from by omega) with e|e|e|e
 ·rw [e];exact zp8 B s w h e c
 ·rw [e];exact zp9 B s w h e c
 ·rw [e];exact zqa B s w h e c
 ·rw [e];exact zqb B s w h e c
end
section
def zS(l:List UInt8):List Value:=l.map fun c=>Uq (c.toNat:Int)
theorem xP:(prog.info? 5).map (fun i=>(i.zero,i.size,i.bytes))=some (some (Uq 0),1,1):=by kernel_rfl
def zkE:List UInt8:=[48,49,50,51,52,53,54,55,56,57,97,98,99,100,101,102]
def vA(n:Nat):UInt8:=zkE.getD n 0
def vx(b:UInt8):List UInt8:=[vA (b.toNat/16),vA (b.toNat%16)]
theorem zx:prog.underlying 35=some (.slice 5):=by kernel_rfl
theorem zgy(n:Nat)(h:n<16):(({data:=#[48,49,50,51,52,53,54,55,56,57,97,98,99,100,101,102] }:ByteArray)[n]'h)=vA n:=by
 have:∀n:Fin 16,(({data:=#[48,49,50,51,52,53,54,55,56,57,97,98,99,100,101,102] }:ByteArray)[n.1]'n.2)=vA n.1:=by decide+kernel
 exact this ⟨n,h⟩
theorem XP(m n:Int):∀u∈[Uq m,Uq n],u.oneCell'=true:=by
 intro u hu;simp at hu;rcases hu with rfl|rfl<;>rfl
theorem Za(a b:List UInt8):zS (a++b)=zS a++zS b:=by simp [zS]
theorem yR(a:List UInt8):(zS a).length=a.length:=by simp [zS]
theorem Yl(w:World)(x y:Value)(t:TypeId):∀j u,[x,y][j]?=some u->(w.alloc (.cells #[x,y] t)).cell? (((Aq w.heap.size 0):Addr).add j)=some u:=
 World.news_of_block (w:=w.alloc (.cells #[x,y] t)) (cs:=#[x,y]) (t:=t) (fr:=(0,0)) (heap_alloc_new w _)
theorem ye(w:World)(x:Value)(t:TypeId):∀j u,[x][j]?=some u->(w.alloc (.cells #[x] t)).cell? (((Aq w.heap.size 0):Addr).add j)=some u:=
 World.news_of_block (w:=w.alloc (.cells #[x] t)) (cs:=#[x]) (t:=t) (fr:=(0,0)) (heap_alloc_new w _)
theorem Vh(w:World)(x y:Value)(h:x=y)(t:TypeId):∀j u,[y][j]?=some u->(w.alloc (.cells #[x] t)).cell? (((Aq w.heap.size 0):Addr).add j)=some u:=by
 subst h;exact ye w x t
theorem xa(m:Int):∀u∈[Uq m],u.oneCell'=true:=by
 intro u hu;simp at hu;subst hu;rfl
def Owns(base:Nat)(w0 w:World)(v:Value)(l:List UInt8):Prop:=
 ∃g cap,v=Sq g l.length cap/\w.ownsRow base 5 1 v l.length (zS l)/\Below base w0 w/\base<=w.heap.size
theorem xe{base:Nat}{w0 w w1:World}{v:Value}{l m:List UInt8}{o:Obj}{g' cap':Nat}(hown:w.ownsRow base 5 1 v l.length (zS l))(hb:Below base w0 w)(hs:base<=w.heap.size)
  (h:w1.ownsRow base 5 1 (Sq g' (l.length+m.length) cap') (l.length+m.length) (zS l++zS m)) (hg:(w.alloc o).grownBy w1 v.ownBlock):Owns base w0 w1 (Sq g' (l.length+m.length) cap') (l++m):=by
 refine ⟨g',cap',by simp,by rw [List.length_append,Za];exact h,?_,?_⟩
 ·exact (hb.alloc hs _).grown hg zzd (fun k e=>(hown.lt k e).1)
 ·have:=hg.size;simp at this;omega
theorem Ua(a:Nat)(h:a<9223372036854775808):IntKind.i64.wrap (a:Int)=a:=by
 simp only [IntKind.wrap,IntKind.bits,IntKind.signed];simp;omega
theorem Kh(a b:Nat)(ha:a<9223372036854775808)(hb:b<9223372036854775808):bits .and .i64 (a:Int) (b:Int)=((a&&&b:Nat):Int):=by
 have hx:a&&&b<2 ^ 63:=Nat.and_lt_two_pow _ zza;show IntKind.i64.wrap ((BitVec.ofInt 64 (a:Int) &&&BitVec.ofInt 64 (b:Int)).toNat:Int)=_;rw [BitVec.toNat_and,ofInt_u64 a zza,ofInt_u64 b zza,Ua _ zza]
theorem zkF(a:Nat)(ha:a<9223372036854775808):bits .and .i64 (a:Int) 15=((a%16:Nat):Int):=by
 rw [show (15:Int)=((15:Nat):Int) from rfl,Kh _ _ ha zza];congr 1;exact Nat.and_two_pow_sub_one_eq_mod a 4
def zX(n:Nat):Nat->List UInt8
 |0=>[]
 |k+1=>vA (n/2 ^ (4*k)%16)::zX n k
theorem yz(n k:Nat):(zX n k).length=k:=by
 induction k with
 |zero=>rfl
 |succ k ih=>simp [zX,ih]
theorem Ki(b:UInt8):zX b.toNat 2=vx b:=by
 have:=b.toNat_lt;simp only [zX,vx];rw [show b.toNat/2 ^ (4*1)%16=b.toNat/16 from by omega,show b.toNat/2 ^ (4*0)%16=b.toNat%16 from by omega]
theorem zdP(n k:Nat)(hn:n<9223372036854775808):bits .and .i64 ((n:Int)/2 ^ (4*k)) 15=((n/2 ^ (4*k)%16:Nat):Int):=by
 have e:(n:Int)/2 ^ (4*k)=((n/2 ^ (4*k):Nat):Int):=by simp
 rw [e,zkF _ (Nat.lt_of_le_of_lt (Nat.div_le_self _ _) hn)]
theorem zdQ(m:Int)(n:Nat)(hm:m=(n:Int))(h:m.toNat<16):Uq ((({data:=#[48,49,50,51,52,53,54,55,56,57,97,98,99,100,101,102] }:ByteArray)[m.toNat]'h).toNat:Int)=Uq ((vA n).toNat:Int):=by
 subst hm;rw [zgy _ h,Int.toNat_natCast]
theorem Zb(base:Nat)(v:Value)(l:List UInt8)(n count:Nat)(w0 w:World)(hv:Owns base w0 w v l)(hl:l.length<=1000)(hn:n<9223372036854775808)(hc:count<=16):Calls prog 84 #[v,Iq n,Iq count] w fun e w'=> ∃v',e=.returned v'/\Owns base w0 w' v' (l++zX n count):=by
 obtain ⟨i0,hi,hz0,hz1,hz2⟩:=info_parts xP;have HO:=qH1 hv;clear hv;go_enter func84,ntmps84;go_wp2;go_loopw [0,7] (fun t i wr=> ∃(k:Nat) (cur:List UInt8),k<=count/\i=Iq ((k:Int)-1)/\Owns base w0 wr t cur/\cur++zX n k=l++zX n count/\cur.length<=1016-k) (fun _ i _=>(intOf i+1).toNat);case atStart=>exact ⟨count,l,Nat.le_refl _,by go_num,HO.out,rfl,by omega⟩
 case round=>
  obtain ⟨k,cur,hk,rfl,hO,hcur,hcl⟩:=hrel;clear HO;obtain ⟨g1,cap1,rfl,hown,hbel,hsz⟩:=hO;cases k with
  |zero=>
   have HF:Hid (Owns base w0 wr (Sq g1 cur.length cap1) (l++zX n count)):=by
    have e:cur=l++zX n count:=by rw [<-hcur];simp [zX]
    subst e;exact ⟨g1,cap1,rfl,hown,hbel,hsz⟩
   clear hown hbel hsz hcur;go_wp2;go_ret;exact ⟨_,rfl,HF.out⟩
  |succ j=>
   have hcur':Hid ((cur++ [vA (n/2 ^ (4*j)%16)])++zX n j=l++zX n count):=by show _=_;rw [<-hcur];simp [zX]
   clear hcur;have ej:((j+1:Nat):Int)-1=(j:Int):=by omega
   rw [ej];have HD:Hid (bits .and .i64 ((n:Int)/2 ^ (4*j)) 15=((n/2 ^ (4*j)%16:Nat):Int)):=zdP n j hn;have a0:0<=bits .and .i64 ((n:Int)/2 ^ (4*j)) 15:=by rw [HD.out];omega
   have a1:bits .and .i64 ((n:Int)/2 ^ (4*j)) 15<16:=by rw [HD.out];omega
   go_wp2_with (first|(at_builtin;go_must (refine wpList_append_lies _ rfl (.tmp 14) (.tmp 21) 35 rfl base 5 i0 (Uq 0) 1 1 zx hi hz0 hz1 hz2 rfl zzb (Sq g1 cur.length cap1) cur.length (zS cur) rfl (by exact (hown.alloc _)) (Aq wr.heap.size 0) 1 1 [Uq (vA (n/2 ^ (4*j)%16)).toNat] rfl rfl (Vh _ _ _ (zdQ _ _ HD.out _) _) (xa _) zzb zze zza zzd _ rfl ?_;intro g' cap' w1 hown' hgrow hat hlt')));have HO:=xe (m:=[vA (n/2 ^ (4*j)%16)]) hown hbel hsz hown' hgrow;clear hown hbel hsz hown' hgrow hat hlt';go_roundw;case rel=>exact ⟨j,cur++ [vA (n/2 ^ (4*j)%16)],by omega,by go_num,HO,hcur'.out,by simp;omega⟩
   case measure=>simp [intOf]
end
section
def Ym(c:UInt8):List UInt8:=if c=36\/c=35\/c=125 then [125,c ^^^ 32] else [c]
def esc(l:List UInt8):List UInt8:=l.flatMap Ym
theorem Kj(l:List UInt8)(c:UInt8):esc (l++ [c])=esc l++Ym c:=by simp [esc]
theorem zdR(c:UInt8):(Ym c).length<=2:=by unfold Ym;split<;>simp
theorem ZA(l:List UInt8):(esc l).length<=2*l.length:=by
 induction l with
 |nil=>simp [esc]
 |cons c r ih=>have:=zdR c;simp only [esc,List.flatMap_cons,List.length_append,List.length_cons] at*;omega
theorem ZB(s:ByteArray)(k:Nat)(h:k<s.size):s.data.toList.take (k+1)=s.data.toList.take k++ [s[k]]:=by
 rw [List.take_succ_eq_append_getElem (by simpa using h)];rfl
theorem zba(c:UInt8):bits .xor .u8 (c.toNat:Int) 32=((c ^^^ 32).toNat:Int):=by
 rw [show (32:Int)=((32:Nat):Int) from rfl,u8_xor_nat _ _ (UInt8.toNat_lt _) zza,UInt8.toNat_xor];rfl
theorem Yn(base:Nat)(v:Value)(l:List UInt8)(s:ByteArray)(w0 w:World)(hv:Owns base w0 w v l)(hl:l.length<=1000)(hs:s.size<=1000):Calls prog 85 #[v,Zq s] w fun e w'=> ∃v',e=.returned v'/\Owns base w0 w' v' (l++esc s.data.toList):=by
 obtain ⟨g,cap,rfl,hown,hbel,hsz⟩:=hv;obtain ⟨i0,hi,hz0,hz1,hz2⟩:=info_parts xP;have HO:Hid (Owns base w0 w (Sq g l.length cap) (l++esc (s.data.toList.take 0))):=⟨g,cap,by simp [esc],by simpa [esc] using hown,hbel,hsz⟩;clear hown hbel hsz;go_enter func85,ntmps85;go_wp2;go_loopw [0,9] (fun t i wr=> ∃k:Nat,k<=s.size/\i=Iq k/\Owns base w0 wr t (l++esc (s.data.toList.take k))) (fun _ i _=>s.size-(intOf i).toNat);case atStart=>exact ⟨0,Nat.zero_le _,rfl,HO.out⟩
 case round=>
  obtain ⟨k,hk,rfl,hO⟩:=hrel;clear HO;obtain ⟨g1,cap1,rfl,hown,hbel,hsz⟩:=hO;have hlen:(l++esc (s.data.toList.take k)).length<=1000+2*k:=by
   have:=ZA (s.data.toList.take k);have h2:(s.data.toList.take k).length<=k:=List.length_take_le _ _;rw [List.length_append];omega
  by_cases hlt:k<s.size
  ·have hstep:Hid (l++esc (s.data.toList.take (k+1))=(l++esc (s.data.toList.take k))++Ym s[k]):=by rw [ZB s k hlt,Kj,List.append_assoc];rfl
   generalize l++esc (s.data.toList.take k)=cur at*;by_cases hsp:s[k]=36\/s[k]=35\/s[k]=125
   ·have he:Hid (Ym s[k]=[125,s[k] ^^^ 32]):=by show _=_;unfold Ym;rw [if_pos hsp]
    have hx:bits .xor .u8 (s[k].toNat:Int) 32=((s[k] ^^^ 32).toNat:Int):=zba _;have ht:((s[k].toNat:Int)==36)=true\/(((s[k].toNat:Int)==36)=false/\((s[k].toNat:Int)==35)=true)\/(((s[k].toNat:Int)==36)=false/\((s[k].toNat:Int)==35)=false/\((s[k].toNat:Int)==125)=true):=by
     rcases hsp with h|h|h<;>simp [h]
    clear hsp;rcases ht with t1|⟨t1,t2⟩|⟨t1,t2,t3⟩
    all_goals
     go_wp2_with (first|(at_builtin;go_must (refine wpList_append_lies _ rfl (.tmp 24) (.tmp 27) 35 rfl base 5 i0 (Uq 0) 1 1 zx hi hz0 hz1 hz2 rfl zzb (Sq g1 cur.length cap1) cur.length (zS cur) rfl (by exact (hown.alloc _)) (Aq wr.heap.size 0) 2 2 [Uq 125,Uq (s[k] ^^^ 32).toNat] rfl rfl (Yl _ _ _ _) (XP _ _) zzb zze zza zzd _ rfl ?_;intro g' cap' w1 hown' hgrow hat hlt')));have HO:=xe (m:=[125,s[k] ^^^ 32]) hown hbel hsz hown' hgrow;clear hown hbel hsz hown' hgrow hat hlt';go_roundw;case rel=>exact ⟨k+1,by omega,by go_num,by rw [hstep.out,he.out];exact HO⟩
     case measure=>simp [intOf];omega
   ·have he:Hid (Ym s[k]=[s[k]]):=by show _=_;unfold Ym;rw [if_neg hsp]
    have t1:((s[k].toNat:Int)==36)=false:=YO (n:=36) (fun e=>hsp (.inl e));have t2:((s[k].toNat:Int)==35)=false:=YO (n:=35) (fun e=>hsp (.inr (.inl e)));have t3:((s[k].toNat:Int)==125)=false:=YO (n:=125) (fun e=>hsp (.inr (.inr e)));clear hsp;go_wp2_with (first|(at_builtin;go_must (refine wpList_append_lies _ rfl (.tmp 16) (.tmp 18) 35 rfl base 5 i0 (Uq 0) 1 1 zx hi hz0 hz1 hz2 rfl zzb (Sq g1 cur.length cap1) cur.length (zS cur) rfl (by exact (hown.alloc _)) (Aq wr.heap.size 0) 1 1 [Uq s[k].toNat] rfl rfl (ye _ _ _) (xa _) zzb zze zza zzd _ rfl ?_;intro g' cap' w1 hown' hgrow hat hlt')));have HO:=xe (m:=[s[k]]) hown hbel hsz hown' hgrow;clear hown hbel hsz hown' hgrow hat hlt';go_roundw;case rel=>exact ⟨k+1,by omega,by go_num,by rw [hstep.out,he.out];exact HO⟩
    case measure=>simp [intOf];omega
  ·have hke:k=s.size:=by omega
   have he:Hid (l++esc (s.data.toList.take k)=l++esc s.data.toList):=by show _=_;rw [hke,List.take_of_length_le zzc]
   generalize l++esc (s.data.toList.take k)=cur at*;have HO:Hid (Owns base w0 wr (Sq g1 cur.length cap1) cur):=⟨g1,cap1,rfl,hown,hbel,hsz⟩;clear hown hbel hsz;go_wp2;go_ret;exact ⟨_,rfl,by rw [<-he.out];exact HO.out⟩
end
section
def xQ(b:UInt8)(body:List UInt8):List UInt8:=vx b++esc body
def zH(b:UInt8)(body:List UInt8):List UInt8:=[36]++vx b++esc body++ [35]++vx (xG (xQ b body))
theorem vB{base:Nat}{w:World}{g cap:Nat}{l:List UInt8}(h:w.ownsRow base 5 1 (Sq g l.length cap) l.length (zS l)):zy w g 0 l:=by
 intro i hi;have:=h.cellAt i zza;rw [Nat.zero_add,this];simp [zS,List.getElem?_eq_getElem hi]
theorem Hi{w:World}{g:Nat}{c:UInt8}{l:List UInt8}(h:zy w g 0 (c::l)):zy w g 1 l:=by
 intro i hi;have:=h (i+1) (by simpa using hi);simpa [Nat.add_comm] using this
theorem zgz{base:Nat}{w:World}{g n cap:Nat}{xs:List Value}(h:w.ownsRow base 5 1 (Sq g n cap) n xs):n<=cap:=by
 rcases h.2 with ⟨e,_⟩|⟨g',cap',cur,e,_,_,h1,_⟩
 ·simp at e
 ·injection e with e1 e2 e3;omega
theorem ZO(b:UInt8)(s:ByteArray)(w:World)(hs:s.size<=80):Calls prog 56 #[Iq b.toNat,Zq s] w fun e w'=> ∃v,e=.returned (.tuple #[v,Iq 0])/\Owns w.heap.size w w' v (zH b s.data.toList):=by
 have hc:(b.toNat:Int)<256:=by have:=b.toNat_lt;omega
 obtain ⟨i0,hi,hz0,hz1,hz2⟩:=info_parts xP;have hel:(esc s.data.toList).length<=160:=by have:=ZA s.data.toList;simp at this;omega
 have O0:Hid (Owns w.heap.size w (w.alloc (.cells #[Uq 36] 5)) (Sq w.heap.size 1 1) [36]):=by
  refine ⟨w.heap.size,1,rfl,?_,qBa,by simp⟩;exact World.ownsRow_lit w #[Uq 36] 1 (Nat.le_refl _) zzb rfl
 go_enter func56,ntmps56;go_wp2_with fail;refine (Zb w.heap.size _ [36] b.toNat 2 w _ O0.out zzc zza zza).mono ?_;rintro e w1 ⟨v1,rfl,O1⟩;rw [Ki] at O1;have H1:=qH1 O1;clear O1 O0;go_wp2_with fail;refine (Yn w.heap.size v1 ([36]++vx b) s w _ H1.out (by simp [vx]) zza).mono ?_;rintro e w2 ⟨v2,rfl,O2⟩;have hF:Hid (zH b s.data.toList=36::xQ b s.data.toList++ [35]++vx (xG (xQ b s.data.toList))):=by show _=_;simp [zH,xQ]
 have hrl:(xQ b s.data.toList).length<=162:=by simp [xQ,vx];omega
 have hr2:2<=(xQ b s.data.toList).length:=by simp [xQ,vx]
 rw [show [36]++vx b++esc s.data.toList=36::xQ b s.data.toList from by simp [xQ]] at O2;clear H1 hel;generalize xQ b s.data.toList=raw at*;obtain ⟨g2,cap2,rfl,hown2,hbel2,hsz2⟩:=O2;have hcap:=zgz hown2;rw [List.length_cons] at hcap;have HB:Hid (zy w2 g2 1 raw):=Hi (vB hown2);have HO2:=qH1 hown2;clear hown2;go_wp2_with fail;refine (XO g2 1 (cap2-1) raw _ zza HB.out).mono ?_;rintro e w' ⟨rfl,hw⟩;subst hw;clear HB;have h256:((xG raw).toNat:Int)<256:=by have:=(xG raw).toNat_lt;omega
 go_wp2_with (first|(at_builtin;go_must (refine wpList_append_lies _ rfl (.tmp 27) (.tmp 28) 35 rfl w.heap.size 5 i0 (Uq 0) 1 1 zx hi hz0 hz1 hz2 rfl zzb (Sq g2 (raw.length+1) cap2) (raw.length+1) (zS (36::raw)) rfl (by exact (HO2.out.alloc _)) (Aq w'.heap.size 0) 1 1 [Uq 35] rfl rfl (ye _ _ _) (xa _) zzb zze zza zzd _ rfl ?_;intro g' cap' w4 hown' hgrow hat hlt'))|fail);have HO:Hid (Owns w.heap.size w w4 (Sq g' (raw.length+1+1) cap') (36::raw++ [35])):=xe (l:=36::raw) (m:=[35]) HO2.out hbel2 hsz2 hown' hgrow;clear hown' hgrow hat hlt' HO2 hbel2 hsz2;refine (Zb w.heap.size _ (36::raw++ [35]) (xG raw).toNat 2 w _ HO.out zzd (by have:=(xG raw).toNat_lt;omega) zza).mono ?_;rintro e w5 ⟨v5,rfl,O5⟩;rw [Ki] at O5;have H5:=qH1 O5;clear O5 HO;go_wp2;go_ret2;exact ⟨v5,rfl,by rw [hF.out];exact H5.out⟩
theorem zoC(b:UInt8)(s:ByteArray)(w:World)(hs:s.size<=80):Calls prog 38 #[Iq b.toNat,Zq s] w fun e w'=> ∃v,e=.returned (.tuple #[v,Iq 0])/\Owns w.heap.size w w' v (zH b s.data.toList):=by
 go_enter func38,ntmps38;go_wp2_with fail;refine (ZO b s _ hs).mono ?_;rintro e w1 ⟨v,rfl,O⟩;have H:=qH1 O;clear O;go_wp2;go_ret2;exact ⟨v,rfl,H.out⟩
def zsc:Array Value:=#[Uq 0]++Array.replicate 200 (Uq 0)++ #[Iq 0,Uq 0]
theorem zbY(w:World):Sem.run prog (zeroValue 130) w=.ok (.agg zsc) w:=by kernel_rfl
theorem zgA(i:Nat)(h:i<200):zsc[1+i]?=some (Uq 0):=by
 have:∀i:Fin 200,zsc[1+i.1]?=some (Uq 0):=by
  intro i;unfold zsc;rw [Array.getElem?_append_left zzd,Array.getElem?_append_right zzc];simp
 exact this ⟨i,h⟩
theorem zmj:zsc[0]?=some (Uq ((0:Nat):Int)):=by kernel_rfl
theorem zgB:zsc[201]?=some (Iq ((([]:List UInt8).length:Nat):Int)):=by kernel_rfl
theorem zgC:zsc[202]?=some (Uq (((0:UInt8).toNat:Nat):Int)):=by kernel_rfl
theorem zdS(w:World)(t:TypeId):ScAt (w.alloc (.cells zsc t)) w.heap.size ⟨0,[],0⟩:=by
 have hc:∀i,(w.alloc (.cells zsc t)).cell? (Aq w.heap.size i)=zsc[i]?:=fun i=>World.cell?_alloc_at _ _ _ _ rfl
 refine ⟨by simp,by simp,?_,?_,?_,?_,?_,?_⟩
 ·rw [hc];exact zmj
 ·rw [hc];exact zgB
 ·rw [hc];exact zgC
 ·intro i hi;simp at hi
 ·intro i hi;rw [hc,zgA i hi];exact ⟨_,rfl⟩
 ·intro o;exact World.frozen?_alloc_at _ _ _ _ rfl
theorem Kk(w:World):Cq 30 #[] w (Pq w.heap.size) fun w'=>ScAt w' w.heap.size ⟨0,[],0⟩/\w.grownBy w' none/\w'.heap.size=w.heap.size+1:=by
 have hz:=zbY;have HN:=zdS w;have H:=qH1 HN;clear HN;go_enter func30,ntmps30;go_wp2;go_ret;exact ⟨rfl,H.out _,World.grownBy_alloc _ _ _,by simp⟩
end
section
def xo:List UInt8->Option (List UInt8)
 | []=>some []
 | [c]=>if c=125 then none else some [c]
 |c::d::r=>if c=125 then (xo r).map ((d ^^^ 32)::·) else (xo (d::r)).map (c::·)
theorem Kl(c:UInt8)(r:List UInt8)(h:c≠125):xo (c::r)=(xo r).map (c::·):=by
 cases r with
 |nil=>simp [xo,h]
 |cons d r=>simp [xo,h]
theorem zbZ(d:UInt8)(r:List UInt8):xo (125::d::r)=(xo r).map ((d ^^^ 32)::·):=by simp [xo]
def YP(l:List UInt8)(k:Nat)(out:List UInt8):Prop:=xo l=(xo (l.drop k)).map (out++·)/\out.length<=k
theorem zdT(l:List UInt8):YP l 0 []:=⟨by rw [List.drop_zero];cases xo l<;>simp,by simp⟩
theorem Vi{l:List UInt8}{k:Nat}{out:List UInt8}(h:YP l k out)(hk:k<l.length)(hc:l[k]≠125):YP l (k+1) (out++ [l[k]]):=by
 refine ⟨?_,by have:=h.2;simp;omega⟩;rw [h.1,List.drop_eq_getElem_cons hk,Kl _ _ hc];cases xo (l.drop (k+1))<;>simp
theorem Km{l:List UInt8}{k:Nat}{out:List UInt8}(h:YP l k out)(hk:k+1<l.length)(hc:l[k]=125):YP l (k+2) (out++ [l[k+1] ^^^ 32]):=by
 refine ⟨?_,by have:=h.2;simp;omega⟩;rw [h.1,List.drop_eq_getElem_cons (show k<l.length by omega),hc,List.drop_eq_getElem_cons hk,zbZ];cases xo (l.drop (k+1+1))<;>simp
theorem JQ{l:List UInt8}{k:Nat}{out:List UInt8}(h:YP l k out)(hk:k<l.length)(hk':k+1=l.length)(hc:l[k]=125):xo l=none:=by
 rw [h.1,List.drop_eq_getElem_cons hk,hc,List.drop_of_length_le zza];rfl
theorem Kn{l:List UInt8}{k:Nat}{out:List UInt8}(h:YP l k out)(hk:k=l.length):xo l=some out:=by
 rw [h.1,List.drop_of_length_le zza];simp [xo]
def xR(l:List UInt8):Value × Bool:=match xo l with
 |some out=>(Zq ⟨out.toArray⟩,true)
 |none=>(Zq ⟨#[]⟩,false)
theorem zoj:prog.underlying 5=some (.int .u8):=by kernel_rfl
theorem vj:prog.underlying 9=some .string:=by kernel_rfl
theorem ji{w:World}{base g cap:Nat}{l:List UInt8}(h:w.ownsRow base 5 1 (Sq g l.length cap) l.length (zS l)):(convert 35 9 (Sq g l.length cap)).run prog w=.ok (Zq ⟨l.toArray⟩) w:=by
 have:=run_convert_bytes_back (P:=prog) w 35 9 5 (Aq g 0) cap l zx zoj vj
  (fun j hj=>by
   have hb:=vB h j hj;rw [Nat.zero_add] at hb;rw [show ((Aq g 0):Addr).add j=(Aq g j) from by unfold Addr.add;split<;>simp_all];exact hb)
 exact this
theorem Ub(b off cap:Nat)(l:List UInt8)(w:World)(hl:l.length<=1000)(h:zy w b off l)(hb:b<w.heap.size):Cq 136 #[.slice (some (Aq b off)) l.length cap] w (.tuple #[(xR l).1,Tq (xR l).2]) fun w'=>Bq w w':=by
 obtain ⟨i0,hi,hz0,hz1,hz2⟩:=info_parts xP;have HB:=qH1 h;clear h;have hm:i0.bytes*l.length<=281474976710656:=by rw [hz2];omega
 go_enter func136,ntmps136;go_wp2_with (first|(at_make;go_must (refine wpList_make_own _ rfl _ _ 35 rfl w.heap.size 5 i0 (Uq 0) 1 zx hi hz0 hz1 .i64 .i64 _ l.length rfl rfl rfl hm zze (Nat.le_refl _) ?_;intro w1 hown1 hgrow1)));have HO:Hid (Owns w.heap.size w w1 (Sq w.heap.size 0 l.length) []):=⟨w.heap.size,l.length,rfl,hown1,(Below.refl _ _).grown hgrow1 (Nat.le_refl _) zzc,hgrow1.size⟩;clear hown1 hgrow1 hm;go_loopw [4,5] (fun v i wr=> ∃(k:Nat) (out:List UInt8),k<=l.length/\i=Iq k/\Hid (YP l k out)/\Owns w.heap.size w wr v out) (fun _ i _=>l.length-(intOf i).toNat);case atStart=>exact ⟨0,[],Nat.zero_le _,rfl,zdT l,HO.out⟩
 case round=>
  obtain ⟨k,out,hk,rfl,hP,hO⟩:=hrel;clear HO;obtain ⟨g1,cap1,rfl,hown,hbel,hsz⟩:=hO;have hol:out.length<=1000:=by have:=hP.out.2;omega
  by_cases hlt:k<l.length
  ·have hc0:wr.cell? ⟨b,off+k,none⟩=some (Uq (l[k].toNat:Int)):=(hbel.cell (by exact hb)).trans (HB.out k hlt);by_cases h125:l[k]=125
   ·by_cases hk1:k+1<l.length
    ·have hc1:wr.cell? ⟨b,off+(k+1),none⟩=some (Uq (l[k+1].toNat:Int)):=(hbel.cell (by exact hb)).trans (HB.out (k+1) hk1);have hP':Hid (YP l (k+2) (out++ [l[k+1] ^^^ 32])):=Km hP.out hk1 h125;have t1:((l[k].toNat:Int)==125)=true:=by rw [h125];rfl
     have hx:bits .xor .u8 (l[k+1].toNat:Int) 32=((l[k+1] ^^^ 32).toNat:Int):=zba _;clear h125 hP;have tz:((k:Int)+1==(l.length:Int))=false:=by rw [beq_eq_false_iff_ne];omega
     go_wp2_with (first|(at_builtin;go_must (refine wpList_append_lies _ rfl (.tmp 33) (.tmp 35) 35 rfl w.heap.size 5 i0 (Uq 0) 1 1 zx hi hz0 hz1 hz2 rfl zzb (Sq g1 out.length cap1) out.length (zS out) rfl (by exact (hown.alloc _)) (Aq wr.heap.size 0) 1 1 [Uq (l[k+1] ^^^ 32).toNat] rfl rfl (ye _ _ _) (xa _) zzb zze zza zzd _ rfl ?_;intro g' cap' w1 hown' hgrow hat hlt')));have HO:=xe (m:=[l[k+1] ^^^ 32]) hown hbel hsz hown' hgrow;clear hown hbel hsz hown' hgrow hat hlt';go_roundw;case rel=>exact ⟨k+2,out++ [l[k+1] ^^^ 32],by omega,by go_num,hP',HO⟩
     case measure=>simp [intOf];omega
    ·have hn:Hid (xo l=none):=JQ hP.out hlt zza h125;have t1:((l[k].toNat:Int)==125)=true:=by rw [h125];rfl
     have tz:((k:Int)+1==(l.length:Int))=true:=by rw [beq_iff_eq];omega
     clear h125 hP;go_wp2;go_ret2;refine ⟨by simp only [xR,hn.out];rfl,hbel⟩
   ·have hP':Hid (YP l (k+1) (out++ [l[k]])):=Vi hP.out hlt h125;have t1:((l[k].toNat:Int)==125)=false:=YO (n:=125) h125;clear h125 hP;go_wp2_with (first|(at_builtin;go_must (refine wpList_append_lies _ rfl (.tmp 33) (.tmp 35) 35 rfl w.heap.size 5 i0 (Uq 0) 1 1 zx hi hz0 hz1 hz2 rfl zzb (Sq g1 out.length cap1) out.length (zS out) rfl (by exact (hown.alloc _)) (Aq wr.heap.size 0) 1 1 [Uq l[k].toNat] rfl rfl (ye _ _ _) (xa _) zzb zze zza zzd _ rfl ?_;intro g' cap' w1 hown' hgrow hat hlt')));have HO:=xe (m:=[l[k]]) hown hbel hsz hown' hgrow;clear hown hbel hsz hown' hgrow hat hlt';go_roundw;case rel=>exact ⟨k+1,out++ [l[k]],by omega,by go_num,hP',HO⟩
    case measure=>simp [intOf];omega
  ·have hn:Hid (xo l=some out):=Kn hP.out zza;have hconv:=ji hown;clear hP hown;go_wp2;go_ret2;refine ⟨by simp only [xR,hn.out];rfl,hbel⟩
end
section
structure Pk where
 seq:Nat
 body:List UInt8
 bad:Bool
def xH:Pk:=⟨0,[],true⟩
def Pk.val(p:Pk):Value:=.agg #[Iq (p.seq:Int),Zq ⟨p.body.toArray⟩,Tq p.bad]
def xp(l:List UInt8)(c0 c1:UInt8):Pk:=
 if (hb c0 c1).2=true then
  (match xo (l.drop 2) with
  |some out=>if out.length<=80 then ⟨(hb c0 c1).1.toNat,out,false⟩ else xH
  |none=>xH)
 else xH
def yM(l:List UInt8)(h lo:UInt8):Pk:=
 if (hb h lo).2=true/\(hb h lo).1=xG l/\2<=l.length then xp l (l.getD 0 0) (l.getD 1 0) else xH
theorem xI(w:World)(o p:Obj):Bq w ((w.alloc o).alloc p):=qBa.alloc zzc _
theorem Uc(b off cap:Nat)(l:List UInt8)(h lo:UInt8)(w:World)(hbad:(hb h lo).2=false):Cq 88 #[.slice (some (Aq b off)) l.length cap,Uq h.toNat,Uq lo.toNat] w xH.val fun w'=>Bq w w':=by
 go_enter func88,ntmps88;go_wp2_with fail;refine (ve h lo _).mono ?_;rintro e w1 ⟨rfl,rfl⟩;rw [hbad];go_wp2;exact bodyPost_ret (v:=.agg #[Iq 0,Zq ⟨#[]⟩,Tq true]) (by simp [results,results88,go_sem]) rfl ⟨rfl,xI _ _ _⟩
theorem zmk{a b:UInt8}(h:a≠b):((a.toNat:Int) !=(b.toNat:Int))=true:=by
 rw [bne_iff_ne];intro e;apply h;exact UInt8.toNat_inj.1 zza
theorem zjY(a:UInt8):((a.toNat:Int) !=(a.toNat:Int))=false:=by simp
theorem y8{w:World}{b off:Nat}{l:List UInt8}(h:zy w b off l)(hb:b<w.heap.size)(o:Obj):zy (w.alloc o) b off l:=by
 intro i hi;rw [World.cell?_alloc_past _ _ _ hb];exact h i hi
theorem Ud(b off cap:Nat)(l:List UInt8)(h lo:UInt8)(w:World)(hgood:(hb h lo).2=true)(hsum:(hb h lo).1≠xG l)(hl:l.length<=1000)(hB:zy w b off l)(hbs:b<w.heap.size):Cq 88 #[.slice (some (Aq b off)) l.length cap,Uq h.toNat,Uq lo.toNat] w xH.val fun w'=>Bq w w':=by
 have HB:=qH1 hB;clear hB;have hne:=zmk hsum;clear hsum;go_enter func88,ntmps88;go_wp2_with fail;refine (ve h lo _).mono ?_;rintro e w1 ⟨rfl,rfl⟩;rw [hgood];go_wp2_with fail;refine (XO b off cap l _ zza (y8 (y8 HB.out hbs _) zzd _)).mono ?_;rintro e w1 ⟨rfl,rfl⟩;go_wp2;exact bodyPost_ret (v:=.agg #[Iq 0,Zq ⟨#[]⟩,Tq true]) (by simp [results,results88,go_sem]) rfl ⟨rfl,xI _ _ _⟩
theorem Ue(b off cap:Nat)(l:List UInt8)(h lo:UInt8)(w:World)(hgood:(hb h lo).2=true)(hsum:(hb h lo).1=xG l)(hl:l.length<2)(hB:zy w b off l)(hbs:b<w.heap.size):Cq 88 #[.slice (some (Aq b off)) l.length cap,Uq h.toNat,Uq lo.toNat] w xH.val fun w'=>Bq w w':=by
 have HB:=qH1 hB;clear hB;have hne:=zjY (xG l);have HS:=qH1 hsum;clear hsum;go_enter func88,ntmps88;go_wp2_with fail;refine (ve h lo _).mono ?_;rintro e w1 ⟨rfl,rfl⟩;rw [hgood,HS.out];go_wp2_with fail;refine (XO b off cap l _ zza (y8 (y8 HB.out hbs _) zzd _)).mono ?_;rintro e w1 ⟨rfl,rfl⟩;go_wp2;exact bodyPost_ret (v:=.agg #[Iq 0,Zq ⟨#[]⟩,Tq true]) (by simp [results,results88,go_sem]) rfl ⟨rfl,xI _ _ _⟩
theorem Uf(b off cap n:Nat)(l:List UInt8)(w:World)(hn:l.length=n)(hl:l.length<=1000)(h:zy w b off l)(hb:b<w.heap.size):Cq 136 #[.slice (some (Aq b off)) n cap] w (.tuple #[(xR l).1,Tq (xR l).2]) fun w'=>Bq w w':=by
 subst hn;exact Ub b off cap l w hl h hb
theorem Hj{w:World}{b off:Nat}{l:List UInt8}(h:zy w b off l)(k:Nat):zy w b (off+k) (l.drop k):=by
 intro i hi;have hi':k+i<l.length:=by simp at hi;omega
 have:=h (k+i) hi';rw [Nat.add_assoc,this];simp
theorem Ko{w:World}{b off:Nat}{l:List UInt8}(h:zy w b off l)(n:Nat):zy (w.drewN n) b off l:=h
theorem zml{W w1:World}(hb:Bq W w1):(∀b o,b<W.heap.size->w1.cell? (Aq b o)=W.cell? (Aq b o))/\(∀b o,b<W.heap.size->w1.frozen? (Aq b o)=W.frozen? (Aq b o)):=
 ⟨fun b o h=>hb.cell (p:=(Aq b o)) h,fun b o h=>hb.frozen (p:=(Aq b o)) h⟩
theorem Xh{w w2:World}{a0 a1 a2 b0 b1 b2:Value}{t t':TypeId}{n:Nat}
  (h:Below (((w.alloc (.cells #[a0,a1,a2] t)).alloc (.cells #[b0,b1,b2] t')).drewN n).heap.size (((w.alloc (.cells #[a0,a1,a2] t)).alloc (.cells #[b0,b1,b2] t')).drewN n) w2):
  w2.cell? (Aq w.heap.size 0)=some a0/\w2.cell? (Aq w.heap.size 1)=some a1/\w2.cell? (Aq w.heap.size 2)=some a2/\
  w2.frozen? (Aq w.heap.size 0)=false/\w2.frozen? (Aq w.heap.size 1)=false/\w2.frozen? (Aq w.heap.size 2)=false/\
  w2.cell? ⟨w.heap.size+1,0,none⟩=some b0/\w2.cell? ⟨w.heap.size+1,1,none⟩=some b1/\w2.cell? ⟨w.heap.size+1,2,none⟩=some b2:=by
 obtain ⟨hc,hf⟩:=zml h;have c0:∀o,w2.cell? (Aq w.heap.size o)=#[a0,a1,a2][o]?:=fun o=>by
  rw [hc _ _ zzd,World.cell?_drewN,World.cell?_alloc_past _ _ _ zzc,World.cell?_alloc_at _ _ _ _ rfl]
 have c1:∀o,w2.cell? ⟨w.heap.size+1,o,none⟩=#[b0,b1,b2][o]?:=fun o=>by
  rw [hc _ _ zzc,World.cell?_drewN,World.cell?_alloc_at _ _ _ _ zzc]
 have f0:∀o,w2.frozen? (Aq w.heap.size o)=false:=fun o=>by
  rw [hf _ _ zzd,World.frozen?_drewN,World.frozen?_alloc_past _ _ _ zzc,World.frozen?_alloc_at _ _ _ _ rfl]
 exact ⟨c0 0,c0 1,c0 2,f0 0,f0 1,f0 2,c1 0,c1 1,c1 2⟩
theorem Kq{w w2:World}{o p:Obj}{n:Nat}(h:Below (((w.alloc o).alloc p).drewN n).heap.size (((w.alloc o).alloc p).drewN n) w2):Bq w w2:=
 (below_drewN (xI w o p) n).trans (h.mono zzd)
theorem Ug(b off:Nat)(l:List UInt8)(c0 c1 h lo:UInt8)(w:World)(hgood:(hb h lo).2=true)(hsum:(hb h lo).1=xG l)(hl:2<=l.length)(hl2:l.length<=200)(hB:zy w b off l)(hbs:b<w.heap.size)
  (hc0:w.cell? (Aq b off)=some (Uq (c0.toNat:Int))) (hc1:w.cell? ⟨b,off+1,none⟩=some (Uq (c1.toNat:Int))):
  Calls prog 88 #[.slice (some (Aq b off)) l.length 200,Uq h.toNat,Uq lo.toNat] w fun e w'=>e=.returned (xp l c0 c1).val/\Bq w w':=by
 have HB:=qH1 hB;clear hB;have hne:=zjY (xG l);have HS:=qH1 hsum;clear hsum;go_enter func88,ntmps88;go_wp2_with fail;refine (ve h lo _).mono ?_;rintro e w1 ⟨rfl,rfl⟩;rw [hgood,HS.out];go_wp2_with fail;refine (XO b off 200 l _ zza (y8 (y8 HB.out hbs _) zzd _)).mono ?_;rintro e w1 ⟨rfl,rfl⟩;have b1:(1:Int)<(l.length:Int):=by omega
 have b0:(0:Int)<(l.length:Int):=by omega
 go_wp2_with fail;go_quiet ((go_at_call 135;exact Calls.quiet_of_same (ve _ _ _)));cases hq:(hb c0 c1).snd
 ·have hT:Hid (xp l c0 c1=xH):=by show _=_;simp [xp,hq]
  go_wp2;exact bodyPost_ret (v:=.agg #[Iq 0,Zq ⟨#[]⟩,Tq true]) (by simp [results,results88,go_sem]) rfl ⟨by rw [hT.out];rfl,(((below_drewN (xI _ _ _) _).setCell (Nat.le_refl _) _).setCell (Nat.le_refl _) _).setCell (Nat.le_refl _) _⟩
 ·have HQ:=qH1 hq;clear hq;go_wp2_with fail;refine (Uf b (off+2) 198 (l.length-2) (l.drop 2) _ zzc zzd (Ko (y8 (y8 (Hj HB.out 2) hbs _) zzd _) _) zzd).mono ?_;rintro e w2 ⟨rfl,hbel⟩;have HF:Hid (Bq w w2):=Kq hbel;obtain ⟨d0,d1,d2,f0,f1,f2,g0,g1,g2⟩:=Xh hbel;clear hbel;cases hu:xo (l.drop 2) with
  |none=>
   have hT:Hid (xp l c0 c1=xH):=by show _=_;simp [xp,HQ.out,hu]
   have hr:xR (l.drop 2)=(Zq ⟨#[]⟩,false):=by simp [xR,hu]
   rw [hr];clear hr hu;go_wp2;exact bodyPost_ret (v:=.agg #[Iq 0,Zq ⟨#[]⟩,Tq true]) (by simp [results,results88,go_sem,d0,d1,d2]) rfl ⟨by rw [hT.out];rfl,((HF.out.setCell (Nat.le_refl _) _).setCell (Nat.le_refl _) _).setCell (Nat.le_refl _) _⟩
  |some out=>
   have hr:xR (l.drop 2)=(Zq ⟨out.toArray⟩,true):=by simp [xR,hu]
   rw [hr];clear hr;by_cases h80:out.length<=80
   ·have hT:Hid (xp l c0 c1=⟨(hb c0 c1).1.toNat,out,false⟩):=by show _=_;simp [xp,HQ.out,hu,h80]
    have h81:(out.length:Int)<=80:=by omega
    have hc3:((hb c0 c1).1.toNat:Int)<256:=by have:=(hb c0 c1).1.toNat_lt;omega
    clear hu;go_wp2;exact bodyPost_ret (v:=.agg #[Iq (hb c0 c1).1.toNat,Zq ⟨out.toArray⟩,Tq false]) (by simp [results,results88,go_sem,d0,d1,d2]) rfl ⟨by rw [hT.out];rfl,((HF.out.setCell (Nat.le_refl _) _).setCell (Nat.le_refl _) _).setCell (Nat.le_refl _) _⟩
   ·have hT:Hid (xp l c0 c1=xH):=by show _=_;simp [xp,HQ.out,hu,h80]
    have h81:(80:Int)<(out.length:Int):=by omega
    clear hu h80;go_wp2;exact bodyPost_ret (v:=.agg #[Iq 0,Zq ⟨#[]⟩,Tq true]) (by simp [results,results88,go_sem,d0,d1,d2]) rfl ⟨by rw [hT.out];rfl,((HF.out.setCell (Nat.le_refl _) _).setCell (Nat.le_refl _) _).setCell (Nat.le_refl _) _⟩
theorem Vj(b off:Nat)(l:List UInt8)(h lo:UInt8)(w:World)(hl:l.length<=200)(hB:zy w b off l)(hbs:b<w.heap.size):Calls prog 88 #[.slice (some (Aq b off)) l.length 200,Uq h.toNat,Uq lo.toNat] w fun e w'=>e=.returned (yM l h lo).val/\Bq w w':=by
 cases h1:(hb h lo).2 with
 |false=>rw [show yM l h lo=xH from by simp [yM,h1]];exact Uc b off 200 l h lo w h1
 |true=>
  by_cases h2:(hb h lo).1=xG l
  ·by_cases h3:2<=l.length
   ·rw [show yM l h lo=xp l (l.getD 0 0) (l.getD 1 0) from by unfold yM;rw [if_pos ⟨h1,h2,h3⟩]];have e0:=hB 0 zza;have e1:=hB 1 zza;exact Ug b off l _ _ h lo w h1 h2 h3 hl hB hbs (by rw [Nat.add_zero] at e0;rw [e0];simp [List.getD,List.getElem?_eq_getElem (show 0<l.length by omega)]) (by rw [e1];simp [List.getD,List.getElem?_eq_getElem (show 1<l.length by omega)])
   ·rw [show yM l h lo=xH from by simp [yM,h3]];exact Ue b off 200 l h lo w h1 h2 zza hB hbs
  ·rw [show yM l h lo=xH from by simp [yM,h2]];exact Ud b off 200 l h lo w h1 h2 zza hB hbs
end
section
def yA(s:Sc)(l:List UInt8):Sc:=l.foldl Sc.step s
def zR:Sc->List UInt8->List Pk
 |_,[]=>[]
 |s,c::r=>(if s.st=3 then [yM s.raw s.sum c] else [])++zR (s.step c) r
theorem Uh(s:Sc)(a b:List UInt8):yA s (a++b)=yA (yA s a) b:=by simp [yA]
theorem qv(s:Sc)(a b:List UInt8):zR s (a++b)=zR s a++zR (yA s a) b:=by
 induction a generalizing s with
 |nil=>simp [zR,yA]
 |cons c r ih=>simp only [List.cons_append,zR,ih,List.append_assoc];rfl
def Pk.cells(p:Pk):List Value:=[Iq (p.seq:Int),Zq ⟨p.body.toArray⟩,Tq p.bad]
def vZ(ps:List Pk):List Value:=ps.flatMap Pk.cells
theorem Hk(ps:List Pk)(p:Pk):vZ (ps++ [p])=vZ ps++p.cells:=by simp [vZ]
theorem zdU:(prog.info? 152).map (fun i=>(i.zero,i.size,i.bytes))=some (some (.agg #[Iq 0,Zq ⟨#[]⟩,Tq false]),3,32):=by kernel_rfl
theorem zbb:prog.underlying 140=some (.slice 152):=by kernel_rfl
theorem JR(s:Sc)(l:List UInt8)(k:Nat)(h:k<l.length):yA s (l.take (k+1))=(yA s (l.take k)).step l[k]:=by
 rw [jp l k h,Uh];rfl
theorem Xi(s:Sc)(l:List UInt8)(k:Nat)(h:k<l.length)(h3:(yA s (l.take k)).st≠3):zR s (l.take (k+1))=zR s (l.take k):=by
 rw [jp l k h,qv];simp [zR,h3]
theorem Xj(s:Sc)(l:List UInt8)(k:Nat)(h:k<l.length)(h3:(yA s (l.take k)).st=3):zR s (l.take (k+1))=zR s (l.take k)++ [yM (yA s (l.take k)).raw (yA s (l.take k)).sum l[k]]:=by
 rw [jp l k h,qv];simp [zR,h3]
theorem Zc(s:Sc)(l:List UInt8)(k:Nat):(zR s (l.take k)).length<=(zR s l).length:=by
 have:zR s l=zR s (l.take k)++zR (yA s (l.take k)) (l.drop k):=by rw [<-qv,List.take_append_drop]
 rw [this];simp
theorem ScAt.lt{w:World}{B:Nat}{s:Sc}(h:ScAt w B s):B<w.heap.size:=World.block_lt_of_cell? w (Aq B 0) h.cst
theorem zgD:prog.underlying 108=some (.array 200 5):=by kernel_rfl
theorem zpb(B n:Nat)(h:n<=200)(w:World):Sem.run prog (Instr.sliceAt 108 (.pointer (some (Aq B 1))) none (some (Iq (n:Int))) none) w=.ok (.slice (some (Aq B 1)) n 200) w:=by
 have hal:prog.arrayLen 108=200:=by kernel_rfl
 have hel:prog.elem 108=5:=by kernel_rfl
 rw [run_sliceAt_array_h (P:=prog) w 108 (Aq B 1) (by rw [hal,hel];exact zgD) .i64 (n:Int) zza (by rw [hal];omega),hal,hel];simp [sizeOf,go_sem,slicedAt,Addr.add]
structure Fed (B:Nat) (w0 w:World) (v:Value) (s:Sc) (ps:List Pk):Prop where
 own:w.ownsRow w0.heap.size 152 3 v ps.length (vZ ps)
 nil:ps=[] ->v=Nq
 sc:ScAt w B s
 grown:w0.grownBy w (some B)
 lt:B<w0.heap.size
theorem zlX{p:Prop} (q:p:=by
 refine ⟨h.own.kept ht.2.1 ?_,h.nil,ht.1,yQ h.grown ht.2.1,h.lt⟩;cases hv:v.ownBlock with
 |none=>exact .inl rfl
 |some g=>
  refine .inr ?_;have h1:=(h.own.lt g hv).1;have h2:=h.lt;intro e;injection e with e;omega):p:=q
theorem Fed.turned{B:Nat}{w0 w w1:World}{v:Value}{s s':Sc}{ps:List Pk}(h:Fed B w0 w v s ps)(ht:zkD B s' w w1):Fed B w0 w1 v s' ps:=by
 exact zlX
theorem JT{w w':World}{base:Nat}{e:TypeId}{size:Nat}{v:Value}{n:Nat}{xs:List Value}(h:w.ownsRow base e size v n xs)(hb:Bq w w'):w'.ownsRow base e size v n xs:=
 h.kept ⟨hb.os,hb.tape,hb.output,hb.size,fun k hk _=>hb.block k hk⟩ (row:=none) (by cases v.ownBlock<;>simp)
theorem zmn{p:Prop} (q:p:=by
 exact ⟨h.st3,h.len,by rw [hc];exact h.cst,by rw [hc];exact h.cnt,by rw [hc];exact h.csum,fun i hi=>by rw [hc];exact h.bytes i hi,fun i hi=>by rw [hc];exact h.there i hi,fun o=>by rw [hf];exact h.free o⟩):p:=q
theorem ScAt.below{w w':World}{B:Nat}{s:Sc}(h:ScAt w B s)(hb:Bq w w'):ScAt w' B s:=by
 have hc:∀o,w'.cell? (Aq B o)=w.cell? (Aq B o):=fun o=>hb.cell (p:=(Aq B o)) h.lt
 have hf:∀o,w'.frozen? (Aq B o)=w.frozen? (Aq B o):=fun o=>hb.frozen (p:=(Aq B o)) h.lt
 exact zmn
theorem Zd{w w':World}(hb:Bq w w')(row:Option Nat):w.grownBy w' row:=⟨hb.os,hb.tape,hb.output,hb.size,fun k hk _=>hb.block k hk⟩
theorem Fed.below{B:Nat}{w0 w w1:World}{v:Value}{s:Sc}{ps:List Pk}(h:Fed B w0 w v s ps)(hb:Bq w w1):Fed B w0 w1 v s ps:=
 ⟨JT h.own hb,h.nil,h.sc.below hb,yQ h.grown (Zd hb _),h.lt⟩
theorem Ui{B:Nat}{w w':World}(h:Below B w.drew w'):Below B w w':=⟨h.os,h.tape,h.output,h.size,h.block⟩
theorem ScAt.grown{w w':World}{B:Nat}{s:Sc}{row:Option Nat}(h:ScAt w B s)(hg:w.grownBy w' row)(hne:some B≠row):ScAt w' B s:=by
 have hb:=hg.block B h.lt hne;have hc:∀o,w'.cell? (Aq B o)=w.cell? (Aq B o):=fun o=>World.cell?_of_block (a:=(Aq B o)) hb
 have hf:∀o,w'.frozen? (Aq B o)=w.frozen? (Aq B o):=fun o=>World.frozen?_of_block (a:=(Aq B o)) hb
 exact zmn
theorem znq{p:Prop} (q:p:=by
 refine ⟨by rw [Hk];simpa using hown,by simp,hal.grown hg hne,?_,h.lt⟩;have hs:=h.grown.size;have hs3:=hg.size;simp only [World.size_alloc] at hs3;refine ⟨hg.os.trans h.grown.os,hg.tape.trans h.grown.tape,hg.output.trans h.grown.output,by omega,?_⟩;intro k hk hkB;have hne':some k≠v.ownBlock:=fun e=>by have:=(h.own.lt k e.symm).1;omega
 exact (hg.block k zzd hne').trans ((Below.heap_alloc w o k zza).trans (h.grown.block k hk hkB))):p:=q
theorem Fed.append{B:Nat}{w0 w w3:World}{v:Value}{s:Sc}{ps:List Pk}{p:Pk}{o:Obj}{g cap:Nat}(h:Fed B w0 w v s ps)
  (hown:w3.ownsRow w0.heap.size 152 3 (Sq g (ps.length+1) cap) (ps.length+1) (vZ ps++p.cells)) (hg:(w.alloc o).grownBy w3 v.ownBlock):
  Fed B w0 w3 (Sq g (ps.length+1) cap) s (ps++ [p]):=by
 have hlt:=h.lt;have hne:some B≠v.ownBlock:=fun e=>by have:=(h.own.lt B e.symm).1;omega
 have hal:ScAt (w.alloc o) B s:=h.sc.grown (World.grownBy_alloc w o none) zzc;exact znq
theorem Uj(p:Pk):p.val=.agg #[Iq (p.seq:Int),Zq ⟨p.body.toArray⟩,Tq p.bad]:=rfl
theorem JU(w:World)(p:Pk)(t:TypeId):∀j u,p.cells[j]?=some u->(w.alloc (.cells #[Iq (p.seq:Int),Zq ⟨p.body.toArray⟩,Tq p.bad] t)).cell? (((Aq w.heap.size 0):Addr).add j)=some u:=
 World.news_of_block (w:=w.alloc (.cells #[Iq (p.seq:Int),Zq ⟨p.body.toArray⟩,Tq p.bad] t)) (cs:=#[Iq (p.seq:Int),Zq ⟨p.body.toArray⟩,Tq p.bad]) (t:=t) (fr:=(0,0)) (heap_alloc_new w _)
theorem JV(p:Pk):∀u∈p.cells,u.oneCell'=true:=by
 intro u hu;simp [Pk.cells] at hu;rcases hu with rfl|rfl|rfl<;>rfl
theorem znx{p:Prop} (q:p:=by
 have hke:l.take k=l:=List.take_of_length_le zza;rw [hke] at hF;have HF:=qH1 hF;clear hF hke;go_wp2;go_ret;exact ⟨_,rfl,HF.out⟩):p:=q
theorem zgx{p:Prop} (q:p:=by
 have H3':Hid (zR s (l.take (k+1))=ps):=by show _=_;rw [H3.out,if_neg h3]
 rw [decide_eq_false h3];clear h3 H3;go_wp2;go_roundw;case rel=>exact ⟨k+1,by omega,by go_num,by rw [HST.out,H3'.out];exact HT.out⟩
 case measure=>simp [intOf];omega):p:=q
theorem zot(B bb off cap:Nat)(s:Sc)(l:List UInt8)(w:World)(hs:ScAt w B s)(hl:l.length<=140737488355328)(hB:zy w bb off l)(hne:bb≠B)
  (hmax:(zR s l).length<=4194304):
  Calls prog 57 #[Pq B,.slice (some (Aq bb off)) l.length cap] w fun e w'=> ∃v,e=.returned v/\Fed B w w' v (yA s l) (zR s l):=by
 obtain ⟨i0,hi,hz0,hz1,hz2⟩:=info_parts zdU;have HB:=qH1 hB;have HF:Hid (Fed B w w (Nq) (yA s (l.take 0)) (zR s (l.take 0))):=⟨World.ownsRow_nil _ _ _ _,fun _=>rfl,hs,World.grownBy.refl _ _,hs.lt⟩;have HM:=qH1 hmax;have hBs:=hs.lt;clear hB hs hmax;go_enter func57,ntmps57;go_wp2;go_loopw [5,10] (fun v i wr=> ∃k:Nat,k<=l.length/\i=Iq k/\Fed B w wr v (yA s (l.take k)) (zR s (l.take k))) (fun _ i _=>l.length-(intOf i).toNat);case atStart=>exact ⟨0,Nat.zero_le _,rfl,HF.out⟩
 case round=>
  obtain ⟨k,hk,rfl,hF⟩:=hrel;clear HF;by_cases hlt:k<l.length
  ·have hcell:wr.cell? ⟨bb,off+k,none⟩=some (Uq (l[k].toNat:Int)):=hF.grown.cell (HB.out k hlt) (by simpa using hne);have hst:=Hid.out (p:=yA s (l.take (k+1))=(yA s (l.take k)).step l[k]) (JR s l k hlt);have HST:=qH1 hst;have hlen:(zR s (l.take k)).length<=4194304:=Nat.le_trans (Zc s l k) HM.out;have H3:Hid (zR s (l.take (k+1))=if (yA s (l.take k)).st=3 then zR s (l.take k)++ [yM (yA s (l.take k)).raw (yA s (l.take k)).sum l[k]] else zR s (l.take k)):=by
    show _=_;split
    ·exact Xj s l k hlt ‹_›
    ·exact Xi s l k hlt ‹_›
   clear hst;have HF:=qH1 hF;generalize zR s (l.take k)=ps at*;generalize yA s (l.take k)=t at*;clear hF;go_wp2_with fail;refine (zpo B t _ HF.out.sc l[k]).mono ?_;rintro e w1 ⟨rfl,hT⟩;have HT:Hid (Fed B w w1 u5 (t.step l[k]) ps):=HF.out.turned hT;clear hT HF hcell;by_cases h3:t.st=3
   ·have e1:Hid (t.step l[k]=⟨0,t.raw,t.sum⟩):=by show _=_;simp [Sc.step,h3]
    rw [e1.out] at HT HST;have H3':Hid (zR s (l.take (k+1))=ps++ [yM t.raw t.sum l[k]]):=by show _=_;rw [H3.out,if_pos h3]
    rw [decide_eq_true h3];have hc1:=HT.out.sc.cnt;have hc2:=HT.out.sc.csum;have hrl:t.raw.length<=200:=HT.out.sc.len;have hsl:=zpb B t.raw.length hrl;clear h3 H3;go_wp2_with fail;go_region_held3 (fun w'=>w'.cell? (Aq B 201)=some (Iq (t.raw.length:Int))/\w'.cell? (Aq B 202)=some (Uq (t.sum.toNat:Int))) (go_keep) (first|(go_at_call 88;go_must (refine (Vj B 1 t.raw t.sum l[k] _ hrl ?_ ?_).mono ?_;exact HT.out.sc.drew.bytes;exact HT.out.sc.lt;rintro e w2 ⟨rfl,hbel⟩;have k1:=cell_later hbel hc1;have k2:=cell_later hbel hc2;have HF2:Hid (Fed B w w2 u5 ⟨0,t.raw,t.sum⟩ ps):=HT.out.below (Ui hbel);have hn:=World.new_ne w2 (Aq B 201) k1;have hn2:=World.new_ne w2 (Aq B 202) k2;rw [Uj]))|(refine step_append_lies _ rfl (.tmp 17) (.tmp 32) 140 rfl w.heap.size 152 i0 _ 3 32 zbb hi hz0 hz1 hz2 rfl zzb u5 ps.length (vZ ps) rfl ?_ (Aq _ 0) 1 1 (Pk.cells (yM t.raw t.sum l[k])) rfl rfl ?_ ?_ zzb ?_ ?_ ?_ _ rfl ?_;go_must (exact HF2.out.own.alloc _;exact (JU _ _ _);exact (JV _);(unfold maxLen;omega);omega;(have:=HF2.out.grown.size;simp;omega);intro g' cap' w3 hown' hgrow hat hlt';have HF3:Hid (Fed B w w3 (Sq g' (ps.length+1) cap') ⟨0,t.raw,t.sum⟩ (ps++ [yM t.raw t.sum l[k]])):=HF2.out.append hown' hgrow;have k3:=HF3.out.sc.cnt;have k4:=HF3.out.sc.csum;clear hown' hgrow hat hlt' HF2)))
    all_goals
     go_wp2;go_roundw;case rel=>exact ⟨k+1,by omega,by go_num,by rw [HST.out,H3'.out];exact HF3.out⟩
     case measure=>simp [intOf];omega
   ·exact zgx
  ·exact znx
theorem zoJ(B bb off cap:Nat)(s:Sc)(l:List UInt8)(w:World)(hs:ScAt w B s)(hl:l.length<=140737488355328)(hB:zy w bb off l)(hne:bb≠B)
  (hmax:(zR s l).length<=4194304):
  Calls prog 71 #[Pq B,.slice (some (Aq bb off)) l.length cap] w fun e w'=> ∃v,e=.returned v/\Fed B w w' v (yA s l) (zR s l):=by
 have HS:=qH3 hs hB hmax;clear hs hB hmax;go_enter func71,ntmps71;go_wp2_with fail;refine (zot B bb off cap s l _ HS.out.1 hl HS.out.2.1 hne HS.out.2.2).mono ?_;rintro e w1 ⟨v,rfl,O⟩;have H:=qH1 O;clear O;go_wp2;go_ret;exact ⟨v,rfl,H.out⟩
end
section
variable {Q:Nat->Option Value}
structure ScS (Q:Nat->Option Value) (w:World) (B:Nat) (s:Sc):Prop where
 st3:s.st<=3
 len:s.raw.length<=200
 cst:w.cell? (Aq B 65562)=some (Uq (s.st:Int))
 cnt:w.cell? (Aq B 65763)=some (Iq (s.raw.length:Int))
 csum:w.cell? (Aq B 65764)=some (Uq (s.sum.toNat:Int))
 bytes:zy w B 65563 s.raw
 there:∀i,i<200->∃v,w.cell? ⟨B,65563+i,none⟩=some v
 free:∀o,w.frozen? (Aq B o)=false
 keep:∀o,o<65562\/65765<=o->w.cell? (Aq B o)=Q o
theorem znJ{p:Prop} (q:p:=by
 intro o ho;rw [World.cell?_setCell_other _ _ _ _ (zQ _ _ _ zza)];exact h.keep o ho):p:=q
theorem ScS.setSt{w:World}{B:Nat}{s:Sc}(h:ScS Q w B s)(n:Nat)(hn:n<=3):ScS Q (w.setCell (Aq B 65562) (Uq (n:Int))) B ⟨n,s.raw,s.sum⟩:=by
 refine ⟨hn,h.len,World.cell?_setCell_same _ _ _ h.cst,?_,?_,?_,?_,?_,?_⟩
 ·exact znY
 ·exact zkL
 ·exact zpO
 ·exact zc4
 ·intro o;rw [World.frozen?_setCell];exact h.free o
 ·exact znJ
theorem ScS.clear{w:World}{B:Nat}{s:Sc}(h:ScS Q w B s):ScS Q (w.setCell (Aq B 65763) (Iq 0)) B ⟨s.st,[],s.sum⟩:=by
 refine ⟨h.st3,by simp,?_,?_,?_,?_,?_,?_,?_⟩
 ·exact znZ
 ·exact World.cell?_setCell_same _ _ _ h.cnt
 ·exact zkL
 ·intro i hi;simp at hi
 ·exact zc4
 ·intro o;rw [World.frozen?_setCell];exact h.free o
 ·exact znJ
theorem ScS.setSum{w:World}{B:Nat}{s:Sc}(h:ScS Q w B s)(c:UInt8):ScS Q (w.setCell (Aq B 65764) (Uq (c.toNat:Int))) B ⟨s.st,s.raw,c⟩:=by
 refine ⟨h.st3,h.len,?_,?_,World.cell?_setCell_same _ _ _ h.csum,?_,?_,?_,?_⟩
 ·exact znZ
 ·exact znY
 ·exact zoa
 ·exact zc4
 ·intro o;rw [World.frozen?_setCell];exact h.free o
 ·exact znJ
theorem ScS.push{w:World}{B:Nat}{s:Sc}(h:ScS Q w B s)(c:UInt8)(hl:s.raw.length<200):ScS Q ((w.setCell ⟨B,65563+s.raw.length,none⟩ (Uq (c.toNat:Int))).setCell (Aq B 65763) (Iq ((s.raw.length:Int)+1))) B ⟨s.st,s.raw++ [c],s.sum⟩:=by
 obtain ⟨v,hv⟩:=h.there _ hl;refine ⟨h.st3,by simp;omega,?_,?_,?_,?_,?_,?_,?_⟩
 ·exact znX
 ·have e:w.cell? (Aq B 65763)=some (Iq (s.raw.length:Int)):=h.cnt;rw [<-World.cell?_setCell_other w ⟨B,65563+s.raw.length,none⟩ _ (Uq (c.toNat:Int)) (zQ _ _ _ zza)] at e;rw [World.cell?_setCell_same _ _ _ e];simp
 ·exact zm2
 ·exact zes
 ·exact zgv
 ·intro o;rw [World.frozen?_setCell,World.frozen?_setCell];exact h.free o
 ·intro o ho;rw [World.cell?_setCell_other _ _ _ _ (zQ _ _ _ zza),World.cell?_setCell_other _ _ _ _ (zQ _ _ _ zza)];exact h.keep o ho
theorem Vk(B:Nat)(s:Sc)(w:World)(h:ScS Q w B s):Cq 133 #[.pointer (some (Aq B 65562))] w (.tuple #[]) fun w'=>w'=(w.setCell (Aq B 65562) (Uq 1)).setCell (Aq B 65763) (Iq 0):=by
 have h1:=h.cst;have h2:=h.cnt;have f1:=h.free 65562;have f2:=h.free 65763;exact zpP
def v8(Q:Nat->Option Value)(B:Nat)(s':Sc)(w w':World):Prop:=ScS Q w' B s'/\w.grownBy w' (some B)/\w'.heap.size=w.heap.size
theorem ScS.drew{w:World}{B:Nat}{s:Sc}(h:ScS Q w B s):ScS Q w.drew B s:=
 ⟨h.st3,h.len,h.cst,h.cnt,h.csum,h.bytes,h.there,h.free,h.keep⟩
theorem Jv(B:Nat)(s:Sc)(w:World)(h:ScS Q w B s):Cq 134 #[.pointer (some (Aq B 65562)),Uq 36] w (.tuple #[]) fun w'=>w'=(w.setCell (Aq B 65562) (Uq 1)).setCell (Aq B 65763) (Iq 0):=by
 have H:=qH1 h;clear h;go_enter func134,ntmps134;go_wp2_with fail;refine (Vk B s _ H.out).mono ?_;rintro e w' ⟨rfl,rfl⟩;go_wp2;go_end0;exact ⟨rfl,rfl⟩
theorem Kr(B:Nat)(s:Sc)(w:World)(h:ScS Q w B s):Cq 134 #[.pointer (some (Aq B 65562)),Uq 35] w (.tuple #[]) fun w'=>w'=w.setCell (Aq B 65562) (Uq 2):=by
 have h1:=h.cst;have f1:=h.free 65562;clear h;exact zmN
theorem Uk(B:Nat)(s:Sc)(w:World)(h:ScS Q w B s)(c:UInt8)(h36:((c.toNat:Int)==36)=false)(h35:((c.toNat:Int)==35)=false)(hl:s.raw.length=200):Cq 134 #[.pointer (some (Aq B 65562)),Uq c.toNat] w (.tuple #[]) fun w'=>w'=w.setCell (Aq B 65562) (Uq 0):=by
 have h1:=h.cst;have h2:=h.cnt;rw [hl] at h2;have f1:=h.free 65562;clear h hl;exact zmN
theorem Ul(B:Nat)(s:Sc)(w:World)(h:ScS Q w B s)(c:UInt8)(h36:((c.toNat:Int)==36)=false)(h35:((c.toNat:Int)==35)=false)(hl:s.raw.length<200):Cq 134 #[.pointer (some (Aq B 65562)),Uq c.toNat] w (.tuple #[]) fun w'=>
   w'=((w.setCell ⟨B,65563+s.raw.length,none⟩ (Uq (c.toNat:Int))).setCell (Aq B 65763) (Iq ((s.raw.length:Int)+1))).drew:=by
 have h2:=h.cnt;obtain ⟨v,hv⟩:=h.there _ hl;have f1:=h.free 65763;have f2:=h.free (65563+s.raw.length);exact zl8
theorem ZP{B:Nat}{s:Sc}{w:World}(h:ScS Q w B s):v8 Q B ⟨1,[],s.sum⟩ w ((w.setCell (Aq B 65562) (Uq 1)).setCell (Aq B 65763) (Iq 0)):=
 ⟨(h.setSt 1 zza).clear,yQ (yU _ _ _ _) (yU _ _ _ _),by simp⟩
theorem Ks(B:Nat)(s:Sc)(w:World)(h:ScS Q w B s)(hs:s.st=1)(c:UInt8):Cq 134 #[.pointer (some (Aq B 65562)),Uq c.toNat] w (.tuple #[]) fun w'=>v8 Q B (s.step c) w w':=by
 by_cases h36:c=36
 ·subst h36;refine (Jv B s w h).mono ?_;rintro e w' ⟨rfl,rfl⟩;refine ⟨rfl,?_⟩;have e:s.step 36=⟨1,[],s.sum⟩:=by simp [Sc.step,hs]
  rw [e];exact ZP h
 ·by_cases h35:c=35
  ·subst h35;refine (Kr B s w h).mono ?_;exact zme
  ·by_cases hl:s.raw.length=200
   ·refine (Uk B s w h c (YO (n:=36) h36) (YO (n:=35) h35) hl).mono ?_;exact zlx
   ·have hlt:s.raw.length<200:=by have:=h.len;omega
    refine (Ul B s w h c (YO (n:=36) h36) (YO (n:=35) h35) hlt).mono ?_;exact zmm
theorem zgE(B:Nat)(s:Sc)(w:World)(h:ScS Q w B s)(hs:s.st=0)(c:UInt8):Cq 87 #[.pointer (some (Aq B 65562)),Uq c.toNat] w (Tq false) fun w'=>v8 Q B (s.step c) w w':=by
 have h1:=h.cst;rw [hs] at h1;by_cases h36:c=36
 ·subst h36;have e:s.step 36=⟨1,[],s.sum⟩:=by simp [Sc.step,hs]
  rw [e];have H:=qH1 h;clear h hs e;go_enter func87,ntmps87;go_wp2_with fail;refine (Vk B s _ H.out).mono ?_;rintro e w' ⟨rfl,rfl⟩;go_wp2;go_ret;exact ⟨rfl,ZP H.out⟩
 ·exact zma
theorem zgF(B:Nat)(s:Sc)(w:World)(h:ScS Q w B s)(hs:s.st=1)(c:UInt8):Cq 87 #[.pointer (some (Aq B 65562)),Uq c.toNat] w (Tq false) fun w'=>v8 Q B (s.step c) w w':=by
 have h1:=h.cst;rw [hs] at h1;have H:=qH1 h;have HS:=qH1 hs;clear h hs;go_enter func87,ntmps87;go_wp2_with fail;refine (Ks B s _ H.out HS.out c).mono ?_;rintro e w' ⟨rfl,hT⟩;have HT:=qH1 hT;clear hT;go_wp2;go_ret;exact ⟨rfl,HT.out⟩
theorem zgG(B:Nat)(s:Sc)(w:World)(h:ScS Q w B s)(hs:s.st=2)(c:UInt8):Cq 87 #[.pointer (some (Aq B 65562)),Uq c.toNat] w (Tq false) fun w'=>v8 Q B (s.step c) w w':=by
 have h1:=h.cst;rw [hs] at h1;have h2:=h.csum;have f1:=h.free 65562;have f2:=h.free 65764;exact znO
theorem zgH(B:Nat)(s:Sc)(w:World)(h:ScS Q w B s)(hs:s.st=3)(c:UInt8):Cq 87 #[.pointer (some (Aq B 65562)),Uq c.toNat] w (Tq true) fun w'=>v8 Q B (s.step c) w w':=by
 have h1:=h.cst;rw [hs] at h1;have f1:=h.free 65562;exact zkH
theorem zb0(B:Nat)(s:Sc)(w:World)(h:ScS Q w B s)(c:UInt8):Cq 87 #[.pointer (some (Aq B 65562)),Uq c.toNat] w (Tq (decide (s.st=3))) fun w'=>v8 Q B (s.step c) w w':=by
 have h3:=h.st3;rcases (show s.st=0\/s.st=1\/s.st=2\/s.st=3 from by omega) with e|e|e|e
 ·rw [e];exact zgE B s w h e c
 ·rw [e];exact zgF B s w h e c
 ·rw [e];exact zgG B s w h e c
 ·rw [e];exact zgH B s w h e c
end
section
variable {Q:Nat->Option Value}
theorem ScS.lt{w:World}{B:Nat}{s:Sc}(h:ScS Q w B s):B<w.heap.size:=World.block_lt_of_cell? w (Aq B 65562) h.cst
theorem Hl(B n:Nat)(h:n<=200)(w:World):Sem.run prog (Instr.sliceAt 108 (.pointer (some (Aq B 65563))) none (some (Iq (n:Int))) none) w=.ok (.slice (some (Aq B 65563)) n 200) w:=by
 have hal:prog.arrayLen 108=200:=by kernel_rfl
 have hel:prog.elem 108=5:=by kernel_rfl
 rw [run_sliceAt_array_h (P:=prog) w 108 (Aq B 65563) (by rw [hal,hel];exact zgD) .i64 (n:Int) zza (by rw [hal];omega),hal,hel];simp [sizeOf,go_sem,slicedAt,Addr.add]
structure FedS (Q:Nat->Option Value) (B:Nat) (w0 w:World) (v:Value) (s:Sc) (ps:List Pk):Prop where
 own:w.ownsRow w0.heap.size 152 3 v ps.length (vZ ps)
 nil:ps=[] ->v=Nq
 sc:ScS Q w B s
 grown:w0.grownBy w (some B)
 lt:B<w0.heap.size
theorem FedS.turned{B:Nat}{w0 w w1:World}{v:Value}{s s':Sc}{ps:List Pk}(h:FedS Q B w0 w v s ps)(ht:v8 Q B s' w w1):FedS Q B w0 w1 v s' ps:=by
 exact zlX
theorem zgw{p:Prop} (q:p:=by
 exact ⟨h.st3,h.len,by rw [hc];exact h.cst,by rw [hc];exact h.cnt,by rw [hc];exact h.csum,fun i hi=>by rw [hc];exact h.bytes i hi,fun i hi=>by rw [hc];exact h.there i hi,fun o=>by rw [hf];exact h.free o,fun o ho=>by rw [hc];exact h.keep o ho⟩):p:=q
theorem ScS.below{w w':World}{B:Nat}{s:Sc}(h:ScS Q w B s)(hb:Bq w w'):ScS Q w' B s:=by
 have hc:∀o,w'.cell? (Aq B o)=w.cell? (Aq B o):=fun o=>hb.cell (p:=(Aq B o)) h.lt
 have hf:∀o,w'.frozen? (Aq B o)=w.frozen? (Aq B o):=fun o=>hb.frozen (p:=(Aq B o)) h.lt
 exact zgw
theorem FedS.below{B:Nat}{w0 w w1:World}{v:Value}{s:Sc}{ps:List Pk}(h:FedS Q B w0 w v s ps)(hb:Bq w w1):FedS Q B w0 w1 v s ps:=
 ⟨JT h.own hb,h.nil,h.sc.below hb,yQ h.grown (Zd hb _),h.lt⟩
theorem ScS.grown{w w':World}{B:Nat}{s:Sc}{row:Option Nat}(h:ScS Q w B s)(hg:w.grownBy w' row)(hne:some B≠row):ScS Q w' B s:=by
 have hb:=hg.block B h.lt hne;have hc:∀o,w'.cell? (Aq B o)=w.cell? (Aq B o):=fun o=>World.cell?_of_block (a:=(Aq B o)) hb
 have hf:∀o,w'.frozen? (Aq B o)=w.frozen? (Aq B o):=fun o=>World.frozen?_of_block (a:=(Aq B o)) hb
 exact zgw
theorem FedS.append{B:Nat}{w0 w w3:World}{v:Value}{s:Sc}{ps:List Pk}{p:Pk}{o:Obj}{g cap:Nat}(h:FedS Q B w0 w v s ps)
  (hown:w3.ownsRow w0.heap.size 152 3 (Sq g (ps.length+1) cap) (ps.length+1) (vZ ps++p.cells)) (hg:(w.alloc o).grownBy w3 v.ownBlock):
  FedS Q B w0 w3 (Sq g (ps.length+1) cap) s (ps++ [p]):=by
 have hlt:=h.lt;have hne:some B≠v.ownBlock:=fun e=>by have:=(h.own.lt B e.symm).1;omega
 have hal:ScS Q (w.alloc o) B s:=h.sc.grown (World.grownBy_alloc w o none) zzc;exact znq
theorem jO(B bb off cap:Nat)(s:Sc)(l:List UInt8)(w:World)(hs:ScS Q w B s)(hl:l.length<=140737488355328)(hB:zy w bb off l)(hne:bb≠B)
  (hmax:(zR s l).length<=4194304):
  Calls prog 57 #[.pointer (some (Aq B 65562)),.slice (some (Aq bb off)) l.length cap] w fun e w'=> ∃v,e=.returned v/\FedS Q B w w' v (yA s l) (zR s l):=by
 obtain ⟨i0,hi,hz0,hz1,hz2⟩:=info_parts zdU;have HB:=qH1 hB;have HF:Hid (FedS Q B w w (Nq) (yA s (l.take 0)) (zR s (l.take 0))):=⟨World.ownsRow_nil _ _ _ _,fun _=>rfl,hs,World.grownBy.refl _ _,hs.lt⟩;have HM:=qH1 hmax;have hBs:=hs.lt;clear hB hs hmax;go_enter func57,ntmps57;go_wp2;go_loopw [5,10] (fun v i wr=> ∃k:Nat,k<=l.length/\i=Iq k/\FedS Q B w wr v (yA s (l.take k)) (zR s (l.take k))) (fun _ i _=>l.length-(intOf i).toNat);case atStart=>exact ⟨0,Nat.zero_le _,rfl,HF.out⟩
 case round=>
  obtain ⟨k,hk,rfl,hF⟩:=hrel;clear HF;by_cases hlt:k<l.length
  ·have hcell:wr.cell? ⟨bb,off+k,none⟩=some (Uq (l[k].toNat:Int)):=hF.grown.cell (HB.out k hlt) (by simpa using hne);have hst:=Hid.out (p:=yA s (l.take (k+1))=(yA s (l.take k)).step l[k]) (JR s l k hlt);have HST:=qH1 hst;have hlen:(zR s (l.take k)).length<=4194304:=Nat.le_trans (Zc s l k) HM.out;have H3:Hid (zR s (l.take (k+1))=if (yA s (l.take k)).st=3 then zR s (l.take k)++ [yM (yA s (l.take k)).raw (yA s (l.take k)).sum l[k]] else zR s (l.take k)):=by
    show _=_;split
    ·exact Xj s l k hlt ‹_›
    ·exact Xi s l k hlt ‹_›
   clear hst;have HF:=qH1 hF;generalize zR s (l.take k)=ps at*;generalize yA s (l.take k)=t at*;clear hF;go_wp2_with fail;refine (zb0 B t _ HF.out.sc l[k]).mono ?_;rintro e w1 ⟨rfl,hT⟩;have HT:Hid (FedS Q B w w1 u5 (t.step l[k]) ps):=HF.out.turned hT;clear hT HF hcell;by_cases h3:t.st=3
   ·have e1:Hid (t.step l[k]=⟨0,t.raw,t.sum⟩):=by show _=_;simp [Sc.step,h3]
    rw [e1.out] at HT HST;have H3':Hid (zR s (l.take (k+1))=ps++ [yM t.raw t.sum l[k]]):=by show _=_;rw [H3.out,if_pos h3]
    rw [decide_eq_true h3];have hc1:=HT.out.sc.cnt;have hc2:=HT.out.sc.csum;have hrl:t.raw.length<=200:=HT.out.sc.len;have hsl:=Hl B t.raw.length hrl;clear h3 H3;go_wp2_with fail;go_region_held3 (fun w'=>w'.cell? (Aq B 65763)=some (Iq (t.raw.length:Int))/\w'.cell? (Aq B 65764)=some (Uq (t.sum.toNat:Int))) (go_keep) (first|(go_at_call 88;go_must (refine (Vj B 65563 t.raw t.sum l[k] _ hrl ?_ ?_).mono ?_;exact HT.out.sc.drew.bytes;exact HT.out.sc.lt;rintro e w2 ⟨rfl,hbel⟩;have k1:=cell_later hbel hc1;have k2:=cell_later hbel hc2;have HF2:Hid (FedS Q B w w2 u5 ⟨0,t.raw,t.sum⟩ ps):=HT.out.below (Ui hbel);have hn:=World.new_ne w2 (Aq B 65763) k1;have hn2:=World.new_ne w2 (Aq B 65764) k2;rw [Uj]))|(refine step_append_lies _ rfl (.tmp 17) (.tmp 32) 140 rfl w.heap.size 152 i0 _ 3 32 zbb hi hz0 hz1 hz2 rfl zzb u5 ps.length (vZ ps) rfl ?_ (Aq _ 0) 1 1 (Pk.cells (yM t.raw t.sum l[k])) rfl rfl ?_ ?_ zzb ?_ ?_ ?_ _ rfl ?_;go_must (exact HF2.out.own.alloc _;exact (JU _ _ _);exact (JV _);(unfold maxLen;omega);omega;(have:=HF2.out.grown.size;simp;omega);intro g' cap' w3 hown' hgrow hat hlt';have HF3:Hid (FedS Q B w w3 (Sq g' (ps.length+1) cap') ⟨0,t.raw,t.sum⟩ (ps++ [yM t.raw t.sum l[k]])):=HF2.out.append hown' hgrow;have k3:=HF3.out.sc.cnt;have k4:=HF3.out.sc.csum;clear hown' hgrow hat hlt' HF2)))
    all_goals
     go_wp2;go_roundw;case rel=>exact ⟨k+1,by omega,by go_num,by rw [HST.out,H3'.out];exact HF3.out⟩
     case measure=>simp [intOf];omega
   ·exact zgx
  ·exact znx
end
section
def OwnV(base:Nat)(w0 w:World)(v:Value)(l:List UInt8):Prop:=w.ownsRow base 5 1 v l.length (zS l)/\Below base w0 w/\base<=w.heap.size
theorem OwnV.form{base:Nat}{w0 w:World}{v:Value}{l:List UInt8}(h:OwnV base w0 w v l)(hl:0<l.length):Owns base w0 w v l:=by
 obtain ⟨g,cap,e⟩:∃g cap,v=Sq g l.length cap:=by
  rcases h.1.2 with ⟨-,e⟩|⟨g,cap,cur,e, -⟩
  ·omega
  ·exact ⟨g,cap,e⟩
 exact ⟨g,cap,e,h.1,h.2.1,h.2.2⟩
theorem Owns.v{base:Nat}{w0 w:World}{v:Value}{l:List UInt8}(h:Owns base w0 w v l):OwnV base w0 w v l:=by
 obtain ⟨g,cap, -,h1,h2,h3⟩:=h;exact ⟨h1,h2,h3⟩
theorem jP{base:Nat}{w0 w w1:World}{v:Value}{l m:List UInt8}{o:Obj}{g' cap':Nat}(hown:w.ownsRow base 5 1 v l.length (zS l))(hb:Below base w0 w)(hs:base<=w.heap.size)
  (h:w1.ownsRow base 5 1 (Sq g' (l.length+m.length) cap') (l.length+m.length) (zS l++zS m)) (hg:(w.alloc o).grownBy w1 v.ownBlock):OwnV base w0 w1 (Sq g' (l.length+m.length) cap') (l++m):=
 (xe hown hb hs h hg).v
theorem Hm(base:Nat)(v:Value)(l:List UInt8)(n count:Nat)(w0 w:World)(hv:OwnV base w0 w v l)(hl:l.length<=1000)(hn:n<9223372036854775808)(hc:count<=16):Calls prog 84 #[v,Iq n,Iq count] w fun e w'=> ∃v',e=.returned v'/\OwnV base w0 w' v' (l++zX n count):=by
 obtain ⟨i0,hi,hz0,hz1,hz2⟩:=info_parts xP;have HO:=qH1 hv;clear hv;go_enter func84,ntmps84;go_wp2;go_loopw [0,7] (fun t i wr=> ∃(k:Nat) (cur:List UInt8),k<=count/\i=Iq ((k:Int)-1)/\OwnV base w0 wr t cur/\cur++zX n k=l++zX n count/\cur.length<=1016-k) (fun _ i _=>(intOf i+1).toNat);case atStart=>exact ⟨count,l,Nat.le_refl _,by go_num,HO.out,rfl,by omega⟩
 case round=>
  obtain ⟨k,cur,hk,rfl,hO,hcur,hcl⟩:=hrel;clear HO;obtain ⟨hown,hbel,hsz⟩:=hO;cases k with
  |zero=>
   have HF:Hid (OwnV base w0 wr u0 (l++zX n count)):=by
    have e:cur=l++zX n count:=by rw [<-hcur];simp [zX]
    subst e;exact ⟨hown,hbel,hsz⟩
   clear hown hbel hsz hcur;go_wp2;go_ret;exact ⟨_,rfl,HF.out⟩
  |succ j=>
   have hcur':Hid ((cur++ [vA (n/2 ^ (4*j)%16)])++zX n j=l++zX n count):=by show _=_;rw [<-hcur];simp [zX]
   clear hcur;have ej:((j+1:Nat):Int)-1=(j:Int):=by omega
   rw [ej];have HD:Hid (bits .and .i64 ((n:Int)/2 ^ (4*j)) 15=((n/2 ^ (4*j)%16:Nat):Int)):=zdP n j hn;have a0:0<=bits .and .i64 ((n:Int)/2 ^ (4*j)) 15:=by rw [HD.out];omega
   have a1:bits .and .i64 ((n:Int)/2 ^ (4*j)) 15<16:=by rw [HD.out];omega
   go_wp2_with (first|(at_builtin;go_must (refine wpList_append_lies _ rfl (.tmp 14) (.tmp 21) 35 rfl base 5 i0 (Uq 0) 1 1 zx hi hz0 hz1 hz2 rfl zzb u0 cur.length (zS cur) rfl (by exact (hown.alloc _)) (Aq wr.heap.size 0) 1 1 [Uq (vA (n/2 ^ (4*j)%16)).toNat] rfl rfl (Vh _ _ _ (zdQ _ _ HD.out _) _) (xa _) zzb zze zza zzd _ rfl ?_;intro g' cap' w1 hown' hgrow hat hlt')));have HO:=jP (m:=[vA (n/2 ^ (4*j)%16)]) hown hbel hsz hown' hgrow;clear hown hbel hsz hown' hgrow hat hlt';go_roundw;case rel=>exact ⟨j,cur++ [vA (n/2 ^ (4*j)%16)],by omega,by go_num,HO,hcur'.out,by simp;omega⟩
   case measure=>simp [intOf]
end
