import Derived.Deep.DeepCutAuto
import Derived.Handy
import Derived.Test.YtcgjliflnnklnaaGreatJ01
import Derived.Test.YtcgjliflnnklnaaGreatJ02
import Derived.Test.YtcgjliflnnklnaaGreatJ13
namespace Go.Proofs.YtcgjliflnnklnaaGreat
open Go.RowKit Tryz
set_option maxRecDepth 100000
set_option maxHeartbeats 4000000
def RG.val(r:RG):Value:=.agg #[Iq r.A,Iq r.X,Iq r.Y,Iq r.S,Iq r.P,Iq r.PC,Iq r.cyc,Tq r.jam]
def Act.val(a:Act):Value:=.agg #[Iq a.addr,Tq a.wr,Iq a.data,Tq a.ft]
def cdV(op md:BA):Value:=.agg #[Zq op,Zq md]
def zi(q:Act × Bool):Value:=.tuple #[q.1.val,Tq q.2]
theorem yT{w w':World}(h:Bq w w')(o:Obj):Bq w (w'.alloc o):=h.alloc h.size o
theorem YB{w w':World}(h:Bq w w'):Bq w w'.drew:=⟨h.os,h.tape,h.output,h.size,h.block⟩
theorem US{w w':World}(h:Bq w w'){b o:Nat}{v:Value}(hb:w.heap.size<=b):Bq w (w'.setCell (Aq b o) v):=h.setCell (p:=(Aq b o)) hb v
theorem UT{W w1:World}(hb:Bq W w1):(∀b o,b<W.heap.size->w1.cell? (Aq b o)=W.cell? (Aq b o))/\(∀b o,b<W.heap.size->w1.frozen? (Aq b o)=W.frozen? (Aq b o)):=
 ⟨fun b o h=>hb.cell (p:=(Aq b o)) h,fun b o h=>hb.frozen (p:=(Aq b o)) h⟩
theorem zfz(n m:Int)(hm:0<m):(n.tmod m<0/\n.tmod m+m=n%m)\/(¬n.tmod m<0/\n.tmod m=n%m):=by
 have h1:=Int.emod_nonneg n (show m≠0 by omega);have h2:=Int.emod_lt_of_pos n hm;rw [Int.tmod_eq_emod];split
 ·right;omega
 ·left;rename_i h;have:n%m≠0:=fun e=>h (.inr (Int.dvd_of_emod_eq_zero e))
  have e:((m.natAbs:Nat):Int)=m:=by omega
  omega
theorem zbX{p:Prop} (q:p:=by
 go_enter func91,ntmps91;go_wp2;go_ret;exact ⟨xT zza,rfl⟩):p:=q
theorem znI(m:Int)(hm:m=256\/m=65536)(n:Int)(w:World):Cq 91 #[Iq n,Iq m] w (Iq (n%m)) fun w'=>w'=w:=by
 have q:=zfz n m zza;have r1:=Int.emod_nonneg n (show m≠0 by omega);have r2:=Int.emod_lt_of_pos n (show 0<m by omega);rcases hm with rfl|rfl
 ·generalize n%256=x at*;generalize ht:n.tmod 256=t at*;rcases q with ⟨q1,q2⟩|⟨q1,q2⟩
  ·exact zbX
  ·exact zbX
 ·generalize n%65536=x at*;generalize ht:n.tmod 65536=t at*;rcases q with ⟨q1,q2⟩|⟨q1,q2⟩
  ·exact zbX
  ·exact zbX
theorem yb(n:Int)(w:World):Cq 91 #[Iq n,Iq 256] w (Iq (n%256)) fun w'=>w'=w:=znI 256 (.inl rfl) n w
theorem zD(n:Int)(w:World):Cq 91 #[Iq n,Iq 65536] w (Iq (n%65536)) fun w'=>w'=w:=znI 65536 (.inr rfl) n w
theorem yk(a:Int)(w:World):Cq 142 #[Iq a] w (zi (rdR a)) fun w'=>∃o,w'=w.alloc o:=by
 go_enter func142,ntmps142;go_wp2_with fail;refine (zD a _).mono ?_;rintro e w' ⟨rfl,rfl⟩;go_wp2;refine bodyPost_ret (v:=zi (rdR a)) (by simp [results,results142,go_sem,zi,Act.val,rdR, *]) rfl (And.intro rfl ?_);exact ⟨_,rfl⟩
theorem yr(a d:Int)(w:World):Cq 143 #[Iq a,Iq d] w (zi (wrR a d)) fun w'=>∃o,w'=w.alloc o:=by
 go_enter func143,ntmps143;go_wp2_with fail;refine (zD a _).mono ?_;rintro e w' ⟨rfl,rfl⟩;go_wp2;refine bodyPost_ret (v:=zi (wrR a d)) (by simp [results,results143,go_sem,zi,Act.val,wrR, *]) rfl (And.intro rfl ?_);exact ⟨_,rfl⟩
theorem yL(w:World):Cq 144 #[] w (zi dnR) fun w'=>∃o,w'=w.alloc o:=by
 go_enter func144,ntmps144;go_wp2;refine bodyPost_ret (v:=zi dnR) (by simp [results,results144,go_sem,zi,Act.val,dnR,Act.nil, *]) rfl (And.intro rfl ?_);exact ⟨_,rfl⟩
theorem zl6{p:Prop} (q:p:=by
 go_enter func196,ntmps196;go_wp2;go_ret;exact ⟨rfl,rfl⟩):p:=q
theorem rnz(p b:Int)(w:World):Cq 196 #[Iq p,Iq b] w (Iq (nzR p b)) fun w'=>w'=w:=by
 unfold nzR zp yp;dsimp only;by_cases h1:127<b
 ·have h2:¬b=0:=by omega
  rw [if_pos h1,if_neg h2];exact zl6
 ·by_cases h2:b=0
  ·subst h2;exact zl6
  ·rw [if_neg h1,if_neg h2];exact zl6
theorem zaA(p:Int)(c:Bool)(w:World):Cq 197 #[Iq p,Tq c] w (Iq (yN p c)) fun w'=>w'=w:=by
 cases c
 ·go_enter func197,ntmps197;go_wp2;go_ret;exact ⟨rfl,rfl⟩
 ·go_enter func197,ntmps197;go_wp2;go_ret;exact ⟨rfl,rfl⟩
theorem znN{p:Prop} (q:p:=by
 go_enter func154,ntmps154;go_wp2_with fail;refine (zD _ _).mono ?_;rintro e w' ⟨rfl,rfl⟩;go_wp2;go_ret;exact ⟨rfl,_,rfl⟩):p:=q
theorem zkd(r:RG)(d:Int)(w:World)(h0:0<=r.PC)(h1:r.PC<65536)(d0:0<=d)(d1:d<256):Cq 154 #[r.val,Iq d] w (Iq (yv r d)) fun w'=>∃o,w'=w.alloc o:=by
 obtain ⟨A,X,Y,S,P,PC,cyc,jam⟩:=r;unfold RG.val yv;dsimp only at h0 h1⊢;by_cases hd:127<d
 ·rw [if_pos hd];exact znN
 ·rw [if_neg hd];exact znN
theorem c8{n:Int}{w:World}{Q:Ending->World->Prop}(h:Q (.returned (Iq (n%256))) w):Calls prog 91 #[Iq n,Iq 256] w Q:=(yb n w).mono fun _ _ q=>by obtain ⟨rfl,rfl⟩:=q;exact h
theorem c16{n:Int}{w:World}{Q:Ending->World->Prop}(h:Q (.returned (Iq (n%65536))) w):Calls prog 91 #[Iq n,Iq 65536] w Q:=(zD n w).mono fun _ _ q=>by obtain ⟨rfl,rfl⟩:=q;exact h
theorem cNz{p b:Int}{w:World}{Q:Ending->World->Prop}(h:Q (.returned (Iq (nzR p b))) w):Calls prog 196 #[Iq p,Iq b] w Q:=(rnz p b w).mono fun _ _ q=>by obtain ⟨rfl,rfl⟩:=q;exact h
theorem cRd{a:Int}{w:World}{Q:Ending->World->Prop}(h:∀o,Q (.returned (.tuple #[.agg #[Iq (a%65536),Tq false,Iq 0,Tq false],Tq true])) (w.alloc o)):Calls prog 142 #[Iq a] w Q:=(yk a w).mono fun _ _ q=>by obtain ⟨rfl,o,rfl⟩:=q;exact h o
theorem cWr{a d:Int}{w:World}{Q:Ending->World->Prop}(h:∀o,Q (.returned (.tuple #[.agg #[Iq (a%65536),Tq true,Iq d,Tq false],Tq true])) (w.alloc o)):Calls prog 143 #[Iq a,Iq d] w Q:=(yr a d w).mono fun _ _ q=>by obtain ⟨rfl,o,rfl⟩:=q;exact h o
theorem cDn{w:World}{Q:Ending->World->Prop}(h:∀o,Q (.returned (.tuple #[.agg #[Iq 0,Tq false,Iq 0,Tq false],Tq false])) (w.alloc o)):Calls prog 144 #[] w Q:=(yL w).mono fun _ _ q=>by obtain ⟨rfl,o,rfl⟩:=q;exact h o
theorem zar(a b:BA):(a==b)=decide (a=b):=by
 cases a with
 |mk a=>cases b with
  |mk b=>
   show (a==b)=_;by_cases h:a=b
   ·subst h;simp
   ·rw [beq_eq_false_iff_ne.2 h,eq_comm,decide_eq_false_iff_not];intro e;exact h (congrArg ByteArray.data e)
theorem zfd{a b:BA}(h:ByteArray.toList a=ByteArray.toList b):a=b:=by
 rw [Go.ByteArray.toList_eq,Go.ByteArray.toList_eq] at h;cases a;cases b;exact congrArg ByteArray.mk (Array.ext' h)
theorem zj7{a b:BA}(h:a≠b):(ByteArray.toList a==ByteArray.toList b)=false:=beq_eq_false_iff_ne.2 fun e=>h (zfd e)
def zas(w:World)(b:Nat)(l:List BA):Prop:=∀i,(h:i<l.length)->w.cell? (Aq b i)=some (Zq l[i])
theorem zat(b cap n:Nat)(l:List BA)(x:BA)(w:World)(hn:l.length=n)(hl:n<=100)(h:zas w b l):Cq 151 #[Sq b n cap,Zq x] w (Tq (l.any fun s=>decide (s=x))) fun w'=>w'=w:=by
 subst hn;have HS:=qH1 h;clear h;go_enter func151,ntmps151;go_wp2_with fail;go_loopw [5] (fun i wr=> ∃k:Nat,k<=l.length/\i=Iq k/\(∀j,(hj:j<k)->(hl:j<l.length)->l[j]≠x)/\wr=w) (fun i _=>l.length-(intOf i).toNat);case atStart=>exact ⟨0,by omega,rfl,fun j hj=>by omega,rfl⟩
 case round=>
  obtain ⟨k,hk,rfl,hno,rfl⟩:=hrel;by_cases hlt:k<l.length
  ·have c:=HS.out k hlt;have HNo:=qH1 hno;have hk1:(k:Int)<(l.length:Int):=by omega
   clear hno;obtain ⟨y,hy⟩:∃y,l[k]=y:=⟨_,rfl⟩
   rw [hy] at c;by_cases hx:y=x
   ·subst hx;go_wp2;go_ret;refine ⟨?_,rfl⟩;rw [show (l.any fun s=>decide (s=y))=true from List.any_eq_true.2 ⟨l[k],List.getElem_mem _,by rw [hy];simp⟩];rfl
   ·have HY:Hid (l[k]≠x):=by rw [hy];exact hx
    have hx2:=zj7 hx;go_wp2;go_roundw;case rel=>exact ⟨k+1,by omega,by go_num,fun j hj hl=>by
     rcases Nat.lt_succ_iff_lt_or_eq.1 hj with h|rfl
     ·exact HNo.out j h hl
     ·exact HY.out,trivial⟩
    case measure=>simp [intOf];omega
  ·have e1:k=l.length:=by omega
   subst e1;have HNo:Hid ((l.any fun s=>decide (s=x))=false):=by
    show _=_;rw [List.any_eq_false];intro s hs;obtain ⟨j,hj,rfl⟩:=List.mem_iff_getElem.1 hs;simpa using hno j hj hj
   clear hno;go_wp2;go_ret;exact ⟨by rw [HNo.out];rfl,rfl⟩
theorem V6(w:World)(l:List BA)(t:TypeId):zas (w.alloc (.cells (l.map Value.string).toArray t)) w.heap.size l:=by
 intro i hi;exact (World.cell?_alloc_at _ _ _ _ rfl).trans (by rw [List.getElem?_toArray,List.getElem?_map,List.getElem?_eq_getElem hi];rfl)
def lW:List BA:=[b3 83 84 65,b3 83 84 88,b3 83 84 89]
def lC:List BA:=[b3 65 83 76,b3 76 83 82,b3 82 79 76,b3 82 79 82,b3 73 78 67,b3 68 69 67]
theorem zpZ{p:Prop} (q:p:=by
 simp only [zar,List.any_cons,List.any_nil,Bool.or_false,Bool.or_assoc,eq_comm (a:=op)]):p:=q
theorem zh8(op:BA):isW op=lW.any fun s=>decide (s=op):=by
 unfold isW lW;exact zpZ
theorem zh9(op:BA):isC op=lC.any fun s=>decide (s=op):=by
 unfold isC lC;exact zpZ
theorem vV(op md:BA)(w:World):Cq 157 #[cdV op md] w (Uq (zY op)) fun w'=>∃o1 o2 o3,w'=((w.alloc o1).alloc o2).alloc o3:=by
 unfold cdV zY;rw [zh8,zh9];have A1:∀ (w:World) (t:TypeId) (b:Nat),b=w.heap.size->Cq 151 #[Sq b 3 3,Zq op] (w.alloc (.cells #[Zq ⟨#[83,84,65]⟩,Zq ⟨#[83,84,88]⟩,Zq ⟨#[83,84,89]⟩] t)) (Tq (lW.any fun s=>decide (s=op))) fun w'=>w'=w.alloc (.cells #[Zq ⟨#[83,84,65]⟩,Zq ⟨#[83,84,88]⟩,Zq ⟨#[83,84,89]⟩] t):=fun w t b hb=>by subst hb;exact zat w.heap.size 3 3 lW op _ rfl zzb (V6 w lW t)
 have A2:∀ (w:World) (t:TypeId) (b:Nat),b=w.heap.size->Cq 151 #[Sq b 6 6,Zq op] (w.alloc (.cells #[Zq ⟨#[65,83,76]⟩,Zq ⟨#[76,83,82]⟩,Zq ⟨#[82,79,76]⟩,Zq ⟨#[82,79,82]⟩,Zq ⟨#[73,78,67]⟩,Zq ⟨#[68,69,67]⟩] t)) (Tq (lC.any fun s=>decide (s=op))) fun w'=>w'=w.alloc (.cells #[Zq ⟨#[65,83,76]⟩,Zq ⟨#[76,83,82]⟩,Zq ⟨#[82,79,76]⟩,Zq ⟨#[82,79,82]⟩,Zq ⟨#[73,78,67]⟩,Zq ⟨#[68,69,67]⟩] t):=fun w t b hb=>by subst hb;exact zat w.heap.size 6 6 lC op _ rfl zzb (V6 w lC t)
 generalize (lW.any fun s=>decide (s=op))=x at*;generalize (lC.any fun s=>decide (s=op))=y at*;go_enter func157,ntmps157;go_wp2_with fail;with_reducible refine (A1 _ _ _ zzc).mono ?_
 rintro e w1 ⟨rfl,hw⟩;subst hw;go_wp2_with fail;with_reducible refine (A2 _ _ _ zzc).mono ?_
 rintro e w1 ⟨rfl,hw⟩;subst hw;cases x<;>cases y
 all_goals
  go_wp2;go_ret;exact ⟨rfl,_,_,_,rfl⟩
theorem zlo(b p:Int):zF (b3 65 83 76) b p=(b*2%256,nzR (yN p (decide (127<b))) (b*2%256)):=rfl
theorem zlp(b p:Int):zF (b3 82 79 76) b p=(b*2%256+zp p 1,nzR (yN p (decide (127<b))) (b*2%256+zp p 1)):=rfl
theorem zlq(b p:Int):zF (b3 76 83 82) b p=(b/2,nzR (yN p (b%2==1)) (b/2)):=rfl
theorem zlr(b p:Int):zF (b3 82 79 82) b p=(b/2+128*zp p 1,nzR (yN p (b%2==1)) (b/2+128*zp p 1)):=rfl
theorem zls(b p:Int):zF (b3 73 78 67) b p=((b+1)%256,nzR p ((b+1)%256)):=rfl
theorem zlt(b p:Int):zF (b3 68 69 67) b p=((b-1)%256,nzR p ((b-1)%256)):=rfl
def chV(q:Int × Int):Value:=.tuple #[Iq q.1,Iq q.2]
theorem zfo(p:Int)(h0:0<=p)(h1:p<256):0<=zp p 1/\zp p 1<=1:=by
 unfold zp;obtain ⟨n,rfl⟩:∃n:Nat,p=n:=⟨p.toNat,by omega⟩
 have q:=Kh n 1 zza zzb;rw [show ((1:Nat):Int)=1 from rfl] at q;rw [q,Nat.and_one_is_mod];omega
theorem zx4{p:Prop} (q:p:=by
 unfold chV b3;have e1:(b*2).tmod 256=b*2%256:=Int.tmod_eq_emod_of_nonneg zza;have e2:b.tmod 2=b%2:=Int.tmod_eq_emod_of_nonneg zza;have e3:b.tdiv 2=b/2:=Int.tdiv_eq_ediv_of_nonneg zza;obtain ⟨a0,a1⟩:=zfo p p0 p1;unfold zp at*;generalize hA:bits .and .i64 p 1=A at*;go_enter func156,ntmps156;go_wp2_with (first|(go_at_call 197;refine (zaA _ _ _).mono ?_;rintro e w1 ⟨rfl,rfl⟩)|(go_at_call 196;refine (rnz _ _ _).mono ?_;rintro e w1 ⟨rfl,rfl⟩)|(go_at_call 91;refine (yb _ _).mono ?_;rintro e w1 ⟨rfl,rfl⟩));go_ret2;exact ⟨rfl,rfl⟩):p:=q
theorem zit(b p:Int)(b0:0<=b)(b1:b<256)(p0:0<=p)(p1:p<256)(w:World):Cq 156 #[Zq (b3 65 83 76),Iq b,Iq p] w (chV (zF (b3 65 83 76) b p)) fun w'=>w'=w:=by
 rw [zlo];exact zx4
theorem ziu(b p:Int)(b0:0<=b)(b1:b<256)(p0:0<=p)(p1:p<256)(w:World):Cq 156 #[Zq (b3 82 79 76),Iq b,Iq p] w (chV (zF (b3 82 79 76) b p)) fun w'=>w'=w:=by
 rw [zlp];exact zx4
theorem ziv(b p:Int)(b0:0<=b)(b1:b<256)(p0:0<=p)(p1:p<256)(w:World):Cq 156 #[Zq (b3 76 83 82),Iq b,Iq p] w (chV (zF (b3 76 83 82) b p)) fun w'=>w'=w:=by
 rw [zlq];exact zx4
theorem ziw(b p:Int)(b0:0<=b)(b1:b<256)(p0:0<=p)(p1:p<256)(w:World):Cq 156 #[Zq (b3 82 79 82),Iq b,Iq p] w (chV (zF (b3 82 79 82) b p)) fun w'=>w'=w:=by
 rw [zlr];exact zx4
theorem zix(b p:Int)(b0:0<=b)(b1:b<256)(p0:0<=p)(p1:p<256)(w:World):Cq 156 #[Zq (b3 73 78 67),Iq b,Iq p] w (chV (zF (b3 73 78 67) b p)) fun w'=>w'=w:=by
 rw [zls];exact zx4
theorem ziy(b p:Int)(b0:0<=b)(b1:b<256)(p0:0<=p)(p1:p<256)(w:World):Cq 156 #[Zq (b3 68 69 67),Iq b,Iq p] w (chV (zF (b3 68 69 67) b p)) fun w'=>w'=w:=by
 rw [zlt];exact zx4
theorem V8(op:BA)(hop:op∈lC)(b p:Int)(b0:0<=b)(b1:b<256)(p0:0<=p)(p1:p<256)(w:World):Cq 156 #[Zq op,Iq b,Iq p] w (chV (zF op b p)) fun w'=>w'=w:=by
 unfold lC at hop;simp only [List.mem_cons,List.not_mem_nil,or_false] at hop;rcases hop with rfl|rfl|rfl|rfl|rfl|rfl
 ·exact zit b p b0 b1 p0 p1 w
 ·exact ziv b p b0 b1 p0 p1 w
 ·exact ziu b p b0 b1 p0 p1 w
 ·exact ziw b p b0 b1 p0 p1 w
 ·exact zix b p b0 b1 p0 p1 w
 ·exact ziy b p b0 b1 p0 p1 w
theorem zbF{rom:Int}{cs:List Chn}(h:cs.all xO=true):yt rom cs=(decide (cs.length<=8) && (decide (yq cs<=4096) && (decide (0<=rom) &&decide (rom<=256)))):=by
 unfold yt;rw [h];by_cases a:cs.length<=8<;>by_cases b:yq cs<=4096<;>by_cases c:0<=rom<;>by_cases d:rom<=256<;>simp [a,b,c,d]
theorem zbG{rom:Int}{cs:List Chn}{k:Nat}(hk:k<cs.length)(h:xO cs[k]=false):yt rom cs=false:=
 JZ hk (fun e=>by rw [h] at e;cases e.1)
theorem zmM{p:Prop} (q:p:=by
 go_wp2;go_ret;exact ⟨ZH (by rw [HV.out];simp;omega),HBl.out⟩):p:=q
theorem zpL{p:Prop} (q:p:=by
 go_wp2;go_ret;exact ⟨ZH (HV.out (by rw [HO.out];simp;omega)).symm,HBl.out⟩):p:=q
theorem zjS(N:Nat)(v:Value)(cs:List Chn)(rom:Int)(w:World)(h:CfAt N w v cs)(hl:cs.length<=100000000)(hb:yq cs<=100000000):Cq 90 #[.agg #[v,Iq rom]] w (Tq (yt rom cs)) fun w'=>Bq w w':=by
 obtain ⟨p,cap,rfl,H⟩:=h;have HH:=qH1 H;have HL:=qH1 hb;clear H hb;go_enter func90,ntmps90;go_wp2;go_loopw [3,4] (fun n i wr=> ∃k:Nat,k<=cs.length/\i=Iq k/\n=Iq (yq (cs.take k):Int)/\(cs.take k).all xO=true/\wr=w.alloc (.cells #[.slice p cs.length cap,Iq rom] 26)) (fun _ i _=>cs.length-(intOf i).toNat);case atStart=>exact ⟨0,Nat.zero_le _,rfl,rfl,rfl,rfl⟩
 case round=>
  obtain ⟨k,hk,rfl,rfl,ha,hwr⟩:=hrel;have e0:wr.cell? (Aq w.heap.size 0)=some (.slice p cs.length cap):=by rw [hwr];exact World.cell?_alloc_at _ _ _ _ rfl
  have e1:wr.cell? (Aq w.heap.size 1)=some (Iq rom):=by rw [hwr];exact World.cell?_alloc_at _ _ _ _ rfl
  have HW:=qH1 hwr;have HBl:Hid (Bq w wr):=by rw [hwr];exact qBa
  clear hwr;by_cases hlt:k<cs.length
  ·obtain ⟨b,off,rfl,hbN,HC⟩:=HH.out (by intro e;rw [e] at hlt;simp at hlt);obtain ⟨c1,c2,p2,cap2,hv, -⟩:=HC k hlt;have d1:=(HBl.out.cell (p:=⟨b,off+k*2,none⟩) (yc (by rw [c1];simp))).trans c1;have d2:=(HBl.out.cell (p:=⟨b,off+k*2+1,none⟩) (yc (by rw [c2];simp))).trans c2;rw [hv] at d2;have HT:Hid (yq (cs.take (k+1))=yq (cs.take k)+cs[k].bs.length):=by show _=_;rw [Zi cs k hlt,Vq]
   have HV:Hid (xO cs[k]=false->yt rom cs=false):=zbG hlt;have HA:Hid (xO cs[k]=true->(cs.take (k+1)).all xO=true):=by intro e;rw [Zi cs k hlt,List.all_append,ha];simp [e]
   have HO:Hid (xO cs[k]=decide (0<=cs[k].at_/\cs[k].at_<65536)):=rfl;have hq:yq (cs.take k)+cs[k].bs.length<=100000000:=by rw [<-HT.out];exact Nat.le_trans (Vr cs _) HL.out
   clear c1 c2 hv HC ha;generalize cs[k].at_=A at*;generalize xO cs[k]=O at*;generalize cs[k].bs.length=L at*;generalize hTT:yq (cs.take k)=T at*;clear hTT;by_cases a0:A<0
   ·exact zpL
   ·have a0':0<=A:=by omega
    by_cases a1:65535<A
    ·exact zpL
    ·have a1':A<=65535:=by omega
     go_wp2;go_roundw;case rel=>exact ⟨k+1,by omega,by go_num,by rw [HT.out];go_num,HA.out (by rw [HO.out];simp;omega),HW.out⟩
     case measure=>simp [intOf];omega
  ·have hke:cs.take k=cs:=List.take_of_length_le zza;rw [hke] at ha⊢;have HV:Hid (yt rom cs=(decide (cs.length<=8) && (decide (yq cs<=4096) && (decide (0<=rom) &&decide (rom<=256))))):=zbF ha;clear ha hke;generalize yq cs=T at*;have hke:(k:Int)=(cs.length:Int):=by omega
   by_cases q0:(cs.length:Int)<=8
   ·by_cases q1:(T:Int)<=4096
    ·by_cases q2:0<=rom
     ·by_cases q3:rom<=256
      all_goals
       go_wp2;go_ret;exact ⟨ZH (by rw [HV.out];simp;omega),HBl.out⟩
     ·exact zmM
    ·exact zmM
   ·exact zmM
def zez(e:Nat × BA × BA):Value:=.agg #[Iq (e.1:Nat),Zq e.2.1,Zq e.2.2]
def mk3(d:Nat × Nat × BA × BA):Oper:=⟨some (d.1+1),.build 267 #[(0,.const (Iq (d.2.1:Nat))),(1,.const (Zq d.2.2.1)),(2,.const (Zq d.2.2.2))],267, "table.go:29",#[],none⟩
def Qm(a:Go.Act)(d:Nat × Nat × BA × BA):Go.Act:=a.put (some (d.1+1)) (zez d.2)
def rdata:List (Nat × Nat × BA × BA):=(List.range 151).zip yH
def zj5:List Value:=yH.flatMap fun e=>[Iq (e.1:Nat),Zq e.2.1,Zq e.2.2]
def ZR:Obj:=.cells zj5.toArray 267 (0,0)
theorem zhy(d:Nat × Nat × BA × BA)(a:Go.Act)(w:World):(execOp a.eval (mk3 d)).run prog w=.ok (.value (zez d.2)) w:=by
 obtain ⟨k,m,n,q⟩:=d;kernel_rfl
theorem Zn{P:Program}{ops:Array Oper}{rest:List Oper}{op:Oper}{a:Go.Act}{w w':World}{Q:Exit->Go.Act->World->Prop}(V:Value)(hgd:op.guard=none)
  (hv:(execOp a.eval op).run P w=.ok (.value V) w') (h:wpList P ops Q rest (a.put op.dst V) w'):wpList P ops Q (op::rest) a w:=
 wpList_plain hgd fun K hK=>by
  unfold Oper.wp;rw [hv];exact hK _ _ h
theorem Xo{ops:Array Oper}{Q:Exit->Go.Act->World->Prop}{w:World}(rest:List Oper):∀ (l:List (Nat × Nat × BA × BA)) (a:Go.Act),wpList prog ops Q rest (l.foldl Qm a) w->wpList prog ops Q (l.map mk3++rest) a w
 | [],_,h=>h
 |d::l,a,h=>Zn (op:=mk3 d) (zez d.2) rfl (zhy d a w) (Xo rest l (Qm a d) h)
theorem zcl{id:Nat}{ops:Array Oper}{Q:Exit->Go.Act->World->Prop}{a:Go.Act}{w:World}{V:Value}{o:Obj}(d:Oper)
  (e:ops.toList=rdata.map mk3++ [ops.toList.getD 151 d,ops.toList.getD 152 d])
  (g1:(ops.toList.getD 151 d).guard=none) (v1:(execOp (rdata.foldl Qm a).eval (ops.toList.getD 151 d)).run prog w=.ok (.value V) (w.alloc o))
  (g2:(ops.toList.getD 152 d).guard=none) (v2:∀w,(execOp ((rdata.foldl Qm a).put (ops.toList.getD 151 d).dst V).eval (ops.toList.getD 152 d)).run prog w=.ok (.value V) w)
  (h:Q .normal (((rdata.foldl Qm a).put (ops.toList.getD 151 d).dst V).put (ops.toList.getD 152 d).dst V) (w.alloc o)):(Code.region id ops false).wp prog Q a w:=by
 refine wp_region_list ?_;rw [e];refine Xo _ rdata a ?_;refine Zn V g1 v1 ?_;refine Zn V g2 (v2 _) ?_;exact h
theorem zkU(w:World):Cq 195 #[] w (Sq w.heap.size 151 151) fun w'=>w'=w.alloc ZR:=by
 go_enter func195,ntmps195;iterate 10 go_step
 refine zcl (V:=Sq w.heap.size 151 151) (o:=ZR) ⟨none,.alloc 0,0, "",#[],none⟩ ?e ?g1 ?v1 ?g2 ?v2 ?_;case e=>kernel_rfl
 case g1=>kernel_rfl
 case v1=>kernel_rfl
 case g2=>kernel_rfl
 case v2=>intro w;kernel_rfl
 generalize hA:(((rdata.foldl Qm _).put _ _).put _ _:Go.Act)=A9;have hr:A9.tmps[0]?.getD undef=Sq w.heap.size 151 151:=by rw [<-hA];kernel_rfl
 have hd:A9.defers=[]:=by rw [<-hA];kernel_rfl
 clear hA;rename_i Q' K ha;refine ha _ _ ?_;go_step;exact bodyPost_ret (v:=Sq w.heap.size 151 151) (by simp [results,results195,go_sem,hr]) (by simp [hd]) ⟨rfl,rfl⟩
